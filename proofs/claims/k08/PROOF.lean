import PyProof.Rows.All
import HandS.EndBits
import HandS.GenOver
import HandS.Base
import HandS.Call
import Wide.All
import OpenK.AllK
import Wide.FinOn
import HandS.ForMost
import HandS.FStr
import HandS.IsInst
import HandS.Flow
import HandS.TupAny
import HandS.ExcInit
import HandS.ExcSuper
import HandS.ExcField
import HandS.ExcIs
import HandS.ExcOwn
import HandS.Iter
import HandS.Style
import KE.KExcSuper
import KE.KExcIs
import KE.KeyNested
import HandS.Dict
import HandS.TupLen
import HandS.ReCall
import PyProof.Rows.ListMulArg
import PyProof.Rows.SeqMore
import PyProof.CallFns
import HandS.DictEq
import PyProof.NeKinds
import HandS.WordsDict
import HandS.List
import HandS.Comp
import HandS.GenCall
import PyProof.FactsGen
import HandS.GenList
import HandS.Exc
import KE.IntBitsLaws
import KE.KxText
import PyProof.ReprLen
import PyProof.StrLawsChain
import PyProof.Rows.StrNews2
import Wide.Txt
import PyProof.Rows.StrFin3
import PyProof.StrLaws
import PySem.Challenge.RW_sharerules_k08_texts_and_parts_of_rules
set_option Elab.async false
set_option linter.all false
set_option maxRecDepth 100000
set_option maxHeartbeats 4000000
/-! A second machine: a yield through `yield from` over a generator is taken as an ordinary one. What the library shows of the first one holds of it too. -/
namespace D
open PySem
/-- whether an object is a generator -/
def isG (o : Option Obj) : Bool := (o.bind fun x => x.genNumber?).isSome
/-- over what a code yields on -/
def yf : Code → Option Addr
  | .builtin id ⟨.ref a :: _, _⟩ => if id = "proto.yield_from" then some a else none
  | _ => none
def softY {α : Type} (a? : Option Addr) (v : Value) (g : Bool) (k : Resume → Sem α) : Sem α :=
  match g, a? with
  | true, some a => .loadIfAlive a fun o => if isG o = true then .yield v false [.none] k else .yield v true [] k
  | g, _ => .yield v g [] k
def soft {α : Type} (a? : Option Addr) : Sem α → Sem α
  | .pure a => .pure a
  | .raise e => .raise e
  | .unsupported x => .unsupported x
  | .finish e => .finish e
  | .rule t k => .rule t fun u => soft a? (k u)
  | .at p k => .at p fun u => soft a? (k u)
  | .load a q k => .load a q fun o => soft a? (k o)
  | .update a q f k => .update a q f fun u => soft a? (k u)
  | .alloc o k => .alloc o fun u => soft a? (k u)
  | .loadIfAlive a k => .loadIfAlive a fun u => soft a? (k u)
  | .point l k => .point l fun u => soft a? (k u)
  | .register a k => .register a fun u => soft a? (k u)
  | .fresh k => .fresh fun u => soft a? (k u)
  | .ask k => .ask fun u => soft a? (k u)
  | .choose c n k => .choose c n fun u => soft a? (k u)
  | .os q l k => .os q l fun u => soft a? (k u)
  | .call c h g l k => .call c h g l fun u => soft a? (k u)
  | .handled o k => .handled o fun u => soft a? (k u)
  | .newGen c k => .newGen c fun u => soft a? (k u)
  | .genState g k => .genState g fun u => soft a? (k u)
  | .resume g r l k => .resume g r l fun u => soft a? (k u)
  | .yield v g _ k => softY a? v g fun u => soft a? (k u)
  | .stack k => .stack fun u => soft a? (k u)
  | .fork c k => .fork c fun u => soft a? (k u)
  | .thread k => .thread fun u => soft a? (k u)
  | .await a f d l k => .await a f d l fun u => soft a? (k u)
def den2 (c : Code) : Sem PySem.Fin := soft (yf c) (denote table c)
def model2 (prog : Program) (w : World) : Model := ⟨den2, prog, w⟩
def sF : Frame → Frame
  | .ret k h g l c p kp => .ret (fun r => soft (yf c) (k r)) h g l c p kp
  | .gen g k l c p => .gen g (fun r => soft (yf c) (k r)) l c p
def sG : GenState → GenState
  | .fresh c => .fresh c
  | .suspended k _ c p fs cl => .suspended (fun r => soft (yf c) (k r)) [] c p (fs.map sF) cl
  | .running => .running
  | .finished => .finished
def susp : GenState → Bool
  | .suspended .. => true
  | _ => false
/-- asleep, and never to be woken -/
def dead : GenState → GenState
  | .suspended _ l c p fs cl => .suspended (fun _ => .unsupported "dead") l c p fs cl
  | x => x
/-! ### frames -/
@[simp] theorem sF_where (F : Frame) : (sF F).where_ = F.where_ := by cases F <;> rfl
@[simp] theorem sF_guarded (F : Frame) : (sF F).guarded = F.guarded := by cases F <;> rfl
theorem where_map (fs : List Frame) : (fs.map sF).map Frame.where_ = fs.map Frame.where_ := by
  rw [List.map_map]; congr 1; funext F; simp
theorem guard_map (fs : List Frame) : (fs.map sF).any Frame.guarded = fs.any Frame.guarded := by
  rw [List.any_map]; congr 1; funext F; simp
theorem marks_map (fs : List Frame) (x) : marksOver (fs.map sF) x = marksOver fs x := by
  induction fs with
  | nil => rfl
  | cons F fs ih =>
    simp only [List.map_cons, marksOver_cons, ih]
    cases F <;> rfl
def sB : Nat × (GenResult → Sem PySem.Fin) × Code × Pos → Nat × (GenResult → Sem PySem.Fin) × Code × Pos := fun b => (b.1, (fun r => soft (yf b.2.2.1) (b.2.1 r)), b.2.2.1, b.2.2.2)
theorem split_map (fs : List Frame) : splitAtGen (fs.map sF) = (splitAtGen fs).map fun x => (x.1.map sF, sB x.2.1, x.2.2.map sF) := by
  induction fs with
  | nil => rfl
  | cons F fs ih =>
    cases F with
    | gen g k l c p => rfl
    | ret k h g l c p kp =>
      rw [List.map_cons]
      show splitAtGen (Frame.ret _ h g l c p kp :: fs.map sF) = _
      rw [splitAtGen_ret, splitAtGen_ret, ih]
      cases splitAtGen fs <;> rfl
theorem split_none {F : Frame} {fs : List Frame} (h : splitAtGen (F :: fs) = none) : splitAtGen (sF F :: fs.map sF) = none := by
  have := split_map (F :: fs)
  rw [h] at this
  exact this
theorem top_go_map (fs : List Frame) : ∀ b, topHandled.go b (fs.map sF) = topHandled.go b fs := by
  induction fs with
  | nil => intro b; rfl
  | cons F fs ih =>
    intro b
    cases F with
    | gen g k l c p => exact ih false
    | ret k h g l c p kp =>
      cases b with
      | true => exact ih true
      | false =>
        cases h with
        | none => exact ih false
        | some e =>
          show (if e == byPass then topHandled.go true (fs.map sF) else some e) = if e == byPass then topHandled.go true fs else some e
          rw [ih]
theorem top_map (fs : List Frame) : topHandled (fs.map sF) = topHandled fs := top_go_map fs false
theorem over_map (Γ : Ctx) (fs : List Frame) : Γ.over (fs.map sF) = Γ.over fs := by
  unfold Ctx.over
  rw [marks_map, marks_map, where_map, split_map]
  cases splitAtGen fs with
  | none => rfl
  | some x =>
    obtain ⟨pre, b, rest⟩ := x
    show Ctx.mk _ _ (topHandled (pre.map sF)) _ _ = _
    rw [top_map]
theorem seen_sG (x : GenState) : (sG x).seen = x.seen := by
  cases x with
  | suspended k l c p fs cl => show (GenStatus.suspended, some ((c, p) :: (fs.map sF).map Frame.where_)) = _; rw [where_map]; rfl
  | _ => rfl
theorem seen_dead (x : GenState) : (dead x).seen = x.seen := by cases x <;> rfl
/-! ### states -/
/-- no generator's frame among the frames that it sleeps with -/
def NoG : GenState → Prop
  | .suspended _ _ _ _ fs _ => splitAtGen fs = none
  | _ => True
structure RelS (B : Array GenState) (s s2 : Shared) : Prop where
  heap : s2.heap = s.heap
  drawn : s2.drawn = s.drawn
  toks : s2.toks = s.toks
  os : s2.os = s.os
  size : s2.gens.size = s.gens.size
  le : B.size ≤ s.gens.size
  old : ∀ (i : Nat) (z : GenState), B[i]? = some z → susp z = true → s.gens[i]? = some (dead z) ∧ s2.gens[i]? = some z
  new : ∀ i : Nat, (∀ z, B[i]? = some z → susp z = false) → s2.gens[i]? = (s.gens[i]?).map sG
  nog : ∀ i : Nat, (∀ z, B[i]? = some z → susp z = false) → ∀ x, s.gens[i]? = some x → NoG x
inductive RelE : End → End → Prop
  | ret (r) : RelE (.ret r) (.ret r)
  | susp (v g l k c p fs g2 l2) (h : (g2 = g ∧ l2 = []) ∨ g = true) (hn : splitAtGen fs = none) : RelE (.susp v g l k c p fs) (.susp v g2 l2 (fun r => soft (yf c) (k r)) c p (fs.map sF))
theorem RelE.quiet {e e2 : End} (h : RelE e e2) (q : e.quiet = true) : e2.quiet = true ∧ e2.result = e.result ∧ e2.genState = sG e.genState ∧ NoG e.genState := by
  cases h with
  | ret r => exact ⟨rfl, rfl, rfl, trivial⟩
  | susp v g l k c p fs g2 l2 h hn =>
    have q' : (!(g || fs.any Frame.guarded)) = true := q
    simp only [Bool.not_eq_true', Bool.or_eq_false_iff] at q'
    obtain ⟨rfl, hf⟩ := q'
    rcases h with ⟨rfl, rfl⟩ | h
    · refine ⟨?_, rfl, ?_, hn⟩
      · show (!(false || (fs.map sF).any Frame.guarded)) = true
        rw [guard_map, hf]; rfl
      · show GenState.suspended _ _ _ _ _ (false || (fs.map sF).any Frame.guarded) = _
        rw [guard_map]; rfl
    · cases h
theorem RelE.app {v v2 : Value} {g g2 : Bool} {l l2 : List Value} {k k2 : Resume → Sem PySem.Fin} {c c2 : Code} {p p2 : Pos} {fs fs2 gs : List Frame} (h : RelE (.susp v g l k c p fs) (.susp v2 g2 l2 k2 c2 p2 fs2)) (hg : splitAtGen gs = none) :
    RelE (.susp v g l k c p (fs ++ gs)) (.susp v2 g2 l2 k2 c2 p2 (fs2 ++ gs.map sF)) := by
  cases h with
  | susp _ _ _ _ _ _ _ _ _ h hn =>
    rw [← List.map_append]
    exact RelE.susp v g l k c p (fs ++ gs) g2 l2 h (by rw [splitAtGen_append_none _ hn, hg]; rfl)
theorem RelS.mem {B : Array GenState} {s s2 : Shared} (R : RelS B s s2) {g : Nat} {x : GenState} (h : s.gens[g]? = some x) : (s2.gens[g]? = some (sG x) ∧ ∀ z, B[g]? = some z → susp z = false) ∨ ∃ z, B[g]? = some z ∧ susp z = true ∧ x = dead z ∧ s2.gens[g]? = some z := by
  by_cases q : ∀ z, B[g]? = some z → susp z = false
  · left; exact ⟨by rw [R.new g q, h]; rfl, q⟩
  · right
    simp only [Classical.not_forall] at q
    obtain ⟨z, e, hz⟩ := q
    have hz : susp z = true := by cases h : susp z <;> simp_all
    obtain ⟨e1, e2⟩ := R.old g z e hz
    rw [h] at e1; cases e1
    exact ⟨z, e, hz, rfl, e2⟩
theorem RelS.plain {B : Array GenState} {s s2 : Shared} (R : RelS B s s2) {g : Nat} {x : GenState} (h : s.gens[g]? = some x) (hx : susp x = false) : s2.gens[g]? = some (sG x) ∧ ∀ z, B[g]? = some z → susp z = false := by
  have : ∀ z, B[g]? = some z → susp z = false := fun z e => by
    cases q : susp z with
    | false => rfl
    | true =>
      obtain ⟨e1, _⟩ := R.old g z e q
      rw [h] at e1; cases e1
      cases z <;> simp_all [susp, dead]
  exact ⟨by rw [R.new g this, h]; rfl, this⟩
theorem RelS.set {B : Array GenState} {s s2 : Shared} (R : RelS B s s2) {g : Nat} (hg : ∀ z, B[g]? = some z → susp z = false) (x : GenState) (hx : NoG x) : RelS B (s.setGen g x) (s2.setGen g (sG x)) where
  heap := R.heap
  drawn := R.drawn
  toks := R.toks
  os := R.os
  size := by simp [Shared.setGen, R.size]
  le := by simp [Shared.setGen, R.le]
  old := fun i z e hz => by
    have hne : g ≠ i := fun q => by subst q; rw [hg z e] at hz; cases hz
    show (s.gens.setIfInBounds g x)[i]? = _ ∧ (s2.gens.setIfInBounds g (sG x))[i]? = _
    rw [Array.getElem?_setIfInBounds_ne hne, Array.getElem?_setIfInBounds_ne hne]
    exact R.old i z e hz
  new := fun i hi => by
    show (s2.gens.setIfInBounds g (sG x))[i]? = ((s.gens.setIfInBounds g x)[i]?).map sG
    by_cases hne : g = i
    · subst hne
      rw [Array.getElem?_setIfInBounds_self, Array.getElem?_setIfInBounds_self, R.size]
      split <;> rfl
    · rw [Array.getElem?_setIfInBounds_ne hne, Array.getElem?_setIfInBounds_ne hne]
      exact R.new i hi
  nog := fun i hi y e => by
    have e : (s.gens.setIfInBounds g x)[i]? = some y := e
    by_cases hne : g = i
    · subst hne
      rw [Array.getElem?_setIfInBounds_self] at e
      split at e
      · cases e; exact hx
      · cases e
    · rw [Array.getElem?_setIfInBounds_ne hne] at e
      exact R.nog i hi y e
theorem no_unsupported {M : Model} {Γ : Ctx} {p : Pos} {t : Sem PySem.Fin} {fs : List Frame} {s s' : Shared} {e : End} {x : String} (h : Runs M Γ p t fs s e s') : t ≠ .unsupported x := by
  induction h <;> first | (intro q; cases q; done) | assumption
theorem RelS.up {B : Array GenState} {s s2 : Shared} (R : RelS B s s2) (f : Shared → Shared) (h1 : ∀ x, (f x).gens = x.gens) (h2 : (f s2).heap = (f s).heap) (h3 : (f s2).drawn = (f s).drawn) (h4 : (f s2).toks = (f s).toks) (h5 : (f s2).os = (f s).os) : RelS B (f s) (f s2) :=
  ⟨h2, h3, h4, h5, by rw [h1, h1]; exact R.size, by rw [h1]; exact R.le, fun i z e hz => by rw [h1, h1]; exact R.old i z e hz, fun i hi => by rw [h1, h1]; exact R.new i hi, fun i hi y e => by rw [h1] at e; exact R.nog i hi y e⟩
theorem RelS.push {B : Array GenState} {s s2 : Shared} (R : RelS B s s2) (c : Code) : RelS B { s with gens := s.gens.push (.fresh c) } { s2 with gens := s2.gens.push (.fresh c) } where
  heap := R.heap
  drawn := R.drawn
  toks := R.toks
  os := R.os
  size := by simp [R.size]
  le := by simp; have := R.le; omega
  old := fun i z e hz => by
    have hi : i < s.gens.size := Nat.lt_of_lt_of_le (Array.getElem?_eq_some_iff.mp e).1 R.le
    have h1 : i ≠ s.gens.size := by omega
    have h2 : i ≠ s2.gens.size := by rw [R.size]; exact h1
    show (s.gens.push _)[i]? = _ ∧ (s2.gens.push _)[i]? = _
    rw [Array.getElem?_push, Array.getElem?_push, if_neg h1, if_neg h2]
    exact R.old i z e hz
  new := fun i hi => by
    show (s2.gens.push _)[i]? = ((s.gens.push _)[i]?).map sG
    rw [Array.getElem?_push, Array.getElem?_push, R.size]
    split
    · rfl
    · exact R.new i hi
  nog := fun i hi y e => by
    have e : (s.gens.push (.fresh c))[i]? = some y := e
    rw [Array.getElem?_push] at e
    split at e
    · cases e; trivial
    · exact R.nog i hi y e
section
variable {prog : Program} {w : World}
theorem yield_soft {Γ : Ctx} {p : Pos} {v : Value} {g : Bool} {l : List Value} {k : Resume → Sem PySem.Fin} {s2 : Shared} :
    ∃ e2, Runs (model2 prog w) Γ p (soft (yf Γ.code) (.yield v g l k)) [] s2 e2 s2 ∧ RelE (.susp v g l k Γ.code p []) e2 := by
  have plain : ∀ g2, (g2 = g ∨ g = true) → ∃ e2, Runs (model2 prog w) Γ p (.yield v g2 [] fun u => soft (yf Γ.code) (k u)) [] s2 e2 s2 ∧ RelE (.susp v g l k Γ.code p []) e2 := fun g2 h =>
    ⟨_, .yield, RelE.susp v g l k Γ.code p [] g2 [] (h.imp (fun q => ⟨q, rfl⟩) id) rfl⟩
  show ∃ e2, Runs (model2 prog w) Γ p (softY (yf Γ.code) v g fun u => soft (yf Γ.code) (k u)) [] s2 e2 s2 ∧ _
  cases g with
  | false => exact plain false (.inl rfl)
  | true =>
    cases q : yf Γ.code with
    | none => rw [q] at plain; exact plain true (.inl rfl)
    | some a =>
      show ∃ e2, Runs (model2 prog w) Γ p (.loadIfAlive a fun o => if isG o = true then .yield v false [.none] _ else .yield v true [] _) [] s2 e2 s2 ∧ _
      by_cases z : isG (s2.heap.get? a) = true
      · refine ⟨_, .loadIfAlive (by rw [if_pos z]; exact .yield), ?_⟩
        have := RelE.susp v true l k Γ.code p [] false [.none] (.inr rfl) rfl
        rw [q] at this; exact this
      · refine ⟨_, .loadIfAlive (by rw [if_neg z]; exact .yield), ?_⟩
        have := RelE.susp v true l k Γ.code p [] true [] (.inl ⟨rfl, rfl⟩) rfl
        rw [q] at this; exact this
theorem runs_soft {Γ : Ctx} {p : Pos} {t : Sem PySem.Fin} {fs : List Frame} {s s' : Shared} {e : End} {B : Array GenState} (h : Runs (model prog w) Γ p t fs s e s') :
    splitAtGen fs = none → ∀ s2, RelS B s s2 → ∃ e2 s2', Runs (model2 prog w) Γ p (soft (yf Γ.code) t) (fs.map sF) s2 e2 s2' ∧ RelE e e2 ∧ RelS B s' s2' := by
  induction h with
  | done => intro hf s2 R; exact ⟨_, _, .done, .ret _, R⟩
  | raise => intro hf s2 R; exact ⟨_, _, .raise, .ret _, R⟩
  | again q _ ih => intro hf s2 R; obtain ⟨e2, s3, h, r⟩ := ih rfl s2 R; exact ⟨e2, s3, .again q h, r⟩
  | rule _ ih => intro hf s2 R; obtain ⟨e2, s3, h, r⟩ := ih rfl s2 R; exact ⟨e2, s3, .rule h, r⟩
  | «at» _ ih => intro hf s2 R; obtain ⟨e2, s3, h, r⟩ := ih rfl s2 R; exact ⟨e2, s3, .at h, r⟩
  | load q _ ih => intro hf s2 R; obtain ⟨e2, s3, h, r⟩ := ih rfl s2 R; exact ⟨e2, s3, .load (by rw [R.heap]; exact q) h, r⟩
  | update q _ ih =>
    intro hf s2 R
    obtain ⟨e2, s3, h, r⟩ := ih rfl _ (R.up (fun x => { x with heap := x.heap.update _ _ }) (fun _ => rfl) (by simp only [R.heap]) R.drawn R.toks R.os)
    exact ⟨e2, s3, .update (by rw [R.heap]; exact q) h, r⟩
  | loadIfAlive _ ih => intro hf s2 R; obtain ⟨e2, s3, h, r⟩ := ih rfl s2 R; exact ⟨e2, s3, .loadIfAlive (by rw [R.heap]; exact h), r⟩
  | point _ ih => intro hf s2 R; obtain ⟨e2, s3, h, r⟩ := ih rfl s2 R; exact ⟨e2, s3, .point h, r⟩
  | alloc _ ih =>
    intro hf s2 R
    obtain ⟨e2, s3, h, r⟩ := ih rfl _ (R.up (fun x => { x with heap := x.heap.push _ }) (fun _ => rfl) (by simp only [R.heap]) R.drawn R.toks R.os)
    exact ⟨e2, s3, .alloc (by rw [R.heap] at h ⊢; exact h), r⟩
  | fresh _ ih =>
    intro hf s2 R
    obtain ⟨e2, s3, h, r⟩ := ih rfl _ (R.up (fun x => { x with toks := x.toks + 1 }) (fun _ => rfl) R.heap R.drawn (by simp only [R.toks]) R.os)
    exact ⟨e2, s3, .fresh (by rw [R.toks] at h ⊢; exact h), r⟩
  | ask _ ih => intro hf s2 R; obtain ⟨e2, s3, h, r⟩ := ih rfl s2 R; exact ⟨e2, s3, .ask h, r⟩
  | choose q _ ih =>
    intro hf s2 R
    obtain ⟨e2, s3, h, r⟩ := ih rfl _ (R.up (fun x => { x with drawn := x.drawn.bump _ }) (fun _ => rfl) R.heap (by simp only [R.drawn]) R.toks R.os)
    exact ⟨e2, s3, .choose q (by rw [R.drawn] at h ⊢; exact h), r⟩
  | os _ ih =>
    intro hf s2 R
    obtain ⟨e2, s3, h, r⟩ := ih rfl _ (R.up (fun x => { x with os := (Os.step x.os _).1 }) (fun _ => rfl) R.heap R.drawn R.toks (by simp only [R.os]))
    exact ⟨e2, s3, .os (by rw [R.os] at h ⊢; exact h), r⟩
  | handled _ ih => intro hf s2 R; obtain ⟨e2, s3, h, r⟩ := ih rfl s2 R; exact ⟨e2, s3, .handled h, r⟩
  | genState q _ ih =>
    intro hf s2 R
    obtain ⟨e2, s3, h, r⟩ := ih rfl s2 R
    rcases R.mem q with ⟨q2, _⟩ | ⟨z, _, _, rfl, q2⟩
    · exact ⟨e2, s3, .genState q2 (by rw [seen_sG]; exact h), r⟩
    · exact ⟨e2, s3, .genState q2 (by rw [← seen_dead]; exact h), r⟩
  | stack _ ih => intro hf s2 R; obtain ⟨e2, s3, h, r⟩ := ih rfl s2 R; exact ⟨e2, s3, .stack h, r⟩
  | thread _ ih => intro hf s2 R; obtain ⟨e2, s3, h, r⟩ := ih rfl s2 R; exact ⟨e2, s3, .thread h, r⟩
  | newGen _ ih =>
    intro hf s2 R
    obtain ⟨e2, s3, h, r⟩ := ih rfl _ (R.push _)
    exact ⟨e2, s3, .newGen (by rw [R.size]; exact h), r⟩
  | call _ _ ih1 ih2 =>
    intro hf s2 R
    obtain ⟨e2, s3, h1, r1, R1⟩ := ih1 rfl s2 R
    cases r1
    obtain ⟨e4, s4, h2, r2, R2⟩ := ih2 rfl s3 R1
    exact ⟨e4, s4, .call h1 h2, r2, R2⟩
  | callSusp _ ih =>
    intro hf s2 R
    obtain ⟨e2, s3, h1, r1, R1⟩ := ih rfl s2 R
    cases r1 with
    | susp v g l k c p fs g2 l2 hq hn =>
      exact ⟨_, s3, .callSusp h1, (RelE.susp _ _ _ _ _ _ _ g2 l2 hq hn).app (gs := [_]) rfl, R1⟩
  | yield =>
    intro hf s2 R
    obtain ⟨e2, h, r⟩ := yield_soft (prog := prog) (w := w) (s2 := s2)
    exact ⟨e2, s2, h, r, R⟩
  | resumeFresh q _ qq _ ih1 ih2 =>
    intro hf s2 R
    obtain ⟨q2, hg⟩ := R.plain q rfl
    obtain ⟨e2, s3, h1, r1, R1⟩ := ih1 rfl _ (R.set hg .running trivial)
    obtain ⟨z1, z2, z3, z4⟩ := r1.quiet qq
    obtain ⟨e4, s4, h2, r2, R2⟩ := ih2 rfl _ (R1.set hg _ z4)
    exact ⟨e4, s4, .resumeFresh q2 h1 z1 (by rw [z2, z3]; exact h2), r2, R2⟩
  | resumeSuspended q hr qq _ ih1 ih2 =>
    intro hf s2 R
    rcases R.mem q with ⟨q2, hg⟩ | ⟨z, e1, hz, hd, q2⟩
    · obtain ⟨e2, s3, h1, r1, R1⟩ := ih1 (R.nog _ hg _ q) _ (R.set hg .running trivial)
      obtain ⟨z1, z2, z3, z4⟩ := r1.quiet qq
      obtain ⟨e4, s4, h2, r2, R2⟩ := ih2 rfl _ (R1.set hg _ z4)
      exact ⟨e4, s4, .resumeSuspended q2 h1 z1 (by rw [z2, z3]; exact h2), r2, R2⟩
    · cases z <;> first | (cases hz; done) | skip
      cases hd
      exact absurd rfl (no_unsupported hr)
  | resumeJustStarted q hv _ ih => intro hf s2 R; obtain ⟨e2, s3, h, r⟩ := ih rfl s2 R; exact ⟨e2, s3, .resumeJustStarted (R.plain q rfl).1 hv h, r⟩
  | resumeThrowFresh q _ ih =>
    intro hf s2 R
    obtain ⟨q2, hg⟩ := R.plain q rfl
    obtain ⟨e2, s3, h, r⟩ := ih rfl _ (R.set hg .finished trivial)
    exact ⟨e2, s3, .resumeThrowFresh q2 h, r⟩
  | resumeRunning q _ ih => intro hf s2 R; obtain ⟨e2, s3, h, r⟩ := ih rfl s2 R; exact ⟨e2, s3, .resumeRunning (R.plain q rfl).1 h, r⟩
  | resumeFinished q _ ih => intro hf s2 R; obtain ⟨e2, s3, h, r⟩ := ih rfl s2 R; exact ⟨e2, s3, .resumeFinished (R.plain q rfl).1 h, r⟩
  | segRet _ _ ih1 ih2 =>
    intro hf s2 R
    obtain ⟨e2, s3, h1, r1, R1⟩ := ih1 rfl s2 R
    cases r1
    rw [splitAtGen_ret] at hf
    obtain ⟨e4, s4, h2, r2, R2⟩ := ih2 (by revert hf; cases splitAtGen _ <;> simp) s3 R1
    exact ⟨e4, s4, .segRet (by rw [← over_map] at h1; exact h1) h2, r2, R2⟩
  | segGen _ _ ih1 ih2 => intro hf s2 R; cases hf
  | segSuspOut q _ ih =>
    intro hf s2 R
    obtain ⟨e2, s3, h1, r1, R1⟩ := ih rfl s2 R
    cases r1 with
    | susp _ _ _ _ _ _ _ g2 l2 hq hn =>
      exact ⟨_, s3, .segSuspOut (split_none q) (by rw [← over_map] at h1; exact h1), (RelE.susp _ _ _ _ _ _ _ g2 l2 hq hn).app (gs := _ :: _) q, R1⟩
  | segSuspGen q _ qq _ ih1 ih2 => intro hf s2 R; rw [q] at hf; cases hf
theorem returns_soft {Γ : Ctx} {p : Pos} {s s' : Shared} {r : Result} {B : Array GenState} (h : Returns (model prog w) Γ p s r s') {s2 : Shared} (R : RelS B s s2) :
    ∃ s2', Returns (model2 prog w) Γ p s2 r s2' ∧ RelS B s' s2' := by
  obtain ⟨e2, s3, h1, r1, R1⟩ := runs_soft h rfl s2 R
  cases r1
  exact ⟨s3, h1, R1⟩
theorem wakes_soft {Γ : Ctx} {p : Pos} {g : Nat} {r : Resume} {s s' : Shared} {res : GenResult} {B : Array GenState} (h : Wakes (model prog w) Γ p g r s res s') {s2 : Shared} (R : RelS B s s2) :
    ∃ s2', Wakes (model2 prog w) Γ p g r s2 res s2' ∧ RelS B s' s2' := by
  unfold Wakes at h
  cases q : s.gens[g]? with
  | none => rw [q] at h; exact h.elim
  | some x =>
    rw [q] at h
    cases x with
    | fresh c =>
      obtain ⟨q2, hg⟩ := R.plain q rfl
      cases r with
      | send v =>
        cases v with
        | none =>
          obtain ⟨e₁, s₁, h1, h2, rfl, rfl⟩ := h
          obtain ⟨e2, s3, k1, r1, R1⟩ := runs_soft h1 rfl _ (R.set hg .running trivial)
          obtain ⟨z1, z2, z3, z4⟩ := r1.quiet h2
          refine ⟨s3.setGen g e2.genState, ?_, by rw [z3]; exact R1.set hg _ z4⟩
          unfold Wakes
          rw [q2]
          exact ⟨e2, s3, k1, z1, z2.symm, rfl⟩
        | _ =>
          obtain ⟨rfl, rfl⟩ := h
          refine ⟨s2, ?_, R⟩
          unfold Wakes
          rw [q2]
          exact ⟨rfl, rfl⟩
      | throw y =>
        obtain ⟨rfl, rfl⟩ := h
        refine ⟨s2.setGen g .finished, ?_, R.set hg .finished trivial⟩
        unfold Wakes
        rw [q2]
        exact ⟨rfl, rfl⟩
    | suspended k₀ l₀ c₀ p₀ fs cl =>
      obtain ⟨e₁, s₁, h1, h2, rfl, rfl⟩ := h
      by_cases hg : ∀ z, B[g]? = some z → susp z = false
      · have q2 : s2.gens[g]? = some (sG (.suspended k₀ l₀ c₀ p₀ fs cl)) := by rw [R.new g hg, q]; rfl
        obtain ⟨e2, s3, k1, r1, R1⟩ := runs_soft h1 (R.nog _ hg _ q) _ (R.set hg .running trivial)
        obtain ⟨z1, z2, z3, z4⟩ := r1.quiet h2
        refine ⟨s3.setGen g e2.genState, ?_, by rw [z3]; exact R1.set hg _ z4⟩
        unfold Wakes
        rw [q2]
        exact ⟨e2, s3, k1, z1, z2.symm, rfl⟩
      · simp only [Classical.not_forall] at hg
        obtain ⟨z, e1, hz⟩ := hg
        have hz : susp z = true := by cases h : susp z <;> simp_all
        obtain ⟨e2, _⟩ := R.old _ z e1 hz
        rw [q] at e2
        cases z <;> first | (cases hz; done) | skip
        cases e2
        exact absurd rfl (no_unsupported h1)
    | running =>
      obtain ⟨rfl, rfl⟩ := h
      refine ⟨s2, ?_, R⟩
      unfold Wakes
      rw [(R.plain q rfl).1]
      exact ⟨rfl, rfl⟩
    | finished =>
      obtain ⟨rfl, rfl⟩ := h
      refine ⟨s2, ?_, R⟩
      unfold Wakes
      rw [(R.plain q rfl).1]
      exact ⟨rfl, rfl⟩
open Sem (wp)
/-- what holds of a state holds of one that differs in who sleeps -/
def Lf {α : Type} (B : Array GenState) (Q : α → Shared → Prop) : α → Shared → Prop := fun a s2 => ∃ s, RelS B s s2 ∧ Q a s
theorem wp_soft {α : Type} {Γ : Ctx} {B : Array GenState} (t : Sem α) : ∀ (Q : α → Pos → Shared → Prop) (E : Value → Pos → Shared → Prop) (p : Pos) (s s2 : Shared), RelS B s s2 → wp (model prog w) Γ t Q E p s →
    wp (model2 prog w) Γ t (fun a p' s2' => ∃ s', RelS B s' s2' ∧ Q a p' s') (fun e p' s2' => ∃ s', RelS B s' s2' ∧ E e p' s') p s2 := by
  induction t with
  | pure a => intro Q E p s s2 R h; exact ⟨s, R, h⟩
  | raise e => intro Q E p s s2 R h; exact ⟨s, R, h⟩
  | unsupported _ => intro Q E p s s2 R h; exact h
  | finish _ => intro Q E p s s2 R h; exact h
  | rule _ k ih => intro Q E p s s2 R h; exact ih () Q E p s s2 R h
  | «at» p' k ih => intro Q E p s s2 R h; exact ih () Q E p' s s2 R h
  | load a _ k ih => intro Q E p s s2 R h; obtain ⟨o, ho, h⟩ := h; exact ⟨o, by rw [R.heap]; exact ho, ih o Q E p s s2 R h⟩
  | update a _ f k ih =>
    intro Q E p s s2 R h
    exact ⟨by rw [R.heap]; exact h.1, ih () Q E p _ _ (R.up (fun x => { x with heap := x.heap.update a f }) (fun _ => rfl) (by simp only [R.heap]) R.drawn R.toks R.os) h.2⟩
  | loadIfAlive a k ih =>
    intro Q E p s s2 R h
    have h : wp (model prog w) Γ (k (s.heap.get? a)) Q E p s := h
    rw [← R.heap] at h
    exact ih _ Q E p s s2 R h
  | point _ k ih => intro Q E p s s2 R h; exact ih () Q E p s s2 R h
  | register _ _ => intro Q E p s s2 _ h; exact h
  | alloc o k ih =>
    intro Q E p s s2 R h
    have h : wp (model prog w) Γ (k s.heap.objs.size) Q E p { s with heap := s.heap.push o } := h
    rw [← congrArg (·.objs.size) R.heap] at h
    exact ih _ Q E p _ _ (R.up (fun x => { x with heap := x.heap.push o }) (fun _ => rfl) (by simp only [R.heap]) R.drawn R.toks R.os) h
  | fresh k ih =>
    intro Q E p s s2 R h
    have h : wp (model prog w) Γ (k s.toks) Q E p { s with toks := s.toks + 1 } := h
    have := ih _ Q E p _ _ (R.up (fun x => { x with toks := x.toks + 1 }) (fun _ => rfl) R.heap R.drawn (by simp only [R.toks]) R.os) h
    rw [← R.toks] at this
    exact this
  | ask k ih => intro Q E p s s2 R h; exact ih _ Q E p s s2 R h
  | choose src m k ih =>
    intro Q E p s s2 R h
    refine ⟨h.1, ?_⟩
    have h2 := h.2
    have := ih _ Q E p _ _ (R.up (fun x => { x with drawn := x.drawn.bump src }) (fun _ => rfl) R.heap (by simp only [R.drawn]) R.toks R.os) h2
    rw [← R.drawn] at this
    exact this
  | os q _ k ih =>
    intro Q E p s s2 R h
    have := ih _ Q E p _ _ (R.up (fun x => { x with os := (Os.step x.os q).1 }) (fun _ => rfl) R.heap R.drawn R.toks (by simp only [R.os])) h
    rw [← R.os] at this
    exact this
  | call c hd _ _ k ih =>
    intro Q E p s s2 R h
    obtain ⟨r, s', hr, h⟩ := h
    obtain ⟨s2', h1, R1⟩ := returns_soft hr R
    exact ⟨r, s2', h1, ih r Q E p s' s2' R1 h⟩
  | handled own k ih => intro Q E p s s2 R h; exact ih _ Q E p s s2 R h
  | genState g k ih =>
    intro Q E p s s2 R h
    obtain ⟨st, hs, h⟩ := h
    rcases R.mem hs with ⟨q2, _⟩ | ⟨z, _, _, rfl, q2⟩
    · exact ⟨_, q2, by rw [seen_sG]; exact ih _ Q E p s s2 R h⟩
    · exact ⟨_, q2, by rw [← seen_dead]; exact ih _ Q E p s s2 R h⟩
  | newGen c k ih =>
    intro Q E p s s2 R h
    have h : wp (model prog w) Γ (k s.gens.size) Q E p { s with gens := s.gens.push (.fresh c) } := h
    rw [← R.size] at h
    exact ih _ Q E p _ _ (R.push c) h
  | resume g r _ k ih =>
    intro Q E p s s2 R h
    obtain ⟨res, s', hw, h⟩ := h
    obtain ⟨s2', h1, R1⟩ := wakes_soft hw R
    exact ⟨res, s2', h1, ih res Q E p s' s2' R1 h⟩
  | yield _ _ _ _ => intro Q E p s s2 _ h; exact h
  | stack k ih => intro Q E p s s2 R h; exact ih _ Q E p s s2 R h
  | fork _ _ => intro Q E p s s2 _ h; exact h
  | thread k ih => intro Q E p s s2 R h; exact ih _ Q E p s s2 R h
  | await _ _ _ _ _ => intro Q E p s s2 _ h; exact h
/-- a tree that hands nothing out is not changed -/
theorem wp_of_soft {α : Type} {M : Model} {Γ : Ctx} {x : Option Addr} (t : Sem α) : ∀ (Q : α → Pos → Shared → Prop) (E : Value → Pos → Shared → Prop) (p : Pos) (s : Shared), wp M Γ t Q E p s → wp M Γ (soft x t) Q E p s := by
  induction t with
  | yield _ _ _ _ => intro Q E p s h; exact h.elim
  | load a _ k ih => intro Q E p s h; obtain ⟨o, ho, h⟩ := h; exact ⟨o, ho, ih o Q E p s h⟩
  | update a _ f k ih => intro Q E p s h; exact ⟨h.1, ih () Q E p _ h.2⟩
  | choose src m k ih => intro Q E p s h; exact ⟨h.1, ih _ Q E p _ h.2⟩
  | call c hd _ _ k ih => intro Q E p s h; obtain ⟨r, s', hr, h⟩ := h; exact ⟨r, s', hr, ih r Q E p s' h⟩
  | genState g k ih => intro Q E p s h; obtain ⟨st, hs, h⟩ := h; exact ⟨st, hs, ih _ Q E p s h⟩
  | resume g r _ k ih => intro Q E p s h; obtain ⟨res, s', hw, h⟩ := h; exact ⟨res, s', hw, ih res Q E p s' h⟩
  | pure a => intro Q E p s h; exact h
  | raise e => intro Q E p s h; exact h
  | unsupported _ => intro Q E p s h; exact h
  | finish _ => intro Q E p s h; exact h
  | register _ _ => intro Q E p s h; exact h
  | fork _ _ => intro Q E p s h; exact h
  | await _ _ _ _ _ => intro Q E p s h; exact h
  | rule _ k ih => intro Q E p s h; exact ih _ Q E _ _ h
  | «at» p' k ih => intro Q E p s h; exact ih _ Q E _ _ h
  | loadIfAlive a k ih => intro Q E p s h; exact ih _ Q E _ _ h
  | point _ k ih => intro Q E p s h; exact ih _ Q E _ _ h
  | alloc o k ih => intro Q E p s h; exact ih _ Q E _ _ h
  | fresh k ih => intro Q E p s h; exact ih _ Q E _ _ h
  | ask k ih => intro Q E p s h; exact ih _ Q E _ _ h
  | os q _ k ih => intro Q E p s h; exact ih _ Q E _ _ h
  | handled own k ih => intro Q E p s h; exact ih _ Q E _ _ h
  | newGen c k ih => intro Q E p s h; exact ih _ Q E _ _ h
  | stack k ih => intro Q E p s h; exact ih _ Q E _ _ h
  | thread k ih => intro Q E p s h; exact ih _ Q E _ _ h
end
end D

/-! What the second machine does, the true one does. -/
namespace D
open PySem
theorem yf_some {c : Code} {a : Addr} (h : yf c = some a) : ∃ rest kw, c = .builtin "proto.yield_from" ⟨.ref a :: rest, kw⟩ := by
  unfold yf at h
  split at h
  · split at h
    · cases h; rename_i q; subst q; exact ⟨_, _, rfl⟩
    · cases h
  · cases h
/-- a yield through a generator that no one must close -/
structure SoftY (s : Shared) (t : Thread) : Prop where
  ex : ∃ (v : Value) (l : List Value) (k : Resume → Sem PySem.Fin) (a : Addr) (rest : List Value) (kw : List (Str × Value)) (fs : List Frame) (b : Nat × (GenResult → Sem PySem.Fin) × Code × Pos) (r : List Frame),
    t.cur = .yield v true l k ∧ t.code = .builtin "proto.yield_from" ⟨.ref a :: rest, kw⟩ ∧ isG (s.heap.get? a) = true ∧ splitAtGen t.stack = some (fs, b, r) ∧ fs.any Frame.guarded = false
def Calm2 (s : Shared) (t : Thread) : Prop := t.calm = true ∨ SoftY s t
theorem Calm2.forget {s s' : Shared} {t t' : Thread} (hs : s.forget = s'.forget) (ht : t.forget = t'.forget) (h : Calm2 s t) : Calm2 s' t' := by
  rcases h with h | ⟨v, l, k, a, rest, kw, fs, b, r, h1, h2, h3, h4, h5⟩
  · left; rw [← Thread.calm_forget t', ← ht, Thread.calm_forget]; exact h
  · right
    obtain ⟨cur, code, pos, stack⟩ := t
    obtain ⟨cur', code', pos', stack'⟩ := t'
    simp only [Thread.forget, Thread.mk.injEq] at ht
    obtain ⟨rfl, rfl, rfl, e⟩ := ht
    have eh := (Shared.forget_eq hs).1
    have z := splitAtGen_forgetAll stack
    have z2 := splitAtGen_forgetAll stack'
    rw [e, z2] at z
    rw [show splitAtGen stack = _ from h4] at z
    cases q : splitAtGen stack' with
    | none => rw [q] at z; cases z
    | some x =>
      obtain ⟨fs', b', r'⟩ := x
      refine ⟨v, l, k, a, rest, kw, fs', b', r', h1, h2, by rw [← eh]; exact h3, q, ?_⟩
      rw [q] at z
      simp only [Option.map_some, Option.some.injEq, Prod.mk.injEq] at z
      rw [← any_guarded_forgetAll, z.1, any_guarded_forgetAll]
      exact h5
section
variable (prog : Program) (w : World)
theorem shows_soft {s : Shared} {fs : List Frame} {a : Addr} {rest : List Value} {kw : List (Str × Value)} (hr : s.heap.life.registered = []) (h3 : isG (s.heap.get? a) = true) (h5 : fs.any Frame.guarded = false) :
    closingShows s fs (.builtin "proto.yield_from" ⟨.ref a :: rest, kw⟩) true = false := by
  unfold closingShows
  rw [h5]
  show (false || (true && delegateShows s (.ref a))) = false
  unfold delegateShows
  cases q : s.heap.get? a with
  | none => simp [q]
  | some o =>
    rw [q] at h3
    cases z : o.genNumber? with
    | none => unfold isG at h3; simp [z] at h3
    | some g => simp [q, hr, z]
theorem lifeStep_soft {s : Shared} {t : Thread} (others : List Value) (hz : s.asleep) (h : SoftY s t) : lifeStep (denote table) prog w others s t = step (denote table) prog w s t := by
  obtain ⟨v, l, k, a, rest, kw, fs, b, r, h1, h2, h3, h4, h5⟩ := h
  obtain ⟨cur, code, pos, stack⟩ := t
  simp only at h1 h2 h4
  subst h1
  subst h2
  have sh := shows_soft (rest := rest) (kw := kw) hz.1 h3 h5
  simp [lifeStep, Thread.special, Thread.yieldsInsideHandler, collectorTurn?, h4, sh, Thread.atItsEnd, stepCounting, hz.2]
theorem sstep_soft {s : Shared} {t : Thread} (hz : s.asleep) (h : SoftY s t) : sstep (denote table) prog w (.single s t) = (step (denote table) prog w s t).lift := by
  have hl := fun others => lifeStep_soft prog w others hz h
  obtain ⟨v, l, k, a, rest, kw, fs, b, r, h1, h2, h3, h4, h5⟩ := h
  obtain ⟨cur, code, pos, stack⟩ := t
  simp only at h1 h2 h4
  subst h1
  subst h2
  have c1 : (Config.single s ⟨.yield v true l k, .builtin "proto.yield_from" ⟨.ref a :: rest, kw⟩, pos, stack⟩).collect? w.params = none := by
    simp [Config.collect?, Config.single, (nothing_to_collect _ _ _ s _ hz.1).1]
  have c2 : (Config.single s ⟨.yield v true l k, .builtin "proto.yield_from" ⟨.ref a :: rest, kw⟩, pos, stack⟩).collectable = [] := by
    simp [Config.collectable, Config.single, (nothing_to_collect w.params _ _ s _ hz.1).2]
  have mv : (Config.single s ⟨.yield v true l k, .builtin "proto.yield_from" ⟨.ref a :: rest, kw⟩, pos, stack⟩).moves w.params.profile = [.run 0] := by
    simp [Config.moves, Config.single, movesFrom, Thread.moves]
  have pk : (Config.single s ⟨.yield v true l k, .builtin "proto.yield_from" ⟨.ref a :: rest, kw⟩, pos, stack⟩).pick w = .ok (.run 0, .single s ⟨.yield v true l k, .builtin "proto.yield_from" ⟨.ref a :: rest, kw⟩, pos, stack⟩) := by
    simp only [Config.pick, c1, c2, Config.pickThread, mv]
    cases w.params.lifetimes <;> simp
  simp only [sstep, pk, Config.move]
  simp only [Config.run, Config.single]
  simp [hl, others_single, Thread.finalizes]
  cases step (denote table) prog w s ⟨.yield v true l k, .builtin "proto.yield_from" ⟨.ref a :: rest, kw⟩, pos, stack⟩ <;> simp [Step.lift, Config.single]
theorem sched_soft (n : Nat) : ∀ (s : Shared) (t : Thread), s.asleep → (∀ k s' t', runN (denote table) prog w k s t = .running s' t' → Calm2 s' t') →
    (∀ k s', runN (denote table) prog w k s t ≠ .halted (.unsupported "lifetime:generator-with-cleanup-left-suspended") s') → schedN (denote table) prog w n (.single s t) = (runN (denote table) prog w n s t).lift := by
  induction n with
  | zero => intro s t _ _ _; rfl
  | succ n ih =>
    intro s t hz hc hne
    have e : sstep (denote table) prog w (.single s t) = (step (denote table) prog w s t).lift := by
      rcases hc 0 s t rfl with h | h
      · refine (sstep_single _ prog w s t h hz).resolve_right fun q => hne 1 s ?_
        simp only [runN, q]
      · exact sstep_soft prog w hz h
    simp only [schedN, runN, e]
    cases hs : step (denote table) prog w s t with
    | go s' t' =>
      exact ih s' t' (by simp only [Shared.asleep, step_life _ prog w s s' t t' hs]; exact hz) (fun k s'' t'' q => hc (k + 1) s'' t'' (by simp only [runN, hs]; exact q)) fun k s'' q => hne (k + 1) s'' (by simp only [runN, hs]; exact q)
    | halt o s' => rfl

/-! ### the two machines -/
inductive GR : GenState → GenState → Prop
  | same (x) : GR x (sG x)
  | mark (k l c p fs cl) : GR (.suspended k l c p fs cl) (.suspended (fun r => soft (yf c) (k r)) [.none] c p (fs.map sF) false)
/-- s: the true machine's, s2: the second one's -/
structure RM (s s2 : Shared) : Prop where
  heap : s2.heap = s.heap
  drawn : s2.drawn = s.drawn
  toks : s2.toks = s.toks
  os : s2.os = s.os
  size : s2.gens.size = s.gens.size
  gens : ∀ (i : Nat) (x x2 : GenState), s.gens[i]? = some x → s2.gens[i]? = some x2 → GR x x2
/-- none that sleeps behind a yield taken as ordinary -/
def Plain (G : Array GenState) : Prop := ∀ (i : Nat) (k : Resume → Sem PySem.Fin) (l : List Value) (c : Code) (p : Pos) (fs : List Frame) (cl : Bool), G[i]? = some (.suspended k l c p fs cl) → l = []
theorem RM.at {s s2 : Shared} (R : RM s s2) {g : Nat} {x : GenState} (h : s2.gens[g]? = some x) : ∃ y, s.gens[g]? = some y ∧ GR y x := by
  have hl : g < s.gens.size := by rw [← R.size]; exact (Array.getElem?_eq_some_iff.mp h).1
  exact ⟨_, Array.getElem?_eq_getElem hl, R.gens g _ x (Array.getElem?_eq_getElem hl) h⟩
theorem RM.set {s s2 : Shared} (R : RM s s2) (g : Nat) {x x2 : GenState} (h : GR x x2) : RM (s.setGen g x) (s2.setGen g x2) where
  heap := R.heap
  drawn := R.drawn
  toks := R.toks
  os := R.os
  size := by simp [Shared.setGen, R.size]
  gens := fun i y y2 e e2 => by
    have e : (s.gens.setIfInBounds g x)[i]? = some y := e
    have e2 : (s2.gens.setIfInBounds g x2)[i]? = some y2 := e2
    by_cases hne : g = i
    · subst hne
      rw [Array.getElem?_setIfInBounds_self] at e e2
      split at e <;> split at e2 <;> first | (cases e; cases e2; exact h) | (cases e; done) | (cases e2; done)
    · rw [Array.getElem?_setIfInBounds_ne hne] at e e2
      exact R.gens i y y2 e e2
theorem RM.push {s s2 : Shared} (R : RM s s2) (c : Code) : RM { s with gens := s.gens.push (.fresh c) } { s2 with gens := s2.gens.push (.fresh c) } where
  heap := R.heap
  drawn := R.drawn
  toks := R.toks
  os := R.os
  size := by simp [R.size]
  gens := fun i y y2 e e2 => by
    have e : (s.gens.push (.fresh c))[i]? = some y := e
    have e2 : (s2.gens.push (.fresh c))[i]? = some y2 := e2
    rw [Array.getElem?_push] at e e2
    rw [R.size] at e2
    split at e
    · rename_i q
      rw [if_pos q] at e2
      cases e; cases e2; exact .same (.fresh c)
    · rename_i q
      rw [if_neg q] at e2
      exact R.gens i y y2 e e2
theorem RM.up {s s2 : Shared} (R : RM s s2) (f : Shared → Shared) (h1 : ∀ x, (f x).gens = x.gens) (h2 : (f s2).heap = (f s).heap) (h3 : (f s2).drawn = (f s).drawn) (h4 : (f s2).toks = (f s).toks) (h5 : (f s2).os = (f s).os) : RM (f s) (f s2) :=
  ⟨h2, h3, h4, h5, by rw [h1, h1]; exact R.size, fun i x x2 e e2 => by rw [h1] at e e2; exact R.gens i x x2 e e2⟩
theorem RM.left {s s2 : Shared} (R : RM s s2) (hp : Plain s2.gens) (h : leftWithCleanup s2.gens = false) : leftWithCleanup s.gens = false := by
  unfold leftWithCleanup at h ⊢
  rw [Array.any_eq_false] at h ⊢
  intro i hi
  have hi2 : i < s2.gens.size := by rw [R.size]; exact hi
  have h := h i hi2
  have r := R.gens i _ _ (Array.getElem?_eq_getElem hi) (Array.getElem?_eq_getElem hi2)
  have pl := hp i
  rw [Array.getElem?_eq_getElem hi2] at pl
  revert r h pl
  generalize s.gens[i] = x
  generalize s2.gens[i] = x2
  intro h r pl
  cases r with
  | same => cases x <;> simp_all [sG]
  | mark k l c p fs cl => exact absurd (pl _ _ _ _ _ _ rfl) (by simp)
theorem seen_GR {x x2 : GenState} (h : GR x x2) : x2.seen = x.seen := by
  cases h with
  | same => exact seen_sG x
  | mark k l c p fs cl => exact seen_sG (.suspended k l c p fs cl)
def sT (t : Thread) : Thread := ⟨soft (yf t.code) t.cur, t.code, t.pos, t.stack.map sF⟩
section
variable (prog : Program) (w : World)
/-- the true machine comes to its end, and all its steps are quiet ones -/
inductive Goes (o : Outcome) : Shared → Thread → Shared → Prop
  | halt {s : Shared} {t : Thread} : stepK (denote table) prog w s t = .halt o s → Calm2 s t → Goes o s t s
  | step {s s1 s' : Shared} {t t1 : Thread} : stepK (denote table) prog w s t = .go s1 t1 → Calm2 s t → Goes o s1 t1 s' → Goes o s t s'
theorem calm_of {t : Thread} (h : t.loud = false) (h2 : t.refused = false) : t.calm = true := by rw [Thread.calm_eq, h, h2]; rfl
variable {prog : Program} {w : World}
theorem go_on {o : Outcome} {n : Nat} {s s1 s2 s2a s2' : Shared} {t t1 : Thread}
    (ih : ∀ m, m < n + 1 → ∀ (s2 s : Shared) (t : Thread), RM s s2 → (model2 prog w).runN m s2 (sT t) = .halted o s2' → ∃ s', Goes prog w o s t s' ∧ RM s' s2')
    (h : (model2 prog w).runN (n + 1) s2 (sT t) = .halted o s2') (h2 : (model2 prog w).step s2 (sT t) = .go s2a (sT t1)) (hk : stepK (denote table) prog w s t = .go s1 t1) (hc : Calm2 s t) (R : RM s1 s2a) :
    ∃ s', Goes prog w o s t s' ∧ RM s' s2' := by
  rw [runN_succ, h2] at h
  obtain ⟨s', g, r⟩ := ih n (Nat.lt_succ_self n) _ _ _ R h
  exact ⟨s', .step hk hc g, r⟩
theorem no_halt {o o' : Outcome} {n : Nat} {s2 s3 s2' : Shared} {t2 : Thread} (ho : o.ends = true) (h : (model2 prog w).runN (n + 1) s2 t2 = .halted o s2') (h2 : (model2 prog w).step s2 t2 = .halt o' s3) (hn : o'.ends = false) : False := by
  rw [runN_succ, h2] at h
  injection h with e _
  subst e
  rw [hn] at ho; cases ho
theorem soft_yield {α : Type} (v : Value) (g : Bool) (l : List Value) (k : Resume → Sem α) (a? : Option Addr) : soft a? (.yield v g l k) = .yield v g [] (fun u => soft a? (k u)) ∨
    (g = true ∧ ∃ a, a? = some a ∧ soft a? (.yield v true l k) = .loadIfAlive a fun o => if isG o = true then .yield v false [.none] (fun u => soft a? (k u)) else .yield v true [] fun u => soft a? (k u)) := by
  cases g with
  | false => exact .inl rfl
  | true =>
    cases a? with
    | none => exact .inl rfl
    | some a => exact .inr ⟨rfl, a, rfl, rfl⟩
theorem fin_halt {o o' : Outcome} {n : Nat} {s2 s2' : Shared} {t2 : Thread} (ho : o.ends = true) (h : (model2 prog w).runN (n + 1) s2 t2 = .halted o s2') (h2 : (model2 prog w).step s2 t2 = finish o' s2) : leftWithCleanup s2.gens = false ∧ o = o' ∧ s2' = s2 := by
  rw [runN_succ, h2] at h
  unfold finish at h
  split at h
  · rename_i q
    split at q
    · cases q
    · cases q
  · rename_i q
    split at q
    · cases q
      injection h with e _
      subst e; cases ho
    · rename_i z
      cases q
      injection h with e1 e2
      exact ⟨by simpa using z, e1.symm, e2.symm⟩
theorem goes_of {o : Outcome} (ho : o.ends = true) {s2' : Shared} (hp : Plain s2'.gens) : ∀ (n : Nat) (s2 s : Shared) (t : Thread), RM s s2 → (model2 prog w).runN n s2 (sT t) = .halted o s2' → ∃ s', Goes prog w o s t s' ∧ RM s' s2' := by
  intro n
  induction n using Nat.strongRecOn with
  | ind n ih =>
    intro s2 s t R h
    cases n with
    | zero => cases h
    | succ n =>
      obtain ⟨cur, c, p, st⟩ := t
      cases cur with
      | rule tag k => exact go_on ih h (step_rule ..) (t1 := ⟨k (), c, p, st⟩) rfl (.inl rfl) R
      | «at» p' k => exact go_on ih h (step_at ..) (t1 := ⟨k (), c, p', st⟩) rfl (.inl rfl) R
      | point l k => exact go_on ih h (step_point ..) (t1 := ⟨k (), c, p, st⟩) rfl (.inl rfl) R
      | loadIfAlive a k => exact go_on ih h (step_loadIfAlive ..) (t1 := ⟨k (s2.heap.get? a), c, p, st⟩) (by rw [R.heap]; rfl) (.inl rfl) R
      | alloc x k => exact go_on ih h (step_alloc ..) (t1 := ⟨k s2.heap.objs.size, c, p, st⟩) (by rw [R.heap]; rfl) (.inl rfl) (R.up (fun y => { y with heap := y.heap.push x }) (fun _ => rfl) (by simp only [R.heap]) R.drawn R.toks R.os)
      | fresh k => exact go_on ih h (step_fresh ..) (t1 := ⟨k s2.toks, c, p, st⟩) (by rw [R.toks]; rfl) (.inl rfl) (R.up (fun y => { y with toks := y.toks + 1 }) (fun _ => rfl) R.heap R.drawn (by simp only [R.toks]) R.os)
      | ask k => exact go_on ih h (step_ask ..) (t1 := ⟨k ⟨prog, w.params⟩, c, p, st⟩) rfl (.inl rfl) R
      | os q l k => exact go_on ih h (step_os ..) (t1 := ⟨k (Os.step s2.os q).2, c, p, st⟩) (by rw [R.os]; rfl) (.inl rfl) (R.up (fun y => { y with os := (Os.step y.os q).1 }) (fun _ => rfl) R.heap R.drawn R.toks (by simp only [R.os]))
      | thread k => exact go_on ih h (step_thread ..) (t1 := ⟨k 0, c, p, st⟩) rfl (.inl rfl) R
      | newGen c' k => exact go_on ih h (step_newGen ..) (t1 := ⟨k s2.gens.size, c, p, st⟩) (by rw [R.size]; rfl) (.inl rfl) (R.push c')
      | call c' hd g l k => exact go_on ih h (step_call ..) (t1 := ⟨denote table c', c', p, .ret k hd g l c p [] :: st⟩) rfl (.inl rfl) R
      | stack k =>
        have e := step_stack (model2 prog w) s2 c p (st.map sF) (fun x => soft (yf c) (k x))
        rw [where_map] at e
        exact go_on ih h e (t1 := ⟨k ((c, p) :: st.map Frame.where_), c, p, st⟩) rfl (.inl rfl) R
      | unsupported x => exact (no_halt ho h (step_unsupported ..) rfl).elim
      | register a k => exact (no_halt ho h (step_register ..) rfl).elim
      | fork c' k => exact (no_halt ho h (step_fork ..) rfl).elim
      | await a f d l k => exact (no_halt ho h (step_await ..) rfl).elim
      | load a q k =>
        cases hl : s2.heap.get? a with
        | none =>
          obtain ⟨why, e⟩ := step_load_none (model2 prog w) s2 c p (st.map sF) q (fun x => soft (yf c) (k x)) hl
          exact (no_halt ho h e rfl).elim
        | some x =>
          have hl' : s.heap.get? a = some x := by rw [← R.heap]; exact hl
          refine go_on ih h (step_load _ _ _ _ _ _ _ hl) (t1 := ⟨k x, c, p, st⟩) ?_ (.inl rfl) R
          simp only [stepK, PySem.step, hl']
      | update a q f k =>
        by_cases hl : (s2.heap.get? a).isSome
        · have hl' : (s.heap.get? a).isSome := by rw [← R.heap]; exact hl
          refine go_on ih h (step_update _ _ _ _ _ _ _ _ hl) (t1 := ⟨k (), c, p, st⟩) (s1 := { s with heap := s.heap.update a f }) ?_ (.inl rfl) (R.up (fun y => { y with heap := y.heap.update a f }) (fun _ => rfl) (by simp only [R.heap]) R.drawn R.toks R.os)
          simp only [stepK, PySem.step, hl', if_true]
        · obtain ⟨why, e⟩ := step_update_none (model2 prog w) s2 c p (st.map sF) q f (fun x => soft (yf c) (k x)) hl
          exact (no_halt ho h e rfl).elim
      | choose src m k =>
        by_cases hm : m = 0
        · subst hm
          obtain ⟨why, e⟩ := step_choose_zero (model2 prog w) s2 c p (st.map sF) src (fun x => soft (yf c) (k x))
          exact (no_halt ho h e rfl).elim
        · refine go_on ih h (step_choose _ _ _ _ _ _ _ hm) (t1 := ⟨k (w.draws src (s2.drawn.get src) % m), c, p, st⟩) (s1 := { s with drawn := s.drawn.bump src }) ?_ (.inl rfl) (R.up (fun y => { y with drawn := y.drawn.bump src }) (fun _ => rfl) R.heap (by simp only [R.drawn]) R.toks R.os)
          rw [R.drawn]
          simp only [stepK, PySem.step, hm, if_false]
      | handled own k =>
        have e := step_handled (model2 prog w) s2 c p (st.map sF) own (fun x => soft (yf c) (k x))
        have e2 : topHandled (if own then ownFrames (st.map sF) else st.map sF) = topHandled (if own then ownFrames st else st) := by
          cases own
          · exact top_map st
          · show topHandled (ownFrames (st.map sF)) = topHandled (ownFrames st)
            unfold ownFrames
            rw [split_map]
            cases splitAtGen st with
            | none => exact top_map st
            | some x => obtain ⟨a, b, d⟩ := x; exact top_map a
        rw [e2] at e
        refine go_on ih h e (t1 := ⟨k (topHandled (if own then ownFrames st else st)), c, p, st⟩) ?_ (.inl rfl) R
        cases own <;> rfl
      | genState g k =>
        cases hg : s2.gens[g]? with
        | none =>
          obtain ⟨why, e⟩ := step_genState_none (model2 prog w) s2 c p (st.map sF) (fun x => soft (yf c) (k x)) hg
          exact (no_halt ho h e rfl).elim
        | some x2 =>
          obtain ⟨x, hx, r⟩ := R.at hg
          refine go_on ih h (step_genState _ _ _ _ _ _ hg) (t1 := ⟨k x2.seen, c, p, st⟩) ?_ (.inl rfl) R
          rw [seen_GR r]
          simp only [stepK, PySem.step, hx]
          cases x <;> rfl
      | resume g r l k =>
        cases hg : s2.gens[g]? with
        | none =>
          obtain ⟨why, e⟩ := step_resume_none (model2 prog w) s2 c p (st.map sF) r l (fun x => soft (yf c) (k x)) hg
          exact (no_halt ho h e rfl).elim
        | some x2 =>
          obtain ⟨x, hx, rr⟩ := R.at hg
          cases x with
          | fresh c' =>
            cases rr
            cases r with
            | send v =>
              by_cases hv : v = .none
              · subst hv
                refine go_on ih h (step_resume_fresh _ _ _ _ _ _ _ hg) (t1 := ⟨denote table c', c', p, .gen g k l c p :: st⟩) (s1 := s.setGen g .running) ?_ (.inl rfl) (R.set g (.same .running))
                simp only [stepK, PySem.step, hx]; rfl
              · refine go_on ih h (step_resume_justStarted _ _ _ _ _ _ _ hg hv) (t1 := ⟨k .justStarted, c, p, st⟩) (s1 := s) ?_ (.inl rfl) R
                cases v <;> first | exact absurd rfl hv | simp only [stepK, PySem.step, hx]
            | throw y =>
              refine go_on ih h (step_resume_throwFresh _ _ _ _ _ _ _ _ hg) (t1 := ⟨k (.raised y), c, p, st⟩) (s1 := s.setGen g .finished) ?_ (.inl rfl) (R.set g (.same .finished))
              simp only [stepK, PySem.step, hx]; rfl
          | suspended k₀ l₀ c₀ p₀ fs cl =>
            have hk : stepK (denote table) prog w s ⟨.resume g r l k, c, p, st⟩ = .go (s.setGen g .running) ⟨k₀ r, c₀, p₀, fs ++ .gen g k l c p :: st⟩ := by simp only [stepK, PySem.step, hx]; rfl
            have e : (model2 prog w).step s2 (sT ⟨.resume g r l k, c, p, st⟩) = .go (s2.setGen g .running) (sT ⟨k₀ r, c₀, p₀, fs ++ .gen g k l c p :: st⟩) := by
              cases rr <;> refine (step_resume_suspended _ _ _ _ _ _ _ _ hg).trans ?_ <;> simp [sT, sF]
            exact go_on ih h e hk (.inl rfl) (R.set g (.same .running))
          | running =>
            cases rr
            refine go_on ih h (step_resume_running _ _ _ _ _ _ _ _ hg) (t1 := ⟨k .running, c, p, st⟩) ?_ (.inl rfl) R
            simp only [stepK, PySem.step, hx]
          | finished =>
            cases rr
            refine go_on ih h (step_resume_finished _ _ _ _ _ _ _ _ hg) (t1 := ⟨k .finished, c, p, st⟩) ?_ (.inl rfl) R
            simp only [stepK, PySem.step, hx]
      | finish x =>
        obtain ⟨q, rfl, rfl⟩ := fin_halt ho h (step_finish ..)
        exact ⟨s, .halt (by
          have := R.left hp q
          simp only [stepK, PySem.step]
          rw [this]; rfl) (.inl rfl), R⟩
      | raise x =>
        cases st with
        | nil =>
          obtain ⟨q, rfl, rfl⟩ := fin_halt ho h (step_leaf_nil (model2 prog w) s2 c p (.error x))
          exact ⟨s, .halt (by
            have := R.left hp q
            show finish _ s = _
            unfold finish
            rw [this]; rfl) (.inl rfl), R⟩
        | cons F st =>
          cases F with
          | ret k hd g l c' p' kp => exact go_on ih h (step_leaf_ret (model2 prog w) s2 c p (st.map sF) (.error x) (fun r => soft (yf c') (k r)) hd g l c' p' kp) (t1 := ⟨k (.error x), c', p', st⟩) (s1 := s) rfl (.inl rfl) R
          | gen g k l c' p' => exact go_on ih h (step_leaf_gen (model2 prog w) s2 c p (st.map sF) (.error x) g (fun r => soft (yf c') (k r)) l c' p') (t1 := ⟨k (.raised x), c', p', st⟩) (s1 := s.setGen g .finished) rfl (.inl rfl) (R.set g (.same .finished))
      | pure fin =>
        cases fin with
        | again c' =>
          cases q : c'.quiet with
          | false => exact (no_halt ho h (step_again_loud (model2 prog w) s2 c p (st.map sF) c' q) rfl).elim
          | true => exact go_on ih h (step_again (model2 prog w) s2 c p (st.map sF) c' q) (t1 := ⟨denote table c', c', p, st⟩) (s1 := s) rfl (.inl (calm_of (by rw [Thread.loud_again, q]; rfl) rfl)) R
        | done f =>
          cases st with
          | nil =>
            obtain ⟨q, rfl, rfl⟩ := fin_halt ho h (step_leaf_nil (model2 prog w) s2 c p (.ok f))
            exact ⟨s, .halt (by
              have := R.left hp q
              show finish _ s = _
              unfold finish
              rw [this]; rfl) (.inl rfl), R⟩
          | cons F st =>
            cases F with
            | ret k hd g l c' p' kp => exact go_on ih h (step_leaf_ret (model2 prog w) s2 c p (st.map sF) (.ok f) (fun r => soft (yf c') (k r)) hd g l c' p' kp) (t1 := ⟨k (.ok f), c', p', st⟩) (s1 := s) rfl (.inl rfl) R
            | gen g k l c' p' => exact go_on ih h (step_leaf_gen (model2 prog w) s2 c p (st.map sF) (.ok f) g (fun r => soft (yf c') (k r)) l c' p') (t1 := ⟨k (End.ret (.ok f)).result, c', p', st⟩) (s1 := s.setGen g .finished) rfl (.inl rfl) (R.set g (.same .finished))
      | yield v g l k =>
        cases sp : splitAtGen st with
        | none =>
          have sp2 := split_map st
          rw [sp] at sp2
          have bad : ∀ g2 l2, ∃ why, (model2 prog w).step s2 ⟨.yield v g2 l2 fun u => soft (yf c) (k u), c, p, st.map sF⟩ = .halt (.stuck why) s2 := fun g2 l2 => step_yield_none (model2 prog w) s2 c p (st.map sF) v g2 l2 _ sp2
          cases q : (g, yf c) with
          | mk g' y =>
            cases q
            rcases soft_yield v g l k (yf c) with e | ⟨rfl, a, ya, e⟩
            · obtain ⟨why, e2⟩ := bad g []
              exact (no_halt ho h (by rw [sT, e]; exact e2) rfl).elim
            · have st1 : (model2 prog w).step s2 (sT ⟨.yield v true l k, c, p, st⟩) = .go s2 ⟨if isG (s2.heap.get? a) = true then .yield v false [.none] (fun u => soft (yf c) (k u)) else .yield v true [] (fun u => soft (yf c) (k u)), c, p, st.map sF⟩ := by
                show (model2 prog w).step s2 ⟨soft (yf c) (.yield v true l k), c, p, st.map sF⟩ = _
                rw [e]; exact step_loadIfAlive ..
              rw [runN_succ, st1] at h
              cases n with
              | zero => cases h
              | succ n =>
                by_cases z : isG (s2.heap.get? a) = true
                · obtain ⟨why, e2⟩ := bad false [.none]
                  exact (no_halt ho h (by rw [if_pos z]; exact e2) rfl).elim
                · obtain ⟨why, e2⟩ := bad true []
                  exact (no_halt ho h (by rw [if_neg z]; exact e2) rfl).elim
        | some x =>
          obtain ⟨fs, ⟨g1, k1, c1, p1⟩, rest⟩ := x
          have sp2 := split_map st
          rw [sp] at sp2
          have hk : stepK (denote table) prog w s ⟨.yield v g l k, c, p, st⟩ = .go (s.setGen g1 (.suspended k l c p fs (g || fs.any Frame.guarded))) ⟨k1 (.yielded v), c1, p1, rest⟩ := by
            simp only [stepK, PySem.step, sp]; rfl
          have hm : ∀ g2 l2, (g2 || fs.any Frame.guarded) = false → (model2 prog w).step s2 ⟨.yield v g2 l2 fun u => soft (yf c) (k u), c, p, st.map sF⟩ = .go (s2.setGen g1 (.suspended (fun u => soft (yf c) (k u)) l2 c p (fs.map sF) false)) (sT ⟨k1 (.yielded v), c1, p1, rest⟩) := fun g2 l2 hq => by
            have hq2 : (g2 || (fs.map sF).any Frame.guarded) = false := by rw [guard_map]; exact hq
            rw [step_yield (model2 prog w) s2 c p (st.map sF) v g2 l2 _ sp2 (by show (!(g2 || (fs.map sF).any Frame.guarded)) = true; rw [hq2]; rfl)]
            show Step.go (s2.setGen g1 (.suspended _ l2 c p (fs.map sF) (g2 || (fs.map sF).any Frame.guarded))) _ = _
            rw [hq2]; rfl
          have hb : ∀ g2 l2, (g2 || fs.any Frame.guarded) = true → (model2 prog w).step s2 ⟨.yield v g2 l2 fun u => soft (yf c) (k u), c, p, st.map sF⟩ = .halt (.stuck "proof:not-calm") s2 := fun g2 l2 hq =>
            step_yield_loud (model2 prog w) s2 c p (st.map sF) v g2 l2 _ sp2 (by show (!(g2 || (fs.map sF).any Frame.guarded)) = false; rw [guard_map, hq]; rfl)
          rcases soft_yield v g l k (yf c) with e | ⟨rfl, a, ya, e⟩
          · cases hq : (g || fs.any Frame.guarded) with
            | true => exact (no_halt ho h (by rw [sT, e]; exact hb g [] hq) rfl).elim
            | false =>
              rw [hq] at hk
              refine go_on ih h (by rw [sT, e]; exact hm g [] hq) hk (.inl (calm_of (by rw [Thread.loud_yield v g l k c p sp]; exact hq) rfl)) (R.set g1 (.same (.suspended k l c p fs false)))
          · have st1 : (model2 prog w).step s2 (sT ⟨.yield v true l k, c, p, st⟩) = .go s2 ⟨if isG (s2.heap.get? a) = true then .yield v false [.none] (fun u => soft (yf c) (k u)) else .yield v true [] (fun u => soft (yf c) (k u)), c, p, st.map sF⟩ := by
              show (model2 prog w).step s2 ⟨soft (yf c) (.yield v true l k), c, p, st.map sF⟩ = _
              rw [e]; exact step_loadIfAlive ..
            rw [runN_succ, st1] at h
            cases n with
            | zero => cases h
            | succ n =>
              by_cases z : isG (s2.heap.get? a) = true
              · simp only [if_pos z] at h
                cases hq : fs.any Frame.guarded with
                | true => exact (no_halt ho h (hb false [.none] hq) rfl).elim
                | false =>
                  rw [runN_succ, hm false [.none] hq] at h
                  obtain ⟨s', gg, r⟩ := ih n (by omega) _ _ _ (R.set g1 (.mark k l c p fs (true || fs.any Frame.guarded))) h
                  obtain ⟨rs, kw, rfl⟩ := yf_some ya
                  exact ⟨s', .step hk (.inr ⟨v, l, k, a, rs, kw, fs, _, _, rfl, rfl, by rw [← R.heap]; exact z, sp, hq⟩) gg, r⟩
              · simp only [if_neg z] at h
                exact (no_halt ho h (hb true [] rfl) rfl).elim
end
end
end D

/-! A thread that ends on the second machine ends so on the true one. -/
namespace D
open PySem PySem.W PyProof.Rows
section
variable {prog : Program} {w : World}
theorem Goes.run {o : Outcome} {s s' : Shared} {t : Thread} (h : Goes prog w o s t s') : ∃ n, runNK (denote table) prog w n s t = .halted o s' ∧ ∀ k s1 t1, runNK (denote table) prog w k s t = .running s1 t1 → Calm2 s1 t1 := by
  induction h with
  | halt h c =>
    refine ⟨1, by simp only [runNK, h], fun k s1 t1 e => ?_⟩
    cases k with
    | zero => injection e with e1 e2; subst e1 e2; exact c
    | succ k => simp only [runNK, h] at e; cases e
  | step h c _ ih =>
    obtain ⟨n, e1, e2⟩ := ih
    refine ⟨n + 1, by simp only [runNK, h]; exact e1, fun k s1 t1 e => ?_⟩
    cases k with
    | zero => injection e with e1 e2; subst e1 e2; exact c
    | succ k => simp only [runNK, h] at e; exact e2 k s1 t1 e
theorem Goes.sched {o : Outcome} (ho : o.ends = true) {s s' : Shared} {t : Thread} (hz : s.asleep) (h : Goes prog w o s t s') :
    ∃ n s'', runN (denote table) prog w n s t = .halted o s'' ∧ schedN (denote table) prog w n (.single s t) = .halted o s'' ∧ s''.forget = s'.forget := by
  obtain ⟨n, hn, hc⟩ := h.run
  obtain ⟨s'', hr, hf⟩ := runNK_halted _ prog w hn
  have hc2 : ∀ k s1 t1, runN (denote table) prog w k s t = .running s1 t1 → Calm2 s1 t1 := fun k s1 t1 hk => by
    have e := runNK_same (denote table) prog w k (s₁ := s) (s₂ := s) (t₁ := t) (t₂ := t) rfl rfl
    rw [hk] at e
    cases q : runNK (denote table) prog w k s t with
    | halted o₂ s₂ => rw [q] at e; cases e
    | running s₂ t₂ =>
      rw [q] at e
      simp only [Run.forget] at e
      injection e with e1 e2
      exact (hc k s₂ t₂ q).forget e1 e2
  have hne : ∀ k s₂, runN (denote table) prog w k s t ≠ .halted (.unsupported "lifetime:generator-with-cleanup-left-suspended") s₂ := fun k s₂ hk => by
    have a := runN_mono (denote table) prog w n k s t o s'' hr
    have b := runN_mono (denote table) prog w k n s t _ s₂ hk
    rw [Nat.add_comm, b] at a
    injection a with a1 _
    subst a1; cases ho
  exact ⟨n, s'', hr, (sched_soft prog w n s t hz hc2 hne).trans (congrArg Run.lift hr), hf⟩
/-- what is wanted of the generators at the end -/
structure Quiet (G : Array GenState) : Prop where
  bare : PyProof.Rows.AllBare G
  plain : Plain G
theorem thread_ends2 {t : Sem PySem.Fin} {s : Shared} {R : Result → Shared → Prop} (hz : s.asleep) (hg : s.gens = #[])
    (h : wpAny (model2 prog w) callerA t (fun fin s' => ∃ f, fin = .done f ∧ (R (.ok f) s' ∧ Quiet s'.gens)) (fun e s' => R (.error e) s' ∧ Quiet s'.gens) s) :
    ∃ n r s' s'', runN (denote table) prog w n s ⟨t, .builtin "claim.caller" {}, default, []⟩ = .halted (outcomeOf r) s' ∧ schedN (denote table) prog w n (.single s ⟨t, .builtin "claim.caller" {}, default, []⟩) = .halted (outcomeOf r) s' ∧ s'.heap = s''.heap ∧ s'.os = s''.os ∧ R r s'' := by
  have h1 : wpAny (model2 prog w) callerA (soft none t) (fun fin s' => ∃ f, fin = .done f ∧ ((R (.ok f) s' ∧ Plain s'.gens) ∧ leftWithCleanup s'.gens = false)) (fun e s' => (R (.error e) s' ∧ Plain s'.gens) ∧ leftWithCleanup s'.gens = false) s := fun Γ p hΓ =>
    wp_of_soft t _ _ p s (wpAny_mono h (fun fin s' ⟨f, e, a, b⟩ => ⟨f, e, ⟨a, b.plain⟩, leftWithCleanup_false_of_bare b.bare⟩) (fun e s' ⟨a, b⟩ => ⟨⟨a, b.plain⟩, leftWithCleanup_false_of_bare b.bare⟩) Γ p hΓ)
  have h2 := wp_of_wpAny_done (R := fun r s' => (R r s' ∧ Plain s'.gens) ∧ leftWithCleanup s'.gens = false) caller_in h1 default
  obtain ⟨n, r, s2, hn, hR, hp⟩ := (wp_iff_halts (M := model2 prog w) (R := fun r s' => R r s' ∧ Plain s'.gens) ..).mp h2
  have hRM : RM s s := ⟨rfl, rfl, rfl, rfl, rfl, fun i x x2 e _ => by rw [hg] at e; simp at e⟩
  obtain ⟨s1, hgo, hR1⟩ := goes_of (prog := prog) (w := w) (outcomeOf_ends r) hp n s s ⟨t, .builtin "claim.caller" {}, default, []⟩ hRM hn
  obtain ⟨m, s'', e1, e2, e3⟩ := hgo.sched (outcomeOf_ends r) hz
  have e4 := Shared.forget_eq e3
  exact ⟨m, r, s'', s2, e1, e2, by rw [e4.1, hR1.heap], by rw [e4.2.2.2.1, hR1.os], hR⟩
end
end D

/-! A law's end, from a run on the second machine. -/
namespace D
open PySem PySem.W PySem.Calls PyProof.Rows
/-- what the call of the law is to show -/
abbrev Walk2 (q : Program) (loose : List Str) (XP : (Str → Option Value) → Heap → Prop) (YP : World → Heap → Prop) (r : RowW) (d : DefRec) (kwd : List (Str × Expr)) : Prop :=
  ∀ (w : World) (before now : Shared) (mg mb : Str → Option Value), Ground q loose r.records XP w before mg mb now.heap → YP w now.heap →
    ∀ (fa : Addr) (o : Obj) (pm cd doc dV kV : Value), now.heap.get? fa = some o → o.data = .func { docDef d.name d.params d.body d.scope pm cd doc with defaults := dV, kwdefaults := kV } →
    now.heap.CodeRec cd d.name → Dflts mg now.heap d.params kwd dV kV → mg d.name = some (.ref fa) → now.gens = #[] →
    ∀ (args : List WData) (us : List Value) (as : List Addr), r.claim.pre args = true → WData.layableAll args = true → ReadsAllW r.records (classAt before.heap) now.heap us args as →
      WellAll w.params now.heap us args → (∀ a ∈ as, (a == sysModules) = false) →
      wpAny (model2 r.prog w) callerA (PySem.call (.ref fa) us)
        (fun v s' => GoodWG r.claim (classAt before.heap) (ExcName.means before.heap) args now (.ok (.ret v)) s' ∧ Plain s'.gens)
        (fun e s' => GoodWG r.claim (classAt before.heap) (ExcName.means before.heap) args now (.error e) s' ∧ Plain s'.gens) now
def stubTree (name : Str) (us : List Value) : Sem PySem.Fin := do
  match ← nsGet mainNs name with
  | some f => do ret (← PySem.call f us)
  | none => unsupported "claim.caller:no-such-global"
theorem from_call {c : ClaimW} {tree : List Value → Sem PySem.Fin} {w : World} {s : Shared} {free : Addr → Prop} {gp : Prop} {kept : Heap → Prop} (hz : s.asleep) (hgens : s.gens = #[])
    (spec : ∀ args, c.pre args = true → WData.layableAll args = true → ∀ ord : List DictEntry → List DictEntry, (∀ l, (ord l).Perm l) →
      ∃ us now, layAllW c.records (classAt s.heap) w.params ord args s = some (us, now) ∧
        wpAny (model2 c.prog w) callerA (tree us) (fun fin s' => ∃ f, fin = .done f ∧ ((c.Ends s args us now (.ok f) s' ∧ s'.os = s.os ∧ kept s'.heap) ∧ Quiet s'.gens))
          (fun e s' => (c.Ends s args us now (.error e) s' ∧ s'.os = s.os ∧ kept s'.heap) ∧ Quiet s'.gens) now) :
    c.CallFrom (fun us => ⟨tree us, .builtin "claim.caller" {}, default, []⟩) w free gp kept s := by
  intro args hp hl ord ho
  obtain ⟨us, now, laid, run⟩ := spec args hp hl ord ho
  have al := layAllW_rest _ _ _ laid
  obtain ⟨k, r, s1, s2, e1, e2, eh, eo, ⟨cs, os, kp⟩⟩ := thread_ends2 (prog := c.prog) (w := w) (t := tree us) (s := now) (R := fun r s' => c.Ends s args us now r s' ∧ s'.os = s.os ∧ kept s'.heap)
    (Shared.asleep_of_life al.2.2.2 hz) (al.1.trans hgens) run
  have cs := cs.congr eh
  rw [← eh] at kp
  rw [← eo] at os
  have lf : s1.heap.life = s.heap.life := (runN_life _ _ _ e1).trans al.2.2.2
  refine ⟨us, now, laid, k, _, s1, e2, ?_, (fun _ i x hx => by rw [hgens] at hx; simp at hx), kp, by rw [lf], Shared.rest_eq os⟩
  rcases cs with ⟨v, rfl, d1, d2, d3, d4, d5⟩ | ⟨e, ob, cls, rfl, d1, d2, d3, d4, d5⟩
  · exact .inl ⟨v, rfl, d1, d2, d3, fun b o y _ => d4 b o y, d5⟩
  · exact .inr ⟨e, ob, cls, rfl, d1, d2, d3, d4, fun b o y _ => d5 b o y⟩
end D
namespace HE
open PySem PySem.W PySem.Calls PyProof.Rows D
/-- the head, for the second machine -/
theorem PySem.W.holds_open {r : OpenRow} {q : Program} {loose : List Str} {Xt : Shared → Bool} {XP : (Str → Option Value) → Heap → Prop} {α : Type} {Yf : Shared → α} {Ya : World → α} {YP : World → Heap → Prop}
    {d : DefRec} {kwd : List (Str × Expr)} {N : Nat} (left : LeftO r.prog q loose Xt Yf Ya N)
    (hY : ∀ w s, Yf s = Ya w → YP w s.heap)
    (hYk : ∀ w h h', YP w h → (∀ b o, h.get? b = some o → h'.get? b = some o) → YP w h')
    (hX : ∀ s, Xt s = true → XP (s.heap.nsMap mainGlobals) s.heap)
    (hXk : ∀ mg h h', XP mg h → (∀ b o, h.get? b = some o → h'.get? b = some o) → XP mg h')
    (hdef : defOf q r.name = some (d, kwd))
    (hp : r.prog.theDef r.name = some (d.params, d.body, d.scope))
    (hk : kwWritten? d.params.kwonlyargs d.params.kw_defaults = some kwd)
    (hRf : ∀ s, Xt s = true → RecFacts r.records s.heap)
    (hwr : (!r.writes || r.records.isEmpty) = true)
    (k1 : r.wellSaid = true)
    (ok : (chainsOk q && opensWell r.prog && (frees r.toRowW && r.within.isEmpty)) = true)
    (hb : r.prog.bare) (hw : r.toRowW.promised)
    (call : Walk2 q loose XP YP r.toRowW d kwd) : r.Holds := by
  obtain ⟨ok, kf⟩ := Bool.and_eq_true_iff.mp ok
  obtain ⟨hch, ow⟩ := Bool.and_eq_true_iff.mp ok
  obtain ⟨kf, kw⟩ := Bool.and_eq_true_iff.mp kf
  obtain ⟨f1, f2, f3, f4, f5⟩ := frees_parts kf
  have within0 : r.toRowW.claim.within = [] := List.isEmpty_iff.mp kw
  have X2 := fun s hs => (⟨hX s hs, hRf s hs⟩ : (fun mg h => XP mg h ∧ RecFacts r.records h) (Heap.nsMap s.heap mainGlobals) s.heap)
  refine ⟨k1, hw, ⟨hb, ow, by show r.makers.map _ = []; rw [f5]; rfl⟩, hw.witness, fun w => ⟨(left.behind hX hch w).1, fun s' hs' => ?_⟩⟩
  obtain ⟨s0, hf, g0, s, T, hz, gens, hg, GG, y⟩ := (left.behind (XP := fun mg h => XP mg h ∧ RecFacts r.records h) X2 hch w).2 s' hs'
  have G0 : Ground q loose [] XP w s (s.heap.nsMap mainGlobals) (s.heap.nsMap builtinsNs) s.heap := ⟨GG.T, GG.B, GG.D, GG.TE, GG.TD, GG.W, GG.X.1, GG.cls, GG.has, GG.apart, GG.once, GG.K⟩
  have RF := GG.X.2
  have T2 := T
  have gens : s.gens = #[] := Array.eq_empty_of_size_eq_zero (beq_iff_eq.mp gens)
  have G := RF.ground G0
  refine ⟨s0, hf, g0, s, T, fun n hn => ?_, RF.1, RF.2.1, ?_⟩
  · obtain rfl : n = r.name := by split at hn <;> simp_all
    exact pinned_of_view hg G0 hdef hp hk
  show r.toRowW.claim.CallFrom (fun us => ⟨stubTree r.name us, .builtin "claim.caller" {}, default, []⟩) w _ _ _ s
  refine from_call hz gens fun args pre lay ord ho => ?_
  obtain ⟨⟨us, now⟩, laid⟩ := Option.isSome_iff_exists.mp (layAllW_isSome (P := w.params) (ord := ord) G.has args r.args s (pre_splitW pre).1)
  have keeps := layAllW_keeps _ _ _ laid
  have al := layAllW_rest _ _ _ laid
  obtain ⟨as, rd, hin, old⟩ := reads_layAllW ho _ _ _ laid lay now.heap (fun _ _ e => e)
  have L : Laid r.records w s now args us as := ⟨⟨ord, ho, laid⟩, rd, hin, old, keeps, al.1.trans gens, al.2.2.1⟩
  have G1 := G.keeps hXk keeps
  obtain ⟨fa, o, pm, cd, doc, dV, kV, h1, h2, h3, h4, h5⟩ := G1.fn hdef
  have run := call w s now _ _ G1 (hYk _ _ _ (hY w s y) keeps) fa o pm cd doc dV kV h2 h3 h4 h5 (defOf_name hdef ▸ h1) L.gens args us as pre lay L.reads L.well (L.low G.low)
  have id0 := ident_freeW f2 f3 f4
  have fin : ∀ res s', GoodWG r.toRowW.claim (classAt s.heap) (ExcName.means s.heap) args now res s' ∧ Plain s'.gens →
      (r.toRowW.claim.Ends s args us now res s' ∧ s'.os = s.os ∧ (r.writes = true → namesKept r.toRowW.claim.prog r.keeps s.heap s'.heap ∧ ∀ x ∈ r.toRowW.claim.records, ∀ a, classAt s.heap x.1 = some a → recordClass s'.heap a x.1 (x.2.map (·.1)) = true)) ∧ Quiet s'.gens := fun res s' z => by
    have zz := z.1.laid (c := r.toRowW.claim) f1 within0 id0 L
    exact ⟨⟨zz.1, zz.2.1, fun qw => ⟨namesKept_of T2 hg r.keeps keeps z.1.2.1.old, noTable hwr qw⟩⟩, zz.2.2, z.2⟩
  refine ⟨us, now, laid, ?_⟩
  refine wpAny_bind (wpAny_nsGet G1.T.g ?_)
  rw [h1]
  refine wpAny_bind (wpAny_mono run (fun v s' z => wpAny_pure ⟨_, rfl, fin _ _ z⟩) fun e s' z => fin _ _ z)
end HE

/-! Judgements over the second machine. -/
namespace D
open PySem PyProof.Rows
/-- who sleeps goes on sleeping; nobody falls asleep behind a yield taken as ordinary -/
structure Kept (G G' : Array GenState) : Prop where
  sleep : ∀ (i : Nat) (z : GenState), G[i]? = some z → susp z = true → G'[i]? = some z
  mark : ∀ (i : Nat) (k : Resume → Sem PySem.Fin) (l : List Value) (c : Code) (p : Pos) (fs : List Frame) (cl : Bool), G'[i]? = some (.suspended k l c p fs cl) → l ≠ [] → G[i]? = some (.suspended k l c p fs cl)
  size : G.size ≤ G'.size
theorem Kept.refl (G : Array GenState) : Kept G G := ⟨fun _ _ h _ => h, fun _ _ _ _ _ _ _ h _ => h, Nat.le_refl _⟩
theorem Kept.trans {G1 G2 G3 : Array GenState} (a : Kept G1 G2) (b : Kept G2 G3) : Kept G1 G3 :=
  ⟨fun i z h hz => b.sleep i z (a.sleep i z h hz) hz, fun i k l c p fs cl h hl => a.mark i k l c p fs cl (b.mark i k l c p fs cl h hl) hl, Nat.le_trans a.size b.size⟩
theorem Kept.plain {G : Array GenState} (h : Kept #[] G) : Plain G := fun i k l c p fs cl e => by
  by_cases hl : l = []
  · exact hl
  · have := h.mark i k l c p fs cl e hl
    simp at this
structure Alike (s s2 : Shared) : Prop where
  heap : s2.heap = s.heap
  drawn : s2.drawn = s.drawn
  toks : s2.toks = s.toks
  os : s2.os = s.os
  bare : AllBare s.gens → AllBare s2.gens
theorem dead_bare (x : GenState) : (dead x).bare = x.bare := by cases x <;> rfl
theorem sG_bare (x : GenState) : (sG x).bare = x.bare := by cases x <;> rfl
theorem RelS.kept {B : Array GenState} {s s2 : Shared} (R : RelS B s s2) : Kept B s2.gens where
  sleep := fun i z h hz => (R.old i z h hz).2
  mark := fun i k l c p fs cl h hl => by
    by_cases q : ∀ z, B[i]? = some z → susp z = false
    · rw [R.new i q] at h
      cases e : s.gens[i]? with
      | none => rw [e] at h; cases h
      | some x =>
        rw [e] at h
        have h : sG x = .suspended k l c p fs cl := Option.some.inj h
        cases x <;> simp only [sG] at h <;> first | (cases h; done) | skip
        injection h with _ h2
        exact absurd h2.symm hl
    · simp only [Classical.not_forall] at q
      obtain ⟨z, e, hz⟩ := q
      have hz : susp z = true := by cases h : susp z <;> simp_all
      have e2 := (R.old i z e hz).2
      rw [h] at e2; cases e2
      exact e
  size := by rw [R.size]; exact R.le
theorem RelS.alike {B : Array GenState} {s s2 : Shared} (R : RelS B s s2) : Alike s s2 where
  heap := R.heap
  drawn := R.drawn
  toks := R.toks
  os := R.os
  bare := fun hb y hy => by
    obtain ⟨i, hi, e⟩ := Array.mem_iff_getElem.mp hy
    have h : s2.gens[i]? = some y := by rw [Array.getElem?_eq_getElem hi, e]
    by_cases q : ∀ z, B[i]? = some z → susp z = false
    · rw [R.new i q] at h
      cases e : s.gens[i]? with
      | none => rw [e] at h; cases h
      | some x =>
        rw [e] at h
        have h : sG x = y := Option.some.inj h
        rw [← h, sG_bare]
        exact hb x (Array.mem_of_getElem? e)
    · simp only [Classical.not_forall] at q
      obtain ⟨z, e, hz⟩ := q
      have hz : susp z = true := by cases h : susp z <;> simp_all
      obtain ⟨e1, e2⟩ := R.old i z e hz
      rw [h] at e2; cases e2
      have := hb _ (Array.mem_of_getElem? e1)
      rw [dead_bare] at this
      exact this
/-- the state with all that sleeps laid dead -/
def deadS (s : Shared) : Shared := { s with gens := s.gens.map dead }
theorem relS_dead (s : Shared) : RelS s.gens (deadS s) s where
  heap := rfl
  drawn := rfl
  toks := rfl
  os := rfl
  size := by simp [deadS]
  le := by simp [deadS]
  old := fun i z e hz => ⟨by simp [deadS, e], e⟩
  new := fun i hi => by
    show s.gens[i]? = ((s.gens.map dead)[i]?).map sG
    rw [Array.getElem?_map]
    cases e : s.gens[i]? with
    | none => rfl
    | some x =>
      have := hi x e
      cases x <;> first | rfl | (cases this; done)
  nog := fun i hi y e => by
    have e : (s.gens.map dead)[i]? = some y := e
    rw [Array.getElem?_map] at e
    cases q : s.gens[i]? with
    | none => rw [q] at e; cases e
    | some x =>
      rw [q] at e
      have e : dead x = y := Option.some.inj e
      have := hi x q
      cases x <;> first | (cases this; done) | (subst e; trivial)
theorem alike_dead (s : Shared) : Alike s (deadS s) := ⟨rfl, rfl, rfl, rfl, fun hb y hy => by
  obtain ⟨i, hi, e⟩ := Array.mem_iff_getElem.mp hy
  have h : (s.gens.map dead)[i]? = some y := by
    have : (deadS s).gens[i]? = some y := by rw [Array.getElem?_eq_getElem hi, e]
    exact this
  rw [Array.getElem?_map] at h
  cases q : s.gens[i]? with
  | none => rw [q] at h; cases h
  | some x =>
    rw [q] at h
    have h : dead x = y := Option.some.inj h
    rw [← h, dead_bare]
    exact hb x (Array.mem_of_getElem? q)⟩
/-- closed under a change of who sleeps -/
def Cl {α : Type} (Q : α → Shared → Prop) : Prop := ∀ a s s2, Alike s s2 → Q a s → Q a s2
section
variable {P : Program} {w : World} {A : Around}
/-- what holds of a tree over the first machine -/
theorem lift {α : Type} {t : Sem α} {Q : α → Shared → Prop} {E : Value → Shared → Prop} {s : Shared} (h : wpAny (model P w) A t Q E (deadS s)) (hQ : Cl Q) (hE : Cl E) {G : Array GenState} (hG : Kept G s.gens) :
    wpAny (model2 P w) A t (fun a s' => Kept G s'.gens ∧ Q a s') (fun e s' => Kept G s'.gens ∧ E e s') s := fun Γ p hΓ =>
  Sem.wp_mono _ Γ t (fun a p' s' ⟨s1, R, q⟩ => ⟨hG.trans R.kept, hQ a s1 s' R.alike q⟩) (fun e p' s' ⟨s1, R, q⟩ => ⟨hG.trans R.kept, hE e s1 s' R.alike q⟩) p s (wp_soft t _ _ p _ _ (relS_dead s) (h Γ p hΓ))
theorem relS_eq {s s2 : Shared} (R : RelS s.gens (deadS s) s2) : s2 = s := by
  obtain ⟨h, g, d, t, o⟩ := s
  obtain ⟨h2, g2, d2, t2, o2⟩ := s2
  obtain rfl : h2 = h := R.heap
  obtain rfl : d2 = d := R.drawn
  obtain rfl : t2 = t := R.toks
  obtain rfl : o2 = o := R.os
  have : g2 = g := by
    refine Array.ext_getElem? fun i => ?_
    by_cases q : ∀ z, g[i]? = some z → susp z = false
    · have e : g2[i]? = ((g.map dead)[i]?).map sG := R.new i q
      rw [e, Array.getElem?_map]
      cases e : g[i]? with
      | none => rfl
      | some x =>
        have := q x e
        cases x <;> first | rfl | (cases this; done)
    · simp only [Classical.not_forall] at q
      obtain ⟨z, e, hz⟩ := q
      have hz : susp z = true := by cases h : susp z <;> simp_all
      have e2 : g2[i]? = some z := (R.old i z e hz).2
      rw [e, e2]
  subst this
  rfl
/-- a tree that changes nothing -/
theorem exact {α : Type} {t : Sem α} {u : α} {s : Shared} (h : wpAny (model P w) A t (fun a s' => a = u ∧ s' = deadS s) (fun _ _ => False) (deadS s)) {Q : α → Shared → Prop} {E : Value → Shared → Prop} (q : Q u s) : wpAny (model2 P w) A t Q E s := fun Γ p hΓ =>
  Sem.wp_mono _ Γ t (fun a p' s' ⟨s1, R, e1, e2⟩ => by subst e1 e2; rw [relS_eq R]; exact q) (fun e p' s' ⟨s1, R, z⟩ => z.elim) p s (wp_soft t _ _ p _ _ (relS_dead s) (h Γ p hΓ))
theorem wpAny_soft {α : Type} {M : Model} {x : Option Addr} {t : Sem α} {Q : α → Shared → Prop} {E : Value → Shared → Prop} {s : Shared} (h : wpAny M A t Q E s) : wpAny M A (soft x t) Q E s := fun Γ p hΓ => wp_of_soft t _ _ p s (h Γ p hΓ)
/-- a code, by its tree -/
theorem codeAny2 {c : Code} {R : Result → Shared → Prop} {s : Shared}
    (h : wpAny (model2 P w) (A.under c) (denote table c) (fun fin s' => match fin with | .done f => R (.ok f) s' | .again c' => c'.quiet = true ∧ codeAny (model2 P w) A c' R s') (fun e s' => R (.error e) s') s) : codeAny (model2 P w) A c R s :=
  codeAny_of_tree (wpAny_soft h)
end
end D

/-! A small reader of the program's own tree, over data: what it answers, the program answers (Z2 shows it). -/
namespace Y
open PySem PySem.Spec L2

/-- the key of a dict -/
inductive Kd where
  | int (i : Int) | str (x : Str) | tup (xs : List Kd)
  deriving Inhabited
mutual
def Kd.beq : Kd → Kd → Bool
  | .int i, .int j => decide (i = j)
  | .str x, .str y => decide (x = y)
  | .tup xs, .tup ys => Kd.beqs xs ys
  | _, _ => false
def Kd.beqs : List Kd → List Kd → Bool
  | [], [] => true
  | x :: xs, y :: ys => Kd.beq x y && Kd.beqs xs ys
  | _, _ => false
end
mutual
theorem Kd.of_beq : ∀ {x y : Kd}, Kd.beq x y = true → x = y
  | .int i, .int j, h => by unfold Kd.beq at h; rw [of_decide_eq_true h]
  | .str i, .str j, h => by unfold Kd.beq at h; rw [of_decide_eq_true h]
  | .tup xs, .tup ys, h => by unfold Kd.beq at h; rw [Kd.of_beqs h]
  | .int _, .str _, h => by unfold Kd.beq at h; cases h
  | .int _, .tup _, h => by unfold Kd.beq at h; cases h
  | .str _, .int _, h => by unfold Kd.beq at h; cases h
  | .str _, .tup _, h => by unfold Kd.beq at h; cases h
  | .tup _, .int _, h => by unfold Kd.beq at h; cases h
  | .tup _, .str _, h => by unfold Kd.beq at h; cases h
theorem Kd.of_beqs : ∀ {x y : List Kd}, Kd.beqs x y = true → x = y
  | [], [], _ => rfl
  | x :: xs, y :: ys, h => by
    unfold Kd.beqs at h
    rw [Bool.and_eq_true] at h
    rw [Kd.of_beq h.1, Kd.of_beqs h.2]
  | [], _ :: _, h => by unfold Kd.beqs at h; cases h
  | _ :: _, [], h => by unfold Kd.beqs at h; cases h
end
mutual
theorem Kd.beq_self : ∀ x : Kd, Kd.beq x x = true
  | .int i => by unfold Kd.beq; exact decide_eq_true rfl
  | .str i => by unfold Kd.beq; exact decide_eq_true rfl
  | .tup xs => by unfold Kd.beq; exact Kd.beqs_self xs
theorem Kd.beqs_self : ∀ x : List Kd, Kd.beqs x x = true
  | [] => by unfold Kd.beqs; rfl
  | x :: xs => by unfold Kd.beqs; rw [Kd.beq_self x, Kd.beqs_self xs]; rfl
end
instance : DecidableEq Kd := fun x y => if h : Kd.beq x y = true then isTrue (Kd.of_beq h) else isFalse fun e => h (by rw [e]; exact Kd.beq_self y)
/-- a value: tuples are held whole (they never change), so is what nobody writes here (fl, fd, fins: a list, a dict, an instance; t: somebody further out may write it later); ref i is the i-th thing of the store; glo x is what the module's name x holds -/
inductive W where
  | non | bl (b : Bool) | int (i : Int) | str (x : Str) | ty (n : String) | tup (xs : List W) | fl (t : Bool) (xs : List W) | fd (t : Bool) (kvs : List (Kd × W)) | fdn (t : Bool) (kvs : List (Kd × W)) | fins (t : Bool) (C : Str) (fs : List (Str × W)) | ref (i : Nat) | glo (x : Str)
  deriving Inhabited

/-- a thing of the store -/
inductive O where
  | lst (xs : List W)
  | dct (kvs : List (Kd × W))
  | dcn (kvs : List (Kd × W))
  | ins (C : Str) (fs : List (Str × W))
  deriving Inhabited

abbrev So := List O
abbrev En := List (Option W)
/-- an error of the program's own class -/
structure Er where
  cls : Str
  fs : List (Str × W)
inductive Res (α : Type) where
  | ok (a : α) (S : So)
  | exn (x : Er) (S : So)
  | bad
def Res.bind {α β : Type} : Res α → (α → So → Res β) → Res β
  | .ok a S, f => f a S
  | .exn x S, _ => .exn x S
  | .bad, _ => .bad
def ofO {α : Type} (o : Option α) (S : So) : Res α := match o with
  | some a => .ok a S
  | none => .bad

structure Sx where
  N : List Str
  sc : Scope
  fn : Str → Bool
/-- a def of the program: its statement, its parameters, its names by slot -/
structure Fi where
  st : Stmt
  ps : List Str
  N : List Str
  kws : List (Nat × List Str)
  /-- it borrows what it is given: it runs over an empty store -/
  bw : Bool := false
  /-- what it has made is locked behind it -/
  fz : Bool := false
/-- the module's names, the defs, the places at which what is made is written later -/
structure Pg where
  G : Str → Option W
  F : Str → Option Fi
  mu : Pos → Bool
  /-- the own error classes: the one thing that such an error is given and bears -/
  er : Str → Option Str
  /-- whose heirs they are -/
  isa : Str → W → Option Bool
  /-- enumerate is the built-in one -/
  en : Bool
  /-- parts is the generator that hands out a rule's parts -/
  gn : Bool
abbrev Cf := Str → List W → So → Res W

def idx (N : List Str) (x : Str) : Option Nat := N.findIdx? fun y => decide (y = x)
def slot (e : En) (i : Nat) : Option W := match e[i]? with
  | some (some w) => some w
  | _ => none
def isVis : Option NameKind → Bool
  | some .local => true
  | some .cell => true
  | some .free => true
  | _ => false
/-- an ordinary name -/
def okN (x : Str) : Bool := !(x == ("__debug__" : Str)) && !(x == ("__classdict__" : Str)) && !(decide (x = "__name__"))
def nameE (P : Pg) (sx : Sx) (e : En) (x : Str) : Option W :=
  if isVis (sx.sc.names.lookup x) then (idx sx.N x).bind (slot e)
  else if sx.sc.names.lookup x = some .globalImplicit then P.G x
  else none

/-! ### data that stands deep -/
mutual
def kD : Kd → PyData
  | .int i => .int i
  | .str x => .str x
  | .tup xs => .tuple (kDs xs)
def kDs : List Kd → List PyData
  | [] => []
  | x :: xs => kD x :: kDs xs
end
mutual
def dW (f : Nat → Option PyData) : W → Option PyData
  | .non => some .none
  | .bl b => some (.bool b)
  | .int i => some (.int i)
  | .str x => some (.str x)
  | .ty _ => none
  | .tup xs => (dWs f xs).map .tuple
  | .fl _ xs => (dWs f xs).map .list
  | .fd _ xs => (dKvs f xs).map .dict
  | .fdn _ _ => none
  | .fins _ _ _ => none
  | .ref i => f i
  | .glo _ => none
def dWs (f : Nat → Option PyData) : List W → Option (List PyData)
  | [] => some []
  | x :: xs => match dW f x with
    | none => none
    | some d => match dWs f xs with
      | none => none
      | some ds => some (d :: ds)
def dKvs (f : Nat → Option PyData) : List (Kd × W) → Option (List (PyData × PyData))
  | [] => some []
  | (k, x) :: xs => match dW f x with
    | none => none
    | some d => match dKvs f xs with
      | none => none
      | some ds => some ((kD k, d) :: ds)
end
def dR (S : So) : Nat → Nat → Option PyData
  | 0, _ => none
  | n + 1, i => match S[i]? with
    | some (.lst xs) => (dWs (dR S n) xs).map .list
    | some (.dct kvs) => (dKvs (dR S n) kvs).map .dict
    | _ => none
/-- how deep things of the store may stand in each other -/
def deepS : Nat := 12
def toD (S : So) (x : W) : Option PyData := dW (dR S deepS) x

/-! ### operations -/
def truth (x : W) (S : So) : Option Bool := match x with
  | .non => some false
  | .bl b => some b
  | .int i => some (i != 0)
  | .str x => if x.length ≤ sizeLine then some (x.length != 0) else none
  | .tup xs => some (!xs.isEmpty)
  | .fl _ xs => some (!xs.isEmpty)
  | .fd _ xs => some (!xs.isEmpty)
  | .ref i => match S[i]? with
    | some (.lst xs) => some (!xs.isEmpty)
    | some (.dct xs) => some (!xs.isEmpty)
    | _ => none
  | _ => none
def new (o : O) (S : So) : Res W := .ok (.ref S.length) (S ++ [o])
def lstOf (x : W) (S : So) : Option (List W) := match x with
  | .ref i => match S[i]? with
    | some (.lst xs) => some xs
    | _ => none
  | .fl _ xs => some xs
  | _ => none
/-- a new list -/
def mk (m : Bool) (xs : List W) (S : So) : Res W := if m then new (.lst xs) S else .ok (.fl false xs) S
/-- a new dict -/
def mkD (m : Bool) (kvs : List (Kd × W)) (S : So) : Res W := if m then new (.dct kvs) S else .ok (.fd false kvs) S
/-- a list or a tuple -/
def seqOf (x : W) (S : So) : Option (List W) := match x with
  | .tup xs => some xs
  | _ => lstOf x S
def binop (m : Bool) (op : Operator) (x y : W) (S : So) : Res W := match op, x, y with
  | .Add, .int i, .int j => .ok (.int (i + j)) S
  | .Sub, .int i, .int j => .ok (.int (i - j)) S
  | .Mult, .int i, .int j => if Builtin.Int.intBits i + Builtin.Int.intBits j ≤ 134217728 then .ok (.int (i * j)) S else .bad
  | .Mod, .int i, .int j => if 0 < j then .ok (.int (i % j)) S else .bad
  | .FloorDiv, .int i, .int j => if 0 < j ∧ j < 1073741824 then .ok (.int (i / j)) S else .bad
  | .Pow, .int i, .int j => if 0 ≤ j ∧ (Builtin.Int.intBits i : Int) * j ≤ 134217728 then .ok (.int (i ^ j.toNat)) S else .bad
  | .Add, .str a, .str b => if a.length + b.length ≤ sizeLine then .ok (.str (a ++ b)) S else .bad
  | .Add, .tup a, .tup b => if a.length + b.length ≤ sizeLine then .ok (.tup (a ++ b)) S else .bad
  | .Add, x, y => match lstOf x S, lstOf y S with
    | some a, some b => if a.length + b.length ≤ sizeLine then mk m (a ++ b) S else .bad
    | _, _ => .bad
  | .Mult, x, .int k => match lstOf x S with
    | some a => if -(2 ^ 63) ≤ k ∧ k < 2 ^ 63 ∧ a.length * k.toNat ≤ sizeLine then mk m (List.replicate k.toNat a).flatten S else .bad
    | none => .bad
  | _, _, _ => .bad
def flatW : W → Bool
  | .non => true
  | .bl _ => true
  | .int _ => true
  | .str _ => true
  | _ => false
def eqW : W → W → Bool
  | .non, .non => true
  | .bl a, .bl b => a == b
  | .bl a, .int j => (if a then 1 else 0) == j
  | .int i, .bl b => i == (if b then 1 else 0)
  | .int i, .int j => i == j
  | .str a, .str b => decide (a = b)
  | _, _ => false
/-- == of any data -/
def eqD (x y : W) (S : So) : Option Bool := match toD S x, toD S y with
  | some d, some e => if SeqAt.shaped d && SeqAt.shaped e then some (PyData.eqv d e) else none
  | _, _ => none
/-- two lists, not equally long -/
def lenD (x y : W) (S : So) : Bool := match lstOf x S, lstOf y S with
  | some a, some b => a.length != b.length
  | _, _ => false
def dctOf (x : W) (S : So) : Option (List (Kd × W)) := match x with
  | .ref i => match S[i]? with
    | some (.dct kvs) => some kvs
    | _ => none
  | .fd _ kvs => some kvs
  | _ => none
mutual
/-- how deep a key is -/
def dpK : Kd → Nat
  | .tup ks => dpKs ks + 1
  | _ => 0
def dpKs : List Kd → Nat
  | [] => 0
  | k :: ks => max (dpK k) (dpKs ks)
end
def tupK : Kd → Bool
  | .tup _ => true
  | _ => false
/-- a key of a dict of tuples -/
def nestK (k : Kd) : Bool := tupK k && decide (dpK k ≤ 8)
/-- a dict of tuples -/
def ndOf (x : W) (S : So) : Option (List (Kd × W)) := match x with
  | .ref i => match S[i]? with
    | some (.dcn kvs) => some kvs
    | _ => none
  | .fdn _ kvs => some kvs
  | _ => none
/-- == against a text, against the empty tuple -/
def oddEq (x y : W) (S : So) : Option Bool := match y with
  | .tup [] => (match x with | .tup xs => some xs.isEmpty | _ => none)
  | .str _ => (match x with | .tup _ => some false | _ => if (lstOf x S).isSome || (dctOf x S).isSome then some false else none)
  | _ => none
/-- == of two texts, of two ints; else of data -/
def eqX (x y : W) (S : So) : Option Bool := match x, y with
  | .str a, .str b => some (decide (a = b))
  | .int i, .int j => some (decide (i = j))
  | _, _ => if lenD x y S = true then some false else match oddEq x y S with
    | some b => some b
    | none => eqD x y S
def inW (x : W) (xs : List W) : Bool := xs.any fun y => eqW y x
/-- in, of any data -/
def inD (x y : W) (S : So) : Option Bool := match toD S x, toD S y with
  | some d, some (.list ds) => if SeqAt.shaped d && SeqAt.shaped (.list ds) then some (ds.any fun z => PyData.eqv z d) else none
  | some d, some (.tuple ds) => if SeqAt.shaped d && SeqAt.shaped (.tuple ds) then some (ds.any fun z => PyData.eqv z d) else none
  | _, _ => none
def findK (kvs : List (Kd × W)) (k : Kd) : Option W := (kvs.find? fun kv => decide (kv.1 = k)).map (·.2)
mutual
def toK : W → Option Kd
  | .int i => some (.int i)
  | .str x => some (.str x)
  | .tup xs => (toKs xs).map .tup
  | _ => none
def toKs : List W → Option (List Kd)
  | [] => some []
  | x :: xs => match toK x with
    | none => none
    | some k => (toKs xs).map (k :: ·)
end
mutual
def ofK : Kd → W
  | .int i => .int i
  | .str x => .str x
  | .tup xs => .tup (ofKs xs)
def ofKs : List Kd → List W
  | [] => []
  | x :: xs => ofK x :: ofKs xs
end
/-- ints and texts -/
def flatK : Kd → Bool
  | .tup _ => false
  | _ => true
/-- what is seen: a key is to be looked up among keys -/
def seeK (kvs : List (Kd × W)) (k : Kd) : Bool := flatK k && kvs.all fun kv => flatK kv.1
/-- a key in a dict -/
def inDct (x y : W) (S : So) : Option Bool := match toK x with
  | none => none
  | some k => match dctOf y S with
    | some kvs => if seeK kvs k = true then some (findK kvs k).isSome else if kvs.isEmpty = true ∧ nestK k = true then some false else none
    | none => match ndOf y S with
      | some kvs => if nestK k = true then some (findK kvs k).isSome else none
      | none => none
def cmp (op : CmpOp) (x y : W) (S : So) : Option Bool := match op with
  | .Eq => eqX x y S
  | .NotEq => (eqX x y S).map (!·)
  | .Lt => match x, y with
    | .int i, .int j => some (decide (i < j))
    | .str a, .str b => some (decide (a.cps.toList < b.cps.toList))
    | _, _ => none
  | .LtE => match x, y with
    | .int i, .int j => some (decide (i ≤ j))
    | .str a, .str b => some (!decide (b.cps.toList < a.cps.toList))
    | _, _ => none
  | .Gt => match x, y with
    | .int i, .int j => some (decide (j < i))
    | .str a, .str b => some (decide (b.cps.toList < a.cps.toList))
    | _, _ => none
  | .GtE => match x, y with
    | .int i, .int j => some (decide (j ≤ i))
    | .str a, .str b => some (!decide (a.cps.toList < b.cps.toList))
    | _, _ => none
  | .Is => match y with
    | .non => some (match x with | .non => true | _ => false)
    | .bl b => (match x with | .bl a => some (decide (a = b)) | _ => none)
    | _ => none
  | .IsNot => match y with
    | .non => some (match x with | .non => false | _ => true)
    | .bl b => (match x with | .bl a => some (!decide (a = b)) | _ => none)
    | _ => none
  | .In => match seqOf y S with
    | some ys => if flatW x && ys.all flatW then some (inW x ys) else inD x y S
    | none => inDct x y S
  | .NotIn => match seqOf y S with
    | some ys => if flatW x && ys.all flatW then some (!inW x ys) else (inD x y S).map (!·)
    | none => (inDct x y S).map (!·)

def cutW {α : Type} (xs : List α) (lo hi : Option Int) : List α := (xs.drop (HT.sIx xs.length 0 lo)).take (HT.sIx xs.length xs.length hi - HT.sIx xs.length 0 lo)
def slice (m : Bool) (x : W) (lo hi : Option Int) (S : So) : Res W := match x with
  | .tup xs => .ok (.tup (cutW xs lo hi)) S
  | .str x => if x.length ≤ sizeLine then .ok (.str (cutS x lo hi)) S else .bad
  | _ => match lstOf x S with
    | some xs => mk m (cutW xs lo hi) S
    | none => .bad
def item (x y : W) (S : So) : Option W := match x, y with
  | .tup xs, .int i => atI xs i
  | .str z, .int i => if z.length ≤ sizeLine then (atI z.cps.toList i).map fun c => .str ⟨#[c]⟩ else none
  | x, y => match lstOf x S with
    | some xs => (match y with | .int i => atI xs i | _ => none)
    | none => match dctOf x S, toK y with
      | some kvs, some k => if seeK kvs k = true then findK kvs k else none
      | _, _ => match ndOf x S, toK y with
        | some kvs, some k => if nestK k = true then findK kvs k else none
        | _, _ => none
def putW (kvs : List (Kd × W)) (k : Kd) (v : W) : List (Kd × W) :=
  if (kvs.any fun kv => decide (kv.1 = k)) = true then kvs.map (fun kv => if kv.1 = k then (kv.1, v) else kv) else kvs ++ [(k, v)]
def setItem (x y v : W) (S : So) : Option So := match x with
  | .ref j => match S[j]? with
    | some (.lst xs) => (match y with | .int i => (ixN xs.length i).map fun k => S.set j (.lst (xs.set k v)) | _ => none)
    | some (.dct kvs) => (match toK y with
      | some k => if seeK kvs k = true ∧ kvs.length < sizeLine then some (S.set j (.dct (putW kvs k v))) else if kvs.isEmpty = true ∧ nestK k = true then some (S.set j (.dcn [(k, v)])) else none
      | none => none)
    | some (.dcn kvs) => (match toK y with | some k => if nestK k = true ∧ kvs.length < sizeLine then some (S.set j (.dcn (putW kvs k v))) else none | none => none)
    | _ => none
  | _ => none
def strsOf : List W → Option (List Str)
  | [] => some []
  | .str x :: r => (strsOf r).map (x :: ·)
  | _ :: _ => none
def intsOf : List W → Option (List Int)
  | [] => some []
  | .int x :: r => (intsOf r).map (x :: ·)
  | _ :: _ => none
def maxI (i : Int) (is : List Int) : Int := is.foldl (fun a b => if b > a then b else a) i
def minI (i : Int) (is : List Int) : Int := is.foldl (fun a b => if b < a then b else a) i
def blsOf : List W → Option (List Bool)
  | [] => some []
  | .bl x :: r => (blsOf r).map (x :: ·)
  | _ :: _ => none
def tyOf (x : W) (S : So) : Option String := match x with
  | .non => some "NoneType"
  | .bl _ => some "bool"
  | .int _ => some "int"
  | .str _ => some "str"
  | .tup _ => some "tuple"
  | .fl _ _ => some "list"
  | .fd _ _ => some "dict"
  | .ref i => match S[i]? with
    | some (.lst _) => some "list"
    | some (.dct _) => some "dict"
    | _ => none
  | _ => none
/-- len -/
def lenOf (x : W) (S : So) : Option Nat := match seqOf x S with
  | some xs => some xs.length
  | none => match dctOf x S with
    | some kvs => some kvs.length
    | none => (ndOf x S).map (·.length)
/-- the built-in functions and types, by name -/
def builtin (m : Bool) (f : Str) (args : List W) (S : So) : Res W :=
  if f = "len" then match args with
    | [.str z] => if z.length ≤ sizeLine then .ok (.int z.length) S else .bad
    | [x] => (match lenOf x S with | some n => .ok (.int n) S | none => .bad)
    | _ => .bad
  else if f = "int" then match args with
    | [.int i] => .ok (.int i) S
    | [.bl b] => .ok (.int (if b then 1 else 0)) S
    | _ => .bad
  else if f = "max" then match args with
    | [.int i, .int j] => .ok (.int (if j > i then j else i)) S
    | [x] => (match (lstOf x S).bind intsOf with | some (i :: is) => .ok (.int (maxI i is)) S | _ => .bad)
    | _ => .bad
  else if f = "min" then match args with
    | [.int i, .int j] => .ok (.int (if j < i then j else i)) S
    | [x] => (match (lstOf x S).bind intsOf with | some (i :: is) => .ok (.int (minI i is)) S | _ => .bad)
    | _ => .bad
  else if f = "tuple" then match args with
    | [.tup xs] => .ok (.tup xs) S
    | [x] => (match lstOf x S with | some xs => .ok (.tup xs) S | none => .bad)
    | _ => .bad
  else if f = "list" then match args with
    | [x] => (match seqOf x S with | some xs => mk m xs S | none => .bad)
    | _ => .bad
  else if f = "all" then match args with
    | [x] => (match (lstOf x S).bind blsOf with | some bs => .ok (.bl (bs.all id)) S | none => .bad)
    | _ => .bad
  else if f = "any" then match args with
    | [x] => (match (lstOf x S).bind blsOf with | some bs => .ok (.bl (bs.any id)) S | none => .bad)
    | _ => .bad
  else if f = "isinstance" then match args with
    | [x, .ty n] => (match tyOf x S with
      | some t => (match kitB t n with | some b => .ok (.bl b) S | none => .bad)
      | none => .bad)
    | _ => .bad
  else if f = "repr" then match args with
    | [x] => (match toD S x with
      | some d => if d.showable && decide (d.shown.length ≤ sizeLine) && decide (d.depth ≤ 150) then .ok (.str d.shown) S else .bad
      | none => .bad)
    | _ => .bad
  else .bad
def builtins : List Str := ["len", "int", "max", "min", "tuple", "list", "all", "any", "isinstance", "repr"]
/-- isinstance of an error of one's own -/
def isiC (isa : Str → W → Option Bool) (x c : W) (S : So) : Res W := match x with
  | .fins _ C _ => (match isa C c with | some b => .ok (.bl b) S | none => .bad)
  | _ => .bad
def builtinI (isa : Str → W → Option Bool) (m : Bool) (f : Str) (us : List W) (S : So) : Res W :=
  if f = "isinstance" then match us with
    | [x, .glo D] => isiC isa x (.glo D) S
    | [x, .ty n] => if n = "ValueError" then isiC isa x (.ty n) S else builtin m f us S
    | _ => builtin m f us S
  else builtin m f us S
/-- an attribute of an error of one's own -/
def attrV (P : Pg) (u : W) (n : Str) (S : So) : Res W := match u with
  | .fins _ C fs => if P.er C = some n then ofO (fs.lookup n) S else .bad
  | _ => .bad
/-- whose method it is -/
def methTy (m : Str) : Option String :=
  if m = "append" then some "list" else if m = "join" then some "str" else if m = "split" then some "str" else if m = "partition" then some "str" else if m = "extend" then some "list" else if m = "pop" then some "list" else if m = "get" then some "dict" else none
def valTy (x : W) (S : So) : Option String := match x with
  | .str _ => some "str"
  | .fl _ _ => some "list"
  | .fd _ _ => some "dict"
  | .fdn _ _ => some "dict"
  | .ref i => match S[i]? with
    | some (.lst _) => some "list"
    | some (.dct _) => some "dict"
    | some (.dcn _) => some "dict"
    | _ => none
  | _ => none
/-- d.get(k, d0) -/
def getW (x k d : W) (S : So) : Option W := match toK k with
  | none => none
  | some q => match dctOf x S with
    | some kvs => if seeK kvs q = true then some ((findK kvs q).getD d) else if kvs.isEmpty = true ∧ nestK q = true then some d else none
    | none => match ndOf x S with
      | some kvs => if nestK q = true then some ((findK kvs q).getD d) else none
      | none => none
/-- the methods of built-in values -/
def method (mu : Bool) (x : W) (m : Str) (args : List W) (S : So) : Res W :=
  if m = "append" then match x, args with
    | .ref i, [v] => (match S[i]? with
      | some (.lst xs) => if xs.length < sizeLine then .ok .non (S.set i (.lst (xs ++ [v]))) else .bad
      | _ => .bad)
    | _, _ => .bad
  else if m = "join" then match x, args with
    | .str a, [v] => (match (seqOf v S).bind strsOf with
      | some ys => if (ys.map (·.length)).sum + ys.length * a.length ≤ 16777216 then .ok (.str (Txt.join a ys)) S else .bad
      | none => .bad)
    | _, _ => .bad
  else if m = "split" then match x, args with
    | .str a, [.str b] => if (b.length == 0) = false ∧ a.length + 2 ≤ sizeLine then mk mu ((Txt.split a b).map .str) S else .bad
    | _, _ => .bad
  else if m = "partition" then match x, args with
    | .str a, [.str b] => if (b.length == 0) = false ∧ a.length ≤ sizeLine then .ok (.tup [.str (Txt.partition a b).1, .str (Txt.partition a b).2.1, .str (Txt.partition a b).2.2]) S else .bad
    | _, _ => .bad
  else if m = "extend" then match x, args with
    | .ref i, [v] => (match S[i]?, lstOf v S with
      | some (.lst xs), some zs => if xs.length + zs.length ≤ sizeLine then .ok .non (S.set i (.lst (xs ++ zs))) else .bad
      | _, _ => .bad)
    | _, _ => .bad
  else if m = "pop" then match x, args with
    | .ref i, [] => (match S[i]? with
      | some (.lst xs) => (match xs[xs.length - 1]? with
        | some y => .ok y (S.set i (.lst xs.dropLast))
        | none => .bad)
      | _ => .bad)
    | _, _ => .bad
  else if m = "get" then match args with
    | [k] => ofO (getW x k .non S) S
    | [k, d] => ofO (getW x k d S) S
    | _ => .bad
  else .bad

/-! ### the reader -/
/-- the parts of an f-string are written texts and plain fields -/
def partJ : Expr → Bool
  | .Constant (.str _) _ _ => true
  | .FormattedValue _ c none _ => decide (c = -1)
  | _ => false
def isStar : Expr → Bool
  | .Starred _ _ => true
  | _ => false
def isSet : Expr → Bool
  | .Set _ _ _ => true
  | _ => false
def isSuper : Expr → Bool
  | .Call (.Name _ _) [] [] _ => true
  | _ => false
def isSlice : Expr → Bool
  | .Slice _ _ _ _ => true
  | _ => false
def isComp : Expr → Bool
  | .ListComp _ _ _ _ => true
  | .SetComp _ _ _ _ => true
  | .DictComp _ _ _ _ _ => true
  | _ => false
/-- the written arguments are plain -/
def plainA (es : List Expr) (kws : List Keyword) : Bool := es.all (fun e => !isStar e) && (kws.map (·.arg)).all (·.isSome)
def evL (f : Expr → So → Res W) : List Expr → So → Res (List W)
  | [], S => .ok [] S
  | x :: xs, S => (f x S).bind fun w S1 => (evL f xs S1).bind fun ws S2 => .ok (w :: ws) S2
def evK (f : Expr → So → Res W) : List Keyword → So → Res (List W)
  | [], S => .ok [] S
  | x :: xs, S => (f x.value S).bind fun w S1 => (evK f xs S1).bind fun ws S2 => .ok (w :: ws) S2
def evO (f : Expr → So → Res W) : Option Expr → So → Res (Option Int)
  | none, S => .ok none S
  | some x, S => (f x S).bind fun w S1 => match w with
    | .int i => .ok (some i) S1
    | _ => .bad
def evB (isAnd : Bool) (f : Expr → So → Res W) : List Expr → So → Res W
  | [], _ => .bad
  | [x], S => f x S
  | x :: xs, S => (f x S).bind fun w S1 => match truth w S1 with
    | some b => if b = isAnd then evB isAnd f xs S1 else .ok w S1
    | none => .bad
def evP (f : Expr → So → Res W) : List (Option Expr) → List Expr → So → Res (List (Kd × W))
  | [], [], S => .ok [] S
  | some k :: ks, v :: vs, S => (f k S).bind fun x S1 => (f v S1).bind fun y S2 => match toK x with
    | some q => (evP f ks vs S2).bind fun r S3 => .ok ((q, y) :: r) S3
    | none => .bad
  | _, _, _ => .bad
/-- the parts of an f-string -/
def evJ (f : Expr → So → Res W) : List Expr → Str → So → Res Str
  | [], acc, S => .ok acc S
  | .Constant (.str y) _ _ :: r, acc, S => if (acc ++ y).length ≤ sizeLine then evJ f r (acc ++ y) S else .bad
  | .FormattedValue x (-1) none _ :: r, acc, S => (f x S).bind fun w S1 => match w with
    | .str y => if y.length ≤ sizeLine ∧ (acc ++ y).length ≤ sizeLine then evJ f r (acc ++ y) S1 else .bad
    | _ => .bad
  | _, _, _ => .bad
/-- what is walked: written down at the start, or a list of the store as it stands -/
inductive Wk where
  | seq (ws : List W)
  | live (i : Nat) (n : Nat)
def Wk.len : Wk → Nat
  | .seq ws => ws.length
  | .live _ n => n
/-- at turn j: none: it cannot go on; some none: the end -/
def Wk.at (k : Wk) (j : Nat) (S : So) : Option (Option W) := match k with
  | .seq ws => some ws[j]?
  | .live i _ => match S[i]? with
    | some (.lst xs) => some xs[j]?
    | _ => none
def rangeW (lo : Int) (n : Nat) : List W := (List.range n).map fun (k : Nat) => W.int (lo + (k : Int))
/-- what a for or a comprehension walks -/
def walkV (u : W) (S : So) : Res Wk := match u with
  | .tup ws => .ok (.seq ws) S
  | .fl _ ws => .ok (.seq ws) S
  | .str z => .ok (.seq (z.cps.toList.map fun c => W.str ⟨#[c]⟩)) S
  | .ref i => match S[i]? with
    | some (.lst xs) => .ok (.live i xs.length) S
    | _ => .bad
  | _ => .bad
def isRange : Expr → Option (List Expr)
  | .Call (.Name f _) es [] _ => if f = "range" ∧ es.all (fun e => !isStar e) = true ∧ (es.length = 1 ∨ es.length = 2) then some es else none
  | _ => none
/-- the built-in one -/
def rgOk (P : Pg) (sx : Sx) (n : Str) : Bool := (decide (n = "range") || (if n = "parts" then P.gn else P.en)) && (P.F n).isNone && decide (sx.sc.names.lookup n = some .globalImplicit)
def isEnum : Expr → Option Expr
  | .Call (.Name f _) [x] [] _ => if f = "enumerate" ∧ isStar x = false then some x else none
  | _ => none
def isTupE : Expr → Bool
  | .Tuple _ _ _ => true
  | _ => false
/-- what enumerate hands out -/
def enumW : Nat → List W → List W
  | _, [] => []
  | i, w :: ws => .tup [.int (i : Nat), w] :: enumW (i + 1) ws
def enumV (u : W) (S : So) : Res Wk := match u with
  | .fl _ ws => .ok (.seq (enumW 0 ws)) S
  | _ => .bad
/-- .. but no generator -/
def rgF (P : Pg) (sx : Sx) (n : Str) : Bool := (!decide (n = "parts")) && rgOk P sx n
def isParts : Expr → Option Expr
  | .Call (.Name n _) [x] [] _ => if n = "parts" ∧ isStar x = false then some x else none
  | _ => none
def partsL (f : W → Option (List W)) : List W → Option (List W)
  | [] => some []
  | .str _ :: r => partsL f r
  | .tup l :: r => (f (.tup l)).bind fun a => (partsL f r).map (a ++ ·)
  | _ :: _ => none
/-- a rule's parts, itself ahead: tuples that begin with a text, of texts and such tuples -/
def partsN : Nat → W → Option (List W)
  | n + 1, .tup (.str x :: r) => (partsL (partsN n) r).map (.tup (.str x :: r) :: ·)
  | _, _ => none
def partsV (u : W) (S : So) : Res Wk := match partsN 8 u with
  | some ws => .ok (.seq ws) S
  | none => .bad
def walkE (rg : Str → Bool) (tg : Expr) (f : Expr → So → Res W) (iter : Expr) (S : So) : Res Wk := if isSet iter = true then .bad else match isEnum iter with
  | some x => if rg "enumerate" = true ∧ isTupE tg = true then (f x S).bind enumV else .bad
  | none => match isRange iter with
  | some es => if rg "range" = true then (evL f es S).bind fun us S1 => match us with
      | [.int j] => if -(2 ^ 62) ≤ j ∧ j < 2 ^ 62 then .ok (.seq (rangeW 0 j.toNat)) S1 else .bad
      | [.int i, .int j] => if (-(2 ^ 62) ≤ i ∧ i < 2 ^ 62) ∧ -(2 ^ 62) ≤ j ∧ j < 2 ^ 62 then .ok (.seq (rangeW i (j - i).toNat)) S1 else .bad
      | _ => .bad
    else .bad
  | none => match isParts iter with
  | some x => if rg "parts" = true then (f x S).bind partsV else .bad
  | none => (f iter S).bind walkV
def asgN (sx : Sx) (e : En) (x : Str) (w : W) : Option En := match sx.sc.names.lookup x with
  | some .local => (idx sx.N x).map fun i => e.set i (some w)
  | some .cell => if sx.fn x = true then (idx sx.N x).map fun i => e.set i (some w) else none
  | _ => none
def asgL (sx : Sx) : List Expr → List W → En → Option En
  | [], [], e => some e
  | .Name x _ :: r, w :: ws, e => (asgN sx e x w).bind (asgL sx r ws)
  | _, _, _ => none
def asg (sx : Sx) (e : En) (tg : Expr) (w : W) : Option En := match tg with
  | .Name x _ => asgN sx e x w
  | .Tuple es _ _ => match w with
    | .tup ws => asgL sx es ws e
    | _ => none
  | _ => none
/-- the slots that a target writes -/
def slotsL (N : List Str) : List Expr → List Nat
  | [] => []
  | .Name x _ :: r => (idx N x).toList ++ slotsL N r
  | _ :: r => slotsL N r
def slotsT (N : List Str) : Expr → List Nat
  | .Name x _ => (idx N x).toList
  | .Tuple es _ _ => slotsL N es
  | _ => []
def ownOf (N : List Str) (sc : Scope) : List (Str × Nat) := sc.names.filterMap fun y => match y.2 with
  | .local => (idx N y.1).map fun i => (y.1, i)
  | .cell => (idx N y.1).map fun i => (y.1, i)
  | _ => none
def wipeW (e : En) : List Nat → En
  | [] => e
  | v :: vs => (wipeW e vs).set v none
/-- one turn after the other: f item state store; the answer's Bool: go on -/
def turns {α : Type} (k : Wk) (f : W → α → So → Res (α × Bool)) : Nat → Nat → α → So → Res α
  | n, j, a, S => match k.at j S with
    | none => .bad
    | some none => .ok a S
    | some (some w) => match n with
      | 0 => .bad
      | n + 1 => (f w a S).bind fun r S1 => if r.2 then turns k f n (j + 1) r.1 S1 else .ok r.1 S1
def ifsE (f : Expr → So → Res W) : List Expr → So → Res Bool
  | [], S => .ok true S
  | [c], S => (f c S).bind fun w S1 => ofO (truth w S1) S1
  | _, _ => .bad
def constE (c : Const) (S : So) : Res W := match c with
  | .none => .ok .non S
  | .bool b => .ok (.bl b) S
  | .int i => .ok (.int i) S
  | .str x => .ok (.str x) S
  | _ => .bad
/-- the arguments in the parameters' order: the keywords ks, of values ws, behind the positional ones us -/
def ordK {α : Type} (ps ks : List Str) (us ws : List α) : List α := us ++ (ps.drop us.length).filterMap fun p => (ks.zip ws).lookup p
def argsOf (fi : Fi) (us : List W) (ks : List (Option Str)) (ws : List W) : Option (List W) :=
  if ks.isEmpty then (if us.length = fi.ps.length then some us else none)
  else if (us.length, ks.filterMap id) ∈ fi.kws ∧ ks.all (·.isSome) = true then some (ordK fi.ps (ks.filterMap id) us ws) else none
/-- where no error may leave -/
def noX {α : Type} : Res α → Res α
  | .ok a S => .ok a S
  | _ => .bad

/-- a turn of a comprehension: acc is what the new list has so far -/
def lcTurn (f : En → Expr → So → Res W) (sx : Sx) (e : En) (tg : Expr) (ifs : List Expr) (elt : Expr) : W → List W → So → Res (List W × Bool) := fun w acc S2 => match asg sx e tg w with
  | none => .bad
  | some e2 => (ifsE (f e2) ifs S2).bind fun b S3 => if b then (f e2 elt S3).bind fun y S4 => if acc.length < sizeLine then .ok (acc ++ [y], true) S4 else .bad
    else .ok (acc, true) S3
/-- minus an int -/
def neg (u : W) (S : So) : Res W := match u with
  | .int i => .ok (.int (-i)) S
  | _ => .bad
def evalE (P : Pg) (call : Cf) : Nat → Sx → En → Expr → So → Res W
  | 0, _, _, _, _ => .bad
  | d + 1, sx, e, x, S => match x with
    | .Constant c _ _ => constE c S
    | .Name n _ => if okN n = true then ofO (nameE P sx e n) S else .bad
    | .BinOp a op b p => (evalE P call d sx e a S).bind fun u S1 => (evalE P call d sx e b S1).bind fun v S2 => binop (P.mu p) op u v S2
    | .UnaryOp .Not a _ => (evalE P call d sx e a S).bind fun u S1 => match truth u S1 with
      | some b => .ok (.bl (!b)) S1
      | none => .bad
    | .UnaryOp .USub a _ => (evalE P call d sx e a S).bind neg
    | .BoolOp op vs _ => evB (match op with | .And => true | .Or => false) (evalE P call d sx e) vs S
    | .Compare a [op] [b] _ => if isSet b = true then .bad else (evalE P call d sx e a S).bind fun u S1 => (evalE P call d sx e b S1).bind fun v S2 => (ofO (cmp op u v S2) S2).bind fun r S3 => .ok (.bl r) S3
    | .Compare a [op, op'] [b, c] _ => if (isSet b || isSet c) = true then .bad else (evalE P call d sx e a S).bind fun u S1 => (evalE P call d sx e b S1).bind fun v S2 => (ofO (cmp op u v S2) S2).bind fun r S3 =>
        if r then (evalE P call d sx e c S3).bind fun z S4 => (ofO (cmp op' v z S4) S4).bind fun r S5 => .ok (.bl r) S5 else .ok (.bl false) S3
    | .IfExp c a b _ => (evalE P call d sx e c S).bind fun u S1 => match truth u S1 with
      | some true => evalE P call d sx e a S1
      | some false => evalE P call d sx e b S1
      | none => .bad
    | .Tuple es _ _ => (evL (evalE P call d sx e) es S).bind fun ws S1 => if ws.length ≤ sizeLine then .ok (.tup ws) S1 else .bad
    | .List es p => (evL (evalE P call d sx e) es S).bind fun ws S1 => if ws.length ≤ sizeLine then mk (P.mu p) ws S1 else .bad
    | .Dict [] [] p => mkD (P.mu p) [] S
    | .Dict ks vs p => if (ks.all (·.isSome) = true ∧ ks.length = vs.length) ∧ ks.length ≤ 15 then (evP (evalE P call d sx e) ks vs S).bind fun kvs S1 =>
        if kvs.length ≤ 15 ∧ (kvs.all fun kv => flatK kv.1) = true then mkD (P.mu p) (kvs.foldl (fun r kv => putW r kv.1 kv.2) []) S1 else .bad
      else .bad
    | .Subscript a (.Slice lo hi none _) p => (evalE P call d sx e a S).bind fun u S1 => (evO (evalE P call d sx e) lo S1).bind fun l S2 => (evO (evalE P call d sx e) hi S2).bind fun h S3 => slice (P.mu p) u l h S3
    | .Subscript a b _ => if isSlice b = true then .bad else (evalE P call d sx e a S).bind fun u S1 => (evalE P call d sx e b S1).bind fun v S2 => ofO (item u v S2) S2
    | .JoinedStr es _ => if es.all partJ = true ∧ 2 ≤ es.length then (evJ (evalE P call d sx e) es Str.empty S).bind fun x S1 => .ok (.str x) S1 else .bad
    | .Call (.Name f _) es kws p =>
      if (okN f = true ∧ plainA es kws = true) ∧ sx.sc.names.lookup f = some .globalImplicit then match P.F f with
        | some fi => (evL (evalE P call d sx e) es S).bind fun us S1 => (evK (evalE P call d sx e) kws S1).bind fun ws S2 => match argsOf fi us (kws.map (·.arg)) ws with
          | some vs => call f vs S2
          | none => .bad
        | none => if kws.isEmpty = true ∧ f ∈ builtins then (evL (evalE P call d sx e) es S).bind fun us S1 => builtinI P.isa (P.mu p) f us S1 else .bad
      else .bad
    | .Call (.Attribute o m ap) es [] cp => match methTy m with
      | none => .bad
      | some T => if ((ap.endLine == cp.line) = true ∧ plainA es [] = true) ∧ ((1 ≤ es.length ∨ m = "pop") ∧ es.length < 20) ∧ isSuper o = false then
          (evalE P call d sx e o S).bind fun u S1 => if valTy u S1 = some T then (evL (evalE P call d sx e) es S1).bind fun us S2 => method (P.mu cp) u m us S2 else .bad
        else .bad
    | .ListComp elt [⟨tg, iter, ifs, 0⟩] scope p =>
      if blkC sx.N sx.sc scope (ownOf sx.N scope) = true ∧ ((slotsT sx.N tg).all fun i => ((ownOf sx.N scope).map (·.2)).contains i) = true ∧ ifs.length ≤ 1 then
        (walkE (rgOk P sx) tg (evalE P call d sx e) iter S).bind fun k S1 =>
        (noX (turns k (lcTurn (evalE P call d ⟨sx.N, relS scope sx.sc, fun x => scope.names.lookup x == some .cell⟩) ⟨sx.N, relS scope sx.sc, fun x => scope.names.lookup x == some .cell⟩ (wipeW e ((ownOf sx.N scope).map (·.2))) tg ifs elt) k.len 0 [] S1)).bind fun acc S6 => mk (P.mu p) acc S6
      else .bad
    | .Attribute o n _ => if isSuper o = false then (evalE P call d sx e o S).bind fun u S1 => attrV P u n S1 else .bad
    | _ => .bad

/-! ### statements -/
inductive Fl where
  | nx | ret (w : W) | brk | ct
/-- a block -/
def evS (f : Stmt → En → So → Res (En × Fl)) : List Stmt → En → So → Res (En × Fl)
  | [], e, S => .ok (e, .nx) S
  | x :: xs, e, S => (f x e S).bind fun r S1 => match r.2 with
    | .nx => evS f xs r.1 S1
    | _ => .ok r S1
/-- while: n turns at most -/
def whileE (c : En → So → Res Bool) (f : En → So → Res (En × Fl)) : Nat → En → So → Res (En × Fl)
  | 0, _, _ => .bad
  | n + 1, e, S => (c e S).bind fun b S1 => if b then (f e S1).bind fun r S2 => match r.2 with
      | .nx => whileE c f n r.1 S2
      | .ct => whileE c f n r.1 S2
      | .brk => .ok (r.1, .nx) S2
      | .ret w => .ok (r.1, .ret w) S2
    else .ok (e, .nx) S1
/-- a turn of a for: the names and what has left it -/
def forTurn (sx : Sx) (tg : Expr) (body : En → So → Res (En × Fl)) : W → En × Fl → So → Res ((En × Fl) × Bool) := fun w r S2 => match asg sx r.1 tg w with
  | none => .bad
  | some e2 => (body e2 S2).bind fun r S3 => match r.2 with
    | .nx => .ok ((r.1, Fl.nx), true) S3
    | .ct => .ok ((r.1, Fl.nx), true) S3
    | .brk => .ok ((r.1, Fl.nx), false) S3
    | .ret w => .ok ((r.1, Fl.ret w), false) S3
/-- a, b = x, y: none: it cannot be told; some true: two plain names, stored from the right; some false: the pair is made and unpacked -/
def swK (sx : Sx) (tg v : Expr) : Option Bool := match tg, v with
  | .Tuple ts _ _, .Tuple vs _ _ =>
    if (!(ts.length == 2 || ts.length == 3) || vs.length != ts.length) = true then some false
    else if (vs.any isStar) = true then none
    else
      let names := ts.filterMap fun t => match t with
        | .Name id pos => if (decide (sx.sc.names.lookup id = some .local) && pos.line == (ts.head?.map (·.pos.line)).getD 0) = true then some id else none
        | _ => none
      if (names.length != ts.length || names.eraseDups.length != names.length) = true then some false
      else if vs.all (foldedForSure 8) = true then some false
      else if vs.all (constantsAlone 8) = true then none
      else some true
  | _, _ => some false
def nmOk (N : List Str) : Expr → Bool
  | .Name x _ => (idx N x).isSome
  | _ => false
def tgOk (N : List Str) : Expr → Bool
  | .Name x _ => (idx N x).isSome
  | .Tuple es _ _ => es.all (nmOk N)
  | _ => false
/-- turns of a while, at most -/
def fuelW : Nat := 1000000
/-- name op= an int -/
def augI (op : Operator) (u w : W) (S : So) : Res W := match op, u, w with
  | .Add, .int i, .int j => .ok (.int (i + j)) S
  | .Sub, .int i, .int j => .ok (.int (i - j)) S
  | _, _, _ => .bad
def augOk : Operator → Bool
  | .Add => true
  | .Sub => true
  | _ => false
/-- a name of one's own: its slot -/
def ownS (sx : Sx) (x : Str) : Option Nat := match sx.sc.names.lookup x with
  | some .local => idx sx.N x
  | some .cell => if sx.fn x = true then idx sx.N x else none
  | _ => none
def execS (P : Pg) (call : Cf) : Nat → Sx → Stmt → En → So → Res (En × Fl)
  | 0, _, _, _, _ => .bad
  | d + 1, sx, x, e, S => match x with
    | .Assign [.Subscript o i _] v _ => if isSlice i = true then .bad else (evalE P call d sx e v S).bind fun w S1 => (evalE P call d sx e o S1).bind fun u S2 => (evalE P call d sx e i S2).bind fun k S3 => (ofO (setItem u k w S3) S3).bind fun S4 _ => .ok (e, .nx) S4
    | .Assign [tg] v _ => if swK sx tg v = none ∨ tgOk sx.N tg = false then .bad else (evalE P call d sx e v S).bind fun w S1 => (ofO (asg sx e tg w) S1).bind fun e2 S2 => .ok (e2, .nx) S2
    | .Expr v _ => if isComp v = true then .bad else (evalE P call d sx e v S).bind fun _ S1 => .ok (e, .nx) S1
    | .Return (some v) _ => (evalE P call d sx e v S).bind fun w S1 => .ok (e, .ret w) S1
    | .Return none _ => .ok (e, .ret .non) S
    | .If c a b _ => (evalE P call d sx e c S).bind fun u S1 => match truth u S1 with
      | some true => evS (execS P call d sx) a e S1
      | some false => evS (execS P call d sx) b e S1
      | none => .bad
    | .For tg iter body [] _ => (walkE (rgF P sx) tg (evalE P call d sx e) iter S).bind fun k S1 =>
        turns k (forTurn sx tg (evS (execS P call d sx) body)) k.len 0 (e, Fl.nx) S1
    | .While c body [] _ => whileE (fun e1 S1 => (evalE P call d sx e1 c S1).bind fun u S2 => ofO (truth u S2) S2) (fun e1 S1 => evS (execS P call d sx) body e1 S1) fuelW e S
    | .AugAssign (.Name x _) op v _ => match (if augOk op = true then ownS sx x else none) with
      | none => .bad
      | some i => match slot e i with
        | none => .bad
        | some u => (evalE P call d sx e v S).bind fun w S1 => (augI op u w S1).bind fun z S2 => .ok (e.set i (some z), .nx) S2
    | .Pass _ => .ok (e, .nx) S
    | .Break _ => .ok (e, .brk) S
    | .Continue _ => .ok (e, .ct) S
    | _ => .bad
/-- how deep a def's tree may be -/
def deepT : Nat := 40
/-! ### what is locked -/
mutual
/-- the things from the n-th on are locked in a value; f i: the i-th thing, locked -/
def lkW (n : Nat) (f : Nat → Option W) : W → Option W
  | .ref i => if i < n then some (.ref i) else f i
  | .tup xs => (lkWs n f xs).map .tup
  | .fl t xs => (lkWs n f xs).map (.fl t)
  | .fd t xs => (lkKs n f xs).map (.fd t)
  | .fdn t xs => (lkKs n f xs).map (.fdn t)
  | .fins t C xs => (lkFs n f xs).map (.fins t C)
  | .non => some .non
  | .bl b => some (.bl b)
  | .int i => some (.int i)
  | .str x => some (.str x)
  | .ty x => some (.ty x)
  | .glo x => some (.glo x)
def lkWs (n : Nat) (f : Nat → Option W) : List W → Option (List W)
  | [] => some []
  | x :: xs => match lkW n f x with
    | none => none
    | some y => (lkWs n f xs).map (y :: ·)
def lkKs (n : Nat) (f : Nat → Option W) : List (Kd × W) → Option (List (Kd × W))
  | [] => some []
  | (k, x) :: xs => match lkW n f x with
    | none => none
    | some y => (lkKs n f xs).map ((k, y) :: ·)
def lkFs (n : Nat) (f : Nat → Option W) : List (Str × W) → Option (List (Str × W))
  | [] => some []
  | (k, x) :: xs => match lkW n f x with
    | none => none
    | some y => (lkFs n f xs).map ((k, y) :: ·)
end
/-- the i-th thing as a locked value, at most d deep; t: somebody further out may write it -/
def lkR (n : Nat) (t : Bool) (S : So) : Nat → Nat → Option W
  | 0, _ => none
  | d + 1, i => match S[i]? with
    | some (.lst xs) => (lkWs n (lkR n t S d) xs).map (.fl t)
    | some (.dct kvs) => (lkKs n (lkR n t S d) kvs).map (.fd t)
    | some (.dcn kvs) => (lkKs n (lkR n t S d) kvs).map (.fdn t)
    | some (.ins C fs) => (lkFs n (lkR n t S d) fs).map (.fins t C)
    | none => none
def lkO (n : Nat) (f : Nat → Option W) : O → Option O
  | .lst xs => (lkWs n f xs).map .lst
  | .dct xs => (lkKs n f xs).map .dct
  | .dcn xs => (lkKs n f xs).map .dcn
  | .ins C xs => (lkFs n f xs).map (.ins C)
def lkOs (n : Nat) (f : Nat → Option W) : List O → Option (List O)
  | [] => some []
  | x :: xs => match lkO n f x with
    | none => none
    | some y => (lkOs n f xs).map (y :: ·)
mutual
/-- nothing in it is the store's, or is written further out -/
def freeW : W → Bool
  | .ref _ => false
  | .tup xs => freeWs xs
  | .fl t xs => !t && freeWs xs
  | .fd t xs => !t && freeKs xs
  | .fdn t xs => !t && freeKs xs
  | .fins t _ xs => !t && freeFs xs
  | .non => true
  | .bl _ => true
  | .int _ => true
  | .str _ => true
  | .ty _ => true
  | .glo _ => true
def freeWs : List W → Bool
  | [] => true
  | x :: xs => freeW x && freeWs xs
def freeKs : List (Kd × W) → Bool
  | [] => true
  | (_, x) :: xs => freeW x && freeKs xs
def freeFs : List (Str × W) → Bool
  | [] => true
  | (_, x) :: xs => freeW x && freeFs xs
end
/-- behind a def that locks: the things from the n-th on are locked, the store is as long as before -/
def lockR (n : Nat) : Res W → Res W
  | .ok w S => match lkW n (lkR n false S deepS) w, lkOs n (lkR n false S deepS) (S.take n) with
    | some w', some S' => .ok w' S'
    | _, _ => .bad
  | .exn x S => match lkFs n (lkR n false S deepS) x.fs, lkOs n (lkR n false S deepS) (S.take n) with
    | some fs, some S' => .exn ⟨x.cls, fs⟩ S'
    | _, _ => .bad
  | .bad => .bad
/-- behind a def that borrowed the store S -/
def backR (S : So) : Res W → Res W
  | .ok w _ => if freeW w = true then .ok w S else .bad
  | .exn x _ => if freeFs x.fs = true then .exn x S else .bad
  | .bad => .bad
/-- a def's body -/
def bodyN (P : Pg) (call : Cf) (fi : Fi) (vs : List W) (S : So) : Res W :=
  (evS (execS P call deepT ⟨fi.N, defScope fi.st, fun _ => true⟩) (defBody fi.st) (vs.map some ++ List.replicate (fi.N.length - vs.length) none) S).bind fun r S1 => match r.2 with
    | .nx => .ok .non S1
    | .ret w => .ok w S1
    | _ => .bad
/-- the call of a def, at most k deep -/
def callN (P : Pg) : Nat → Cf
  | 0, _, _, _ => .bad
  | k + 1, f, vs, S => match P.F f with
    | none => .bad
    | some fi => if vs.length = fi.ps.length then
        if (P.er f).isSome = true then .ok (.fins false f (fi.ps.zip vs)) S
        else if fi.bw = true then match lkWs 0 (lkR 0 true S deepS) vs with
          | none => .bad
          | some us => backR S (lockR 0 (bodyN P (callN P k) fi us []))
        else if fi.fz = true then lockR S.length (bodyN P (callN P k) fi vs S)
        else bodyN P (callN P k) fi vs S
      else .bad
end Y

/-! An own error whose __init__ says super().__init__(text) and self.x = x: made, at the library's level. -/
namespace Y
open PySem PySem.W PySem.Calls PyProof.Rows PySem.HandSPX
abbrev erA (q1 q2 : Pos) (x : Str) : Arguments := { posonlyargs := [], args := [⟨"self", none, q1⟩, ⟨x, none, q2⟩], vararg := none, kwonlyargs := [], kw_defaults := [], kwarg := none, defaults := [] }
abbrev erB (msg x : Str) (p0 p1 p2 p3 p4 p5 p6 p7 p8 p9 : Pos) : List Stmt :=
  [.Expr (.Call (.Attribute (.Call (.Name "super" p0) [] [] p1) "__init__" p2) [.Constant (.str msg) 0 p3] [] p4) p5, .Assign [.Attribute (.Name "self" p6) x p7] (.Name x p8) p9]
abbrev erS (x : Str) : Scope := { kind := .function, names := [("self", .local), (x, .local), ("__class__", .free), ("super", .globalImplicit)], isGenerator := false, isCoroutine := false, more := [] }
/-- what the written part says of such a class -/
structure ErT (P : Program) (K : Frag) (C fI : Addr) (x : Str) : Prop where
  cls : ∃ nm q N bs bm sn sub ab col dd k0 k1 k2 k3 k5, K.lookup C = some (excClassObj nm q C N bs bm true sn sub ab col dd k0 k1 k2 k3 k5 "ValueError.__new__") ∧ refsVE bm = true ∧ alongIn K "__init__" bm = some (some (.builtin "ValueError.__init__"))
  ini : findIn K (.ref C) "__init__" = some (some (.ref fI))
  ity : typeIn K (.ref fI) = some (.type "function")
  fn : ∃ (oc : Value) (od : Option Addr) (osl : Array (Option Value)) (qual msg : Str) (q1 q2 p0 p1 p2 p3 p4 p5 p6 p7 p8 p9 : Pos) (cc cda : Addr) (kV doc pm ct : Value) (an : Option Addr) (cl : Value) (cld : Option Addr) (csl : Array (Option Value)) (ccl : Value) (cdd : Option Addr) (vs : Array Value) (ccs : Array (Option Value)) (file : Str) (tf : Tok),
    K.lookup fI = some ⟨oc, od, .func (fnX "__init__" qual (erA q1 q2 x) (erB msg x p0 p1 p2 p3 p4 p5 p6 p7 p8 p9) (erS x) [("__class__", cc)] .none kV doc pm an (.ref cda) ct), osl⟩ ∧ codeIn K (.ref cda) qual = true ∧
    K.lookup cc = some ⟨cl, cld, .cell (some (.ref C)), csl⟩ ∧ K.lookup cda = some ⟨ccl, cdd, .fields vs, ccs⟩ ∧ vs[2]? = some (.str file tf) ∧ ((P.main.file : Str) == file) = true ∧ (p2.endLine == p4.line) = true
  top : (P.main.scope.names.lookup ("super" : Str)).isSome = false
  sup : nsIn K mainGlobals "super" = some none
  ope : nsIn K cStatics "thirdparty.any" = some none
  subV : subIn K (.ref C) (.type "ValueError") = some true
  sa : findIn K (.ref C) "__setattr__" = some (some (.builtin "object.__setattr__"))
  att : findIn K (.ref C) x = some none
  nx : x ≠ "self" ∧ x ≠ "__class__" ∧ x ≠ "super" ∧ (x == ("__debug__" : Str)) = false
section
variable {prog : Program} {w : World} {A : Around} {E : Value → Shared → Prop} {K : Frag} {C fI : Addr} {x : Str} {mg mb : Str → Option Value}
theorem meth_eq {o : Expr} {name : Str} {apos pos p3 : Pos} {env : Env} {msg : Str} (h : (apos.endLine == pos.line) = true) : eval (.Call (.Attribute o name apos) [.Constant (.str msg) 0 p3] [] pos) env = (do
      let ov ← attributeBase o name env (eval o env)
      standAt apos.atName
      let (f, first) ← holding [ov] (getMethod ov name (do return (← importBound o env).getD true))
      callWith pos f first (backTo pos (starEach [.Constant (.str msg) 0 p3] env)) []) := by
  have hp : methodCallPos true o env apos pos = pure pos := by
    unfold methodCallPos
    rw [h]; rfl
  show (attributeBase o name env (eval o env) >>= fun ov => standAt apos.atName >>= fun _ => holding [ov] (calleeOf true o env ov name) >>= fun fx => methodCallPos true o env apos pos >>= fun cp => callWith cp fx.1 fx.2 (backTo pos (starEach [.Constant (.str msg) 0 p3] env)) []) = _
  rw [hp]; rfl
theorem hasB_VE (bm : List Value) (h : refsVE bm = true) : ∀ X : String, bm.contains (.type X) = ([.type "ValueError", .type "Exception", .type "BaseException", .type "object"] : List Value).contains (.type X) := fun X => refsVE_contains X bm h
/-- the wrapper called: the args are laid anew -/
theorem call_wr {h : Heap} {g : Array GenState} {d : Drawn} {t : Nat} {os : OsState} {nm q : Str} {N e u t0 : Addr} {bs bm : List Value} {hdct : Bool} {sn : List Str} {sub : List Value} {ab : Bool} {col : Option Bool} {dd : Option Addr} {k0 k1 k2 k3 k5 : Option Value} {rest : List Value} {Q : Value → Shared → Prop}
    (hC : h.get? C = some (excClassObj nm q C N bs bm hdct sn sub ab col dd k0 k1 k2 k3 k5 "ValueError.__new__")) (he : h.get? e = some (excO C t0)) (hu : h.get? u = some (kxs_mw "ValueError.__init__" e)) (hz : rest.length ≤ sizeLine)
    (hq : ∀ h' t1, (∀ b o, b ≠ e → h.get? b = some o → h'.get? b = some o) → h'.get? e = some (excO C t1) → Q .none ⟨h', g, d, t, os⟩) : wpAny (model prog w) A (call (.ref u) rest) Q E ⟨h, g, d, t, os⟩ := by
  refine wpAny_call (codeAny_of_tree ?_)
  show wpAny _ A.in1 (callAny (.ref u) ⟨rest, []⟩) _ _ _
  simp only [callAny]
  refine wpAny_bind (wpAny_load hu ?_)
  simp only [kxs_mw, show (Value.type "method-wrapper" == Value.type "method" || Value.type "method-wrapper" == Value.type "builtin_function_or_method" || Value.type "method-wrapper" == Value.type "method-wrapper") = true by decide, if_true]
  refine KFB.if_so (by decide) ?_
  refine wpAny_bind (check_bound_init F.excBase_ValueError.toExcCallFacts hC he rfl ?_)
  refine wpAny_bind (wpAny_pure (wpAny_pure ?_))
  refine ⟨plainId_quiet F.excBase_ValueError.init.plain _, codeAny_builtin F.excBase_ValueError.initEntry ?_⟩
  exact exc_init_tree (cls := .ref C) (t0 := t0) (dv := none) (c2 := .none) (c3 := .none) (b4 := .bool false) he hz fun h' k1 k2 _ => hq h' _ k1 k2
/-- __init__ run -/
theorem init_er (T : ErT prog K C fI x) {hp : Heap} {g : Array GenState} {d : Drawn} {t : Nat} {os : OsState} {e t0 : Addr} {v : Value} {args : Args} {R : Result → Shared → Prop} (hroom : A.depth < recursionLimit) (X : K.In hp) (hg : hp.Ns mainGlobals mg) (hb : hp.Ns builtinsNs mb) (hbb : ∀ y : Str, y ≠ "__name__" → mb y = bootBuiltins y) (hl : hp.NoLimit)
    (he : hp.get? e = some (excO C t0)) (hKe : K.lookup e = none) (hbind : ∀ fd : FuncData, hp.get? fI ≠ none → ∀ o, hp.get? fI = some o → o.data = .func fd → BindsTo ⟨hp, g, d, t, os⟩ fd args [("self", .ref e), (x, v)])
    (hq : ∀ h' t' dx t1, (∀ b o, b ≠ e → hp.get? b = some o → h'.get? b = some o) → hp.get? dx = none → dx ≠ e → h'.get? e = some { cls := .ref C, dict := some dx, data := .fields #[.ref t1, .none, .none, .none, .bool false, .none] } → h'.Ns1 dx (fun y => if y = x then some v else none) → R (.ok (.ret .none)) ⟨h', g, d, t', os⟩) :
    codeAny (model prog w) A (.call (.ref fI) args) R ⟨hp, g, d, t, os⟩ := by
  obtain ⟨nm, q, N, bs, bm, sn, sub, ab, col, dd, k0, k1, k2, k3, k5, lC, hbm, hal⟩ := T.cls
  obtain ⟨oc, od, osl, qual, msg, q1, q2, p0, p1, p2, p3, p4, p5, p6, p7, p8, p9, cc, cda, kV, doc, pm, ct, an, cl, cld, csl, ccl, cdd, vs, ccs, file, tf, lf, hcd, lcc, lcd, hvs, hfile, hsw⟩ := T.fn
  obtain ⟨n1, n2, n3, n4⟩ := T.nx
  have kx : (erS x).names.lookup x = some .local := by
    show List.lookup x [(("self" : Str), NameKind.local), (x, .local), ("__class__", .free), ("super", .globalImplicit)] = _
    rw [List.lookup_cons, show (x == ("self" : Str)) = false by simpa using n1, List.lookup_cons, show (x == x) = true by simp]
  have ks1 : (erS x).names.lookup ("self" : Str) = some .local := by
    show List.lookup ("self" : Str) [(("self" : Str), NameKind.local), (x, .local), ("__class__", .free), ("super", .globalImplicit)] = _
    rw [List.lookup_cons, show (("self" : Str) == ("self" : Str)) = true by decide]
  have kc : (erS x).names.lookup ("__class__" : Str) = some .free := by
    show List.lookup ("__class__" : Str) [(("self" : Str), NameKind.local), (x, .local), ("__class__", .free), ("super", .globalImplicit)] = _
    rw [List.lookup_cons, show (("__class__" : Str) == ("self" : Str)) = false by decide, List.lookup_cons, show (("__class__" : Str) == x) = false by simpa using (Ne.symm n2), List.lookup_cons, show (("__class__" : Str) == ("__class__" : Str)) = true by decide]
  have kp : (erS x).names.lookup ("super" : Str) = some .globalImplicit := by
    show List.lookup ("super" : Str) [(("self" : Str), NameKind.local), (x, .local), ("__class__", .free), ("super", .globalImplicit)] = _
    rw [List.lookup_cons, show (("super" : Str) == ("self" : Str)) = false by decide, List.lookup_cons, show (("super" : Str) == x) = false by simpa using (Ne.symm n3), List.lookup_cons, show (("super" : Str) == ("__class__" : Str)) = false by decide, List.lookup_cons, show (("super" : Str) == ("super" : Str)) = true by decide]
  refine ks_codeAny_call_defAt hroom (X _ _ lf) rfl hl (codeRec_of X hcd) rfl (hbind _ (by rw [X _ _ lf]; simp) _ (X _ _ lf) rfl) (fun y hy => ?_) (fun y hy => ?_) fun h₁ hns hk => ?_
  · simp only [fnX, erS, List.mem_cons, List.not_mem_nil, or_false] at hy
    rcases hy with rfl | rfl | rfl | rfl <;> exact fun z => by cases z
  · simp only [List.mem_cons, List.not_mem_nil, or_false] at hy
    rcases hy with rfl | rfl
    · exact ks1
    · exact kx
  have X1 : K.In h₁ := X.keeps hk
  have hso : (hp.get? hp.objs.size) = none := Heap.get?_none_of_le (Nat.le_refl _)
  have he1 : h₁.get? e = some (excO C t0) := hk _ _ he
  have lcl : clsIn K C = some { name := nm, bases := bs, mro := .ref C :: bm, ns := N, qualname := q, hasDict := true, slotNames := sn, subclasses := sub, abstract := ab, collection := col, hasDel := false } := by unfold clsIn; rw [lC] <;> rfl
  have mself : (fun y => ([("self", Value.ref e), (x, v)] : List (Str × Value)).reverse.lookup y) "self" = some (.ref e) := by
    show List.lookup ("self" : Str) [(x, v), ("self", Value.ref e)] = _
    rw [List.lookup_cons, show (("self" : Str) == x) = false by simpa using (Ne.symm n1), List.lookup_cons, show (("self" : Str) == ("self" : Str)) = true by decide]
  have mx : (fun y => ([("self", Value.ref e), (x, v)] : List (Str × Value)).reverse.lookup y) x = some v := by
    show List.lookup x [(x, v), ("self", Value.ref e)] = _
    rw [List.lookup_cons, show (x == x) = true by simp]
  refine ks_wpAt_execs_cons ?_
  refine ks_wpAt_Expr_any (ks_wpAt_MethodCall ?_ (meth_eq hsw)) rfl rfl
  refine ks_wpAt_super_base kp kc (by decide) rfl (X1 _ _ lf) rfl rfl rfl (X1 _ _ lcd) rfl hvs hfile T.top ?_
  refine ks_loadName_global rfl kp (loadGlobal_builtin (hg.keeps hk) (mg_none_of X hg T.sup) (hb.keeps hk) ((hbb _ (by decide +kernel)).trans (by decide +kernel)) ⟨rfl, ?_⟩)
  refine wpAny_loadName_free rfl kc rfl ⟨_, X1 _ _ lcc, rfl⟩ ?_
  refine wpAny_loadName_local rfl ks1 hns mself ?_
  refine ks_wpAny_isType_cls (X1 _ _ lC) rfl ⟨rfl, ?_⟩
  have hmroC : mroIn K C (.ref C) = some true := by
    unfold mroIn
    rw [lcl, Option.bind_some]
    show (if _ then _ else _) = _
    rw [if_neg (by simp)]
    simp
  refine ks_wpAny_call_super (X1 _ _ lC) rfl he1 rfl (fun c z => by cases z) (looks_mroIn X1 hmroC) fun h₂ so2 k2 => ?_
  have X2 : K.In h₂ := X1.keeps k2
  have he2 := k2 _ _ he1
  have xC : e ≠ C := fun z => by
    subst z
    rw [X1 _ _ lC] at he1
    cases he1
  have hI : Looks (model prog w) h₂ (isInstance (.ref e) (.type "ValueError")) true := by
    have I : InstAt h₂ e (excO C t0) C none := ⟨he2, rfl, rfl, trivial⟩
    exact I.type.andThen (looks_subIn X2 T.subV)
  refine kxs_getMethod kxs_ValueError so2 (looks_opaque X2 T.ope) (l₀ := .ref C :: bm) (fun A Q E s k q => wpAny_bind ((looks_clsIn X2 lcl) A _ E s k (wpAny_pure q))) (by simp) X2 hal hI xC (by decide) ?_
  have hu : (h₂.push (kxs_mw "ValueError.__init__" e)).get? h₂.objs.size = some (kxs_mw "ValueError.__init__" e) := Heap.get?_push_size _ rfl
  have k3 : ∀ b o, h₂.get? b = some o → (h₂.push (kxs_mw "ValueError.__init__" e)).get? b = some o := fun b o q => Heap.get?_push_of_some _ q
  refine kxs_callWith (i := "ValueError.__init__") (x := e) rfl ?_
  refine evalArgs_plain (Calls.spliced_cons (Calls.Constant_str (k := 0) (pos := p3) (Calls.spliced_nil ⟨hu, ?_⟩)))
  refine call_wr (k3 _ _ (X2 _ _ lC)) (k3 _ _ he2) hu (by show 1 ≤ sizeLine; rw [sizeLine_eq]; omega) fun h₄ t4 k4 he4 => ?_
  -- self.x = x
  have kk : ∀ b o, b ≠ e → h₁.get? b = some o → h₄.get? b = some o := fun b o n q => k4 b o n (k3 _ _ (k2 _ _ q))
  have X4 : K.In h₄ := fun b o l => kk b o (fun z => by
    subst z
    rw [hKe] at l
    cases l) (X1 b o l)
  have eL : e ≠ hp.objs.size := Nat.ne_of_lt (Heap.lt_size he)
  have hns4 : h₄.Ns hp.objs.size (fun y => ([("self", Value.ref e), (x, v)] : List (Str × Value)).reverse.lookup y) := by
    obtain ⟨o, es, ep, ho, r⟩ := hns
    exact ⟨o, es, ep, kk _ _ (Ne.symm eL) ho, r⟩
  refine ks_wpAt_execs_cons (ks_wpAt_Assign_Attr (wpAt_of_wpAny (wpAny_Name (wpAny_loadName_local rfl kx hns4 mx ?_) n4)) rfl)
  refine wpAny_Name (wpAny_loadName_local rfl ks1 hns4 mself ?_) (by decide)
  refine set_plain X4 (ox := { cls := .ref C, dict := none, data := .fields #[.ref t4, .none, .none, .none, .bool false, .none] }) (od := none) ⟨he4, rfl, rfl, trivial⟩ T.sa ?_
  refine exc_osa X4 he4 lcl (show refsVE (.ref C :: bm) = true from hbm) rfl T.att fun h₅ t5 dx k5' dn dne he5 hn5 => ?_
  refine wpAt_of_wpAny (wpAny_execs_nil ?_)
  refine hq h₅ t5 dx t4 (fun b o n q => k5' b o n (kk b o n (hk _ _ q))) ?_ dne he5 hn5
  cases z : hp.get? dx with
  | none => rfl
  | some o => exact absurd (Nat.lt_of_lt_of_le (Heap.lt_size (kk _ _ dne (hk _ _ z))) dn) (Nat.lt_irrefl _)
end
end Y

/-! Such an error made by its class's call, by position or by name. -/
namespace Y
open PySem PySem.W PySem.Calls PyProof.Rows PySem.HandSPX
section
variable {M : Model} {A : Around} {E : Value → Shared → Prop} {h : Heap} {g : Array GenState} {d : Drawn} {t : Nat} {os : OsState}
variable {nm q : Str} {C N : Addr} {bs bm bmB : List Value} {hdct : Bool} {sn : List Str} {sub : List Value} {ab : Bool} {col : Option Bool} {dd : Option Addr} {k0 k1 k2 k3 k5 : Option Value} {B newId initId : String}
theorem check_newK (FB : ExcBaseFacts B newId initId bmB) (hT : ∀ X : String, bm.contains (.type X) = bmB.contains (.type X)) {rest : List Value} {kw : List (Str × Value)} {Q : Unit → Shared → Prop}
    (hC : h.get? C = some (excClassObj nm q C N bs bm hdct sn sub ab col dd k0 k1 k2 k3 k5 newId)) (hq : Q () ⟨h, g, d, t, os⟩) : wpAny M A (checkBuiltinCall newId ⟨.ref C :: rest, kw⟩) Q E ⟨h, g, d, t, os⟩ := by
  have c1 : (Value.ref C :: bm).contains (.type B) = true := by rw [List.contains_cons, hT, FB.hasB, Bool.or_true]
  have c2 := FB.noStar
  simp only [checkBuiltinCall, FB.newKind, FB.newSplit, FB.newRow]
  repeat (first | refine wpAny_loadPart_at hC ?_ | (refine wpAny_isSubtype_exc hC ?_; rw [c1]) | refine wpAny_staticBase_exc hC ?_ | refine wpAny_madeBy_exc hC ?_ | simp only [bne_self_eq_false, Bool.false_eq_true, if_false] | wp_step)
  all_goals exact hq
theorem check_typeK {rest : List Value} {kw : List (Str × Value)} {Q : Unit → Shared → Prop} (hC : h.get? C = some (excClassObj nm q C N bs bm hdct sn sub ab col dd k0 k1 k2 k3 k5 newId))
    (hq : Q () ⟨h, g, d, t, os⟩) : wpAny M A (checkBuiltinCall "type.__call__" ⟨.ref C :: rest, kw⟩) Q E ⟨h, g, d, t, os⟩ := by
  have c1 := tc_sub
  have hTy : (⟨h, g, d, t, os⟩ : Shared).TypeIs (.ref C) "type" := ⟨_, hC, rfl⟩
  simp only [checkBuiltinCall, tc_kind, tc_split]
  repeat (any_goals (first | assumption | with_reducible refine wpAny_loadPart_at hC ?_ | with_reducible refine wpAny_onRaise ?_ | with_reducible refine wpAny_map ?_ | wp_step))
end
section
variable {prog : Program} {w : World} {A : Around} {E : Value → Shared → Prop} {R : Result → Shared → Prop} {h : Heap} {g : Array GenState} {d : Drawn} {t : Nat} {os : OsState}
variable {nm q : Str} {C N : Addr} {bs bm bmB : List Value} {hdct : Bool} {sn : List Str} {sub : List Value} {ab : Bool} {col : Option Bool} {dd : Option Addr} {k0 k1 k2 k3 k5 : Option Value} {B newId initId : String}
theorem newK (FB : ExcBaseFacts B newId initId bmB) (hT : ∀ X : String, bm.contains (.type X) = bmB.contains (.type X)) {rest : List Value} {kw : List (Str × Value)}
    (hC : h.get? C = some (excClassObj nm q C N bs bm hdct sn sub ab col dd k0 k1 k2 k3 k5 newId))
    (hq : R (.ok (.ret (.ref (h.objs.size + 1)))) ⟨(h.push (kdv_tup rest)).push (excO C h.objs.size), g, d, t, os⟩) (hz : rest.length ≤ sizeLine) :
    codeAny (model prog w) A (.builtin newId ⟨.ref C :: rest, kw⟩) R ⟨h, g, d, t, os⟩ := by
  have hends := FB.ends
  have c1 : (Value.ref C :: bm).contains (.type B) = true := by rw [List.contains_cons, hT, FB.hasB, Bool.or_true]
  have c2 : (Value.ref C :: bm).contains (.type "AttributeError") = false := by rw [List.contains_cons, hT, FB.noAttr]; rfl
  have c3 : (Value.ref C :: bm).contains (.type "NameError") = false := by rw [List.contains_cons, hT, FB.noName]; rfl
  refine codeAny_builtinAt FB.entry ?_
  unfold Builtin.«BaseException.__new__»
  refine _root_.PySem.wpAt_bind ?_
  show _root_.PySem.wpAt _ _ _ (stack >>= _) _ _ _
  refine _root_.PySem.wpAt_bind (_root_.PySem.wpAt_stack fun p below => wpAt_of_wpAny ?_)
  wp_walk
  refine wpAt_of_wpAny ?_
  rw [FB.owner]
  repeat (first | with_reducible refine wpAny_madeHere_exc FB.canon hC ?_ | with_reducible refine wpAny_loadPart_at hC ?_ | (with_reducible refine wpAny_isSubtype_exc hC ?_; first | rw [c1] | rw [c2] | rw [c3]) | wp_step)
  show R _ _
  rw [Heap.size_push]
  exact hq
theorem typeCallK (FB : ExcBaseFacts B newId initId bmB) (hT : ∀ X : String, bm.contains (.type X) = bmB.contains (.type X)) {rest : List Value} {kw : List (Str × Value)} {fI : Addr} {Q : Fin → Shared → Prop}
    (hC : h.get? C = some (excClassObj nm q C N bs bm hdct sn sub ab col dd k0 k1 k2 k3 k5 newId))
    (hi : Looks (model prog w) h (typeLookup (.ref C) "__init__") (some (.ref fI))) (hb : ∀ self, Looks (model prog w) h (bindSpecial (.ref fI) self) (.ref fI, [self])) (hz : rest.length ≤ sizeLine)
    (hq : codeAny (model prog w) A (.call (.ref fI) ⟨.ref (h.objs.size + 1) :: rest, kw⟩)
      (fun r s' => match r with | .ok (.ret v) => v = .none ∧ Q (.done (.ret (.ref (h.objs.size + 1)))) s' | .ok _ => False | .error e => E e s')
      ⟨(h.push (kdv_tup rest)).push (excO C h.objs.size), g, d, t, os⟩) :
    wpAny (model prog w) A (Builtin.«type.__call__» ⟨.ref C :: rest, kw⟩) Q E ⟨h, g, d, t, os⟩ := by
  repeat (first | with_reducible refine wpAny_loadPart_at hC ?_ | with_reducible refine wpAny_madeBy_exc hC ?_ | wp_step)
  refine codeAny_call_builtin_code (Code.quiet_builtin _ FB.quiet) (check_newK FB hT hC ?_)
  refine newK FB hT hC ?_ hz
  show wpAny _ _ _ _ _ _
  have k : ∀ b o, h.get? b = some o → ((h.push (kdv_tup rest)).push (excO C h.objs.size)).get? b = some o := fun b o e => Heap.get?_push_of_some _ (Heap.get?_push_of_some _ e)
  have hC1 := k _ _ hC
  have hget : ((h.push (kdv_tup rest)).push (excO C h.objs.size)).get? (h.objs.size + 1) = some (excO C h.objs.size) := by heap_get
  have cC : (Value.ref C :: bm).contains (.ref C) = true := by simp
  have i1 := hi.keeps k
  have b1 := (hb (.ref (h.objs.size + 1))).keeps k
  unfold isInstance
  repeat (first | with_reducible refine wpAny_loadPart_at hget ?_ | (with_reducible refine wpAny_isSubtype_exc hC1 ?_; rw [cC]) | wp_step)
  show wpAny _ _ (typeLookup (.ref C) _) _ _ _
  refine i1.at ?_
  refine wpAny_holding (wpAny_bind (b1.at ?_))
  refine wpAny_bind (wpAny_call (codeAny_mono hq fun r s' z => ?_))
  rcases r with e | (v | _ | _ | _) <;> first | exact z | exact z.elim | skip
  obtain ⟨rfl, z⟩ := z
  first
    | exact wpAny_pure (wpAny_pure z)
    | (wp_walk; exact z)
/-- a class called, also by names -/
theorem callK (FB : ExcBaseFacts B newId initId bmB) (hT : ∀ X : String, bm.contains (.type X) = bmB.contains (.type X)) {rest : List Value} {kw : List (Str × Value)} {fI : Addr}
    (hC : h.get? C = some (excClassObj nm q C N bs bm hdct sn sub ab col dd k0 k1 k2 k3 k5 newId))
    (hi : Looks (model prog w) h (typeLookup (.ref C) "__init__") (some (.ref fI))) (hb : ∀ self, Looks (model prog w) h (bindSpecial (.ref fI) self) (.ref fI, [self])) (hz : rest.length ≤ sizeLine)
    (hq : codeAny (model prog w) (A.under (.builtin "type.__call__" ⟨.ref C :: rest, kw⟩)) (.call (.ref fI) ⟨.ref (h.objs.size + 1) :: rest, kw⟩) (InitBack (h.objs.size + 1) R)
      ⟨(h.push (kdv_tup rest)).push (excO C h.objs.size), g, d, t, os⟩) :
    codeAny (model prog w) A (.call (.ref C) ⟨rest, kw⟩) R ⟨h, g, d, t, os⟩ := by
  have f1 := tc_lookup
  have f2 := tc_bind (.ref C)
  have hTy : (⟨h, g, d, t, os⟩ : Shared).TypeIs (.ref C) "type" := ⟨_, hC, rfl⟩
  refine codeAny_of_tree ?_
  show wpAny _ _ (callAny (.ref C) _) _ _ _
  repeat (any_goals (first | assumption | with_reducible refine wpAny_loadPart_at hC ?_ | wp_step))
  refine ⟨rfl, ?_⟩
  refine codeAny_call_builtin_at (Code.quiet_builtin _ (by decide +kernel)) entry_typeCall (check_typeK hC (typeCallK FB hT hC hi hb hz ?_))
  refine codeAny_mono hq fun r s' z => ?_
  rcases r with e | (v | _ | _ | _) <;> exact z
end
end Y

/-! Dicts whose keys are tuples, also of tuples: the layer's rules. -/
namespace Y
open PySem PySem.Spec L2
mutual
def nkOf : Kd → NestedKey
  | .int i => .num i
  | .str x => .text x
  | .tup ks => .tup (nksOf ks)
def nksOf : List Kd → List NestedKey
  | [] => []
  | k :: ks => nkOf k :: nksOf ks
end
mutual
theorem nkOf_inj : ∀ {x y : Kd}, nkOf x = nkOf y → x = y
  | .int i, .int j, h => by unfold nkOf at h; cases h; rfl
  | .str i, .str j, h => by unfold nkOf at h; cases h; rfl
  | .tup xs, .tup ys, h => by
    unfold nkOf at h
    injection h with h
    rw [nksOf_inj h]
  | .int _, .str _, h => by unfold nkOf at h; cases h
  | .int _, .tup _, h => by unfold nkOf at h; cases h
  | .str _, .int _, h => by unfold nkOf at h; cases h
  | .str _, .tup _, h => by unfold nkOf at h; cases h
  | .tup _, .int _, h => by unfold nkOf at h; cases h
  | .tup _, .str _, h => by unfold nkOf at h; cases h
theorem nksOf_inj : ∀ {x y : List Kd}, nksOf x = nksOf y → x = y
  | [], [], _ => rfl
  | x :: xs, y :: ys, h => by
    unfold nksOf at h
    injection h with h1 h2
    rw [nkOf_inj h1, nksOf_inj h2]
  | [], _ :: _, h => by unfold nksOf at h; cases h
  | _ :: _, [], h => by unfold nksOf at h; cases h
end
mutual
theorem dpK_eq : ∀ k : Kd, (nkOf k).depth = dpK k
  | .int _ => by unfold nkOf dpK NestedKey.depth; rfl
  | .str _ => by unfold nkOf dpK NestedKey.depth; rfl
  | .tup ks => by
    unfold nkOf dpK NestedKey.depth
    rw [dpKs_eq ks]
theorem dpKs_eq : ∀ ks : List Kd, NestedKey.depthAll (nksOf ks) = dpKs ks
  | [] => by unfold nksOf dpKs NestedKey.depthAll; rfl
  | k :: ks => by
    unfold nksOf dpKs NestedKey.depthAll
    rw [dpK_eq k, dpKs_eq ks]
end
mutual
/-- a key as it lies -/
def KAt (K : PySem.W.Frag) (H : Hp) : Kd → V → Prop
  | .int i, v => v = .int i
  | .str x, v => v = .str x
  | .tup ks, v => ∃ a vs, v = .ref a ∧ SqT K H a vs ∧ KAts K H ks vs
def KAts (K : PySem.W.Frag) (H : Hp) : List Kd → List V → Prop
  | [], vs => vs = []
  | k :: ks, vs => ∃ v r, vs = v :: r ∧ KAt K H k v ∧ KAts K H ks r
end
section
variable {X : Cx} {pins : List (Addr × Obj)} {σ : L2.St} {H : Hp} {s : Shared}
mutual
theorem KAt.is (I : Inv X pins σ H s) : ∀ {k : Kd} {v : V} {u : Value}, KAt X.K H k v → RelV v u → NestedIs s.heap (nkOf k) u
  | .int i, _, _, h, r => by
    unfold KAt at h; subst h
    obtain ⟨t, rfl⟩ := (show ∃ t, _ = Value.int i t from r)
    unfold nkOf; exact .int i t
  | .str x, _, _, h, r => by
    unfold KAt at h; subst h
    obtain ⟨t, rfl⟩ := (show ∃ t, _ = Value.str x t from r)
    unfold nkOf; exact .text x t
  | .tup ks, _, _, h, r => by
    unfold KAt at h
    obtain ⟨a, vs, rfl, sq, z⟩ := h
    obtain rfl := (show _ = Value.ref a from r)
    obtain ⟨its, rv, ⟨o, g1, g2, n, g3⟩, _⟩ := I.tuple sq
    unfold nkOf
    exact .tup g1 g2 g3 (by simpa using KAts.is I z rv)
theorem KAts.is (I : Inv X pins σ H s) : ∀ {k : List Kd} {v : List V} {u : List Value}, KAts X.K H k v → Vals v u → NestedAll s.heap (nksOf k) u
  | [], _, _, h, r => by
    unfold KAts at h; subst h
    cases r
    unfold nksOf; exact .nil
  | k :: ks, _, _, h, r => by
    unfold KAts at h
    obtain ⟨v, t, rfl, h1, h2⟩ := h
    cases r with
    | cons r1 r2 =>
      unfold nksOf
      exact .cons (KAt.is I h1 r1) (KAts.is I h2 r2)
end
end
/-! ### the dict -/
/-- an entry: the key, where its tuple lies, the value -/
abbrev Ent := Kd × Addr × V
def entN (w : World) (x : Kd × Addr × Value) : DictEntry := ⟨(nkOf x.1).hash w, .ref x.2.1, x.2.2⟩
def EntR : Ent → Kd × Addr × Value → Prop := fun p q => p.1 = q.1 ∧ p.2.1 = q.2.1 ∧ RelV p.2.2 q.2.2
/-- what stands at its address -/
def NdAt (w : World) (a : Addr) (es : List Ent) (h : Heap) : Prop := es.length ≤ sizeLine ∧ (a == sysModules) = false ∧ (es.map (·.1)).Nodup ∧ ∃ xs : List (Kd × Addr × Value), Paired EntR es xs ∧
  ∃ o ents ep, h.get? a = some o ∧ o.ExactDict ∧ o.data = .dict ents ep ∧ ents.toList = xs.map (entN w)
def ndO (w : World) (a : Addr) (es : List Ent) : HO := .ext (NdAt w a es)
theorem nd_ok {P : Program} {w w' : World} {H : Hp} {h : Heap} {a : Addr} {es : List Ent} (x : NdAt w' a es h) : ObjOk P w H h a (ndO w' a es) :=
  ⟨x, (let ⟨_, _, _, _, _, o, _, _, e, _⟩ := x; ⟨o, e⟩), fun h1 h2 z k => by
    obtain ⟨z1, z2, z3, xs, z4, o, ents, ep, e, r⟩ := z
    exact ⟨z1, z2, z3, xs, z4, o, ents, ep, k _ e, r⟩⟩
theorem nd_at {P : Program} {w w' : World} {H : Hp} {h : Heap} {a : Addr} {es : List Ent} (ok : HOk P w H h) (e : H a = some (ndO w' a es)) : NdAt w' a es h :=
  (show ObjOk P w H h a (.ext (NdAt w' a es)) from ok a _ e).1
/-- the value at a key -/
def findN (es : List Ent) (k : Kd) : Option V := (es.find? fun x => decide (x.1 = k)).map (·.2.2)
/-- the keys lie as tuples, not too deep -/
def KeysAt (K : PySem.W.Frag) (H : Hp) (es : List Ent) : Prop := ∀ x ∈ es, KAt K H x.1 (.ref x.2.1) ∧ dpK x.1 ≤ 8
def toN (x : Kd × Addr × Value) : NestedKey × Addr × Value := (nkOf x.1, x.2.1, x.2.2)
theorem atKey_N {k : Kd} : ∀ xs : List (Kd × Addr × Value), atKey (xs.map toN) (nkOf k) = (xs.find? fun x => decide (x.1 = k)).map (·.2)
  | [] => rfl
  | x :: xs => by
    have ih := atKey_N (k := k) xs
    unfold atKey at ih ⊢
    rw [List.map_cons, List.find?_cons, List.find?_cons]
    by_cases h : x.1 = k
    · rw [decide_eq_true (show (toN x).1 = nkOf k by unfold toN; rw [h]), decide_eq_true h]
      rfl
    · rw [decide_eq_false (show ¬ (toN x).1 = nkOf k from fun e => h (nkOf_inj e)), decide_eq_false h]
      exact ih
theorem find_pair {k : Kd} : ∀ {es : List Ent} {xs : List (Kd × Addr × Value)}, Paired EntR es xs → RelO (findN es k) ((xs.find? fun x => decide (x.1 = k)).map (·.2.2))
  | _, _, .nil => True.intro
  | _, _, .cons (a := p) (b := q) h t => by
    unfold findN
    rw [List.find?_cons, List.find?_cons, h.1]
    by_cases e : q.1 = k
    · rw [decide_eq_true e]; exact h.2.2
    · rw [decide_eq_false e]; exact find_pair t
theorem paired_keys : ∀ {es : List Ent} {xs : List (Kd × Addr × Value)}, Paired EntR es xs → es.map (fun x => (x.1, x.2.1)) = xs.map (fun x => (x.1, x.2.1))
  | _, _, .nil => rfl
  | _, _, .cons h t => by
    rw [List.map_cons, List.map_cons, paired_keys t, h.1, h.2.1]
section
variable {X : Cx} {pins : List (Addr × Obj)} {σ : L2.St} {H : Hp} {s : Shared} {a b : Addr} {es : List Ent} {k : Kd}
theorem nd_dict (I : Inv X pins σ H s) (e : H a = some (ndO X.w a es)) (ks : KeysAt X.K H es) : ∃ xs : List (Kd × Addr × Value), Paired EntR es xs ∧ s.heap.DictOfH (nestedKind X.prog X.w) a (xs.map toN) ∧ (a == sysModules) = false ∧ es.length ≤ sizeLine := by
  obtain ⟨z1, z2, z3, xs, z4, o, ents, ep, g1, g2, g3, g4⟩ := nd_at I.hok e
  refine ⟨xs, z4, ⟨o, ents, ep, g1, g2, g3, ?_, ?_, ?_⟩, z2, z1⟩
  · rw [g4, List.map_map]
    rfl
  · intro x hx
    obtain ⟨y, hy, rfl⟩ := List.mem_map.mp hx
    have hp : (y.1, y.2.1) ∈ es.map fun x => (x.1, x.2.1) := by
      rw [paired_keys z4]
      exact List.mem_map_of_mem (f := fun x : Kd × Addr × Value => (x.1, x.2.1)) hy
    obtain ⟨p, hp1, hp2⟩ := List.mem_map.mp hp
    have h1 : p.1 = y.1 := congrArg Prod.fst hp2
    have h2 : p.2.1 = y.2.1 := congrArg Prod.snd hp2
    obtain ⟨q1, q2⟩ := ks p hp1
    rw [h1, h2] at q1
    rw [h1] at q2
    exact ⟨q1.is I rfl, by show (nkOf y.1).depth ≤ 8; rw [dpK_eq]; exact q2⟩
  · have e1 : (xs.map toN).map (·.1) = (es.map (·.1)).map nkOf := by
      rw [List.map_map, List.map_map]
      have := congrArg (List.map fun x : Kd × Addr => nkOf x.1) (paired_keys z4)
      rw [List.map_map, List.map_map] at this
      exact this.symm
    rw [e1]
    exact List.Pairwise.map nkOf (fun a b h e => h (nkOf_inj e)) z3
theorem key_N (I : Inv X pins σ H s) (h : KAt X.K H k (.ref b)) (hd : dpK k ≤ 8) : (nestedKind X.prog X.w).is s.heap (nkOf k) b := ⟨h.is I rfl, by rw [dpK_eq]; exact hd⟩
theorem room_N {A : Around} (hu : A.units + 200 < cLine) : (nestedKind X.prog X.w).room A.in1 := by
  show A.in1.units + 8 < cLine
  have : A.in1.units = A.units + 1 := rfl
  omega
/-- d[k], there -/
theorem nd_get {A : Around} {E : Value → Shared → Prop} {v : V} {Q : Value → Shared → Prop} (hu : A.units + 200 < cLine) (I : Inv X pins σ H s) (e : H a = some (ndO X.w a es)) (ks : KeysAt X.K H es) (hk : KAt X.K H k (.ref b)) (hd : dpK k ≤ 8) (l : findN es k = some v)
    (h : ∀ w' s', Inv X pins σ H s' → RelV v w' → Q w' s') : wpAny (model X.prog X.w) A (getItem (.ref a) (.ref b)) Q E s := by
  obtain ⟨xs, z, dd, _, _⟩ := nd_dict I e ks
  obtain ⟨w', hw, rw'⟩ := RelO.some_of (v := v) (by rw [← l]; exact find_pair (k := k) z)
  obtain ⟨x, hx, rfl⟩ := Option.map_eq_some_iff.mp hw
  refine wpAny_getItem_heap (p := x.2) (room_N hu) (key_N I hk hd) dd (by rw [atKey_N, hx]; rfl) ?_
  exact h _ _ (I.tok _) rw'
/-- k in d -/
theorem nd_in {A : Around} {E : Value → Shared → Prop} {Q : Value → Shared → Prop} (hu : A.units + 200 < cLine) (I : Inv X pins σ H s) (e : H a = some (ndO X.w a es)) (ks : KeysAt X.K H es) (hk : KAt X.K H k (.ref b)) (hd : dpK k ≤ 8)
    (h : ∀ s', Inv X pins σ H s' → Q (.bool (findN es k).isSome) s') : wpAny (model X.prog X.w) A (compareOp .In (.ref b) (.ref a)) Q E s := by
  obtain ⟨xs, z, dd, hm, _⟩ := nd_dict I e ks
  refine wpAny_in_heap (room_N hu) (key_N I hk hd) hm dd ?_
  have q := (find_pair (k := k) z).isSome_eq
  rw [Option.isSome_map] at q
  rw [atKey_N, Option.isSome_map, ← q]
  exact h _ (I.tok _)
theorem nd_notIn {A : Around} {E : Value → Shared → Prop} {Q : Value → Shared → Prop} (hu : A.units + 200 < cLine) (I : Inv X pins σ H s) (e : H a = some (ndO X.w a es)) (ks : KeysAt X.K H es) (hk : KAt X.K H k (.ref b)) (hd : dpK k ≤ 8)
    (h : ∀ s', Inv X pins σ H s' → Q (.bool (!(findN es k).isSome)) s') : wpAny (model X.prog X.w) A (compareOp .NotIn (.ref b) (.ref a)) Q E s := by
  obtain ⟨xs, z, dd, hm, _⟩ := nd_dict I e ks
  refine PyProof.Rows.wpAny_notIn_heap (room_N hu) (key_N I hk hd) hm dd ?_
  have q := (find_pair (k := k) z).isSome_eq
  rw [Option.isSome_map] at q
  rw [atKey_N, Option.isSome_map, ← q]
  exact h _ (I.tok _)
end
def hasX {β : Type} (es : List (Kd × Addr × β)) (k : Kd) : Bool := es.any fun x => decide (x.1 = k)
/-- d[k] = v; b: where the new key lies -/
def putX {β : Type} (es : List (Kd × Addr × β)) (k : Kd) (b : Addr) (v : β) : List (Kd × Addr × β) := if hasX es k = true then es.map (fun x => if x.1 = k then (x.1, x.2.1, v) else x) else es ++ [(k, b, v)]
theorem has_find {β : Type} {k : Kd} : ∀ es : List (Kd × Addr × β), hasX es k = (es.find? fun x => decide (x.1 = k)).isSome
  | [] => rfl
  | x :: es => by
    unfold hasX
    rw [List.any_cons, List.find?_cons]
    by_cases h : x.1 = k
    · rw [decide_eq_true h]; rfl
    · rw [decide_eq_false h]; exact has_find es
theorem has_toN {k : Kd} (xs : List (Kd × Addr × Value)) : (atKey (xs.map toN) (nkOf k)).isSome = hasX xs k := by
  rw [atKey_N, Option.isSome_map, has_find]
theorem put_toN {k : Kd} {b : Addr} {r : Value} (xs : List (Kd × Addr × Value)) : storedH (xs.map toN) (nkOf k) b r = (putX xs k b r).map toN := by
  unfold storedH putX
  rw [has_toN]
  split
  · rw [List.map_map, List.map_map]
    refine List.map_congr_left fun x _ => ?_
    show putAt (nkOf k) r (toN x) = toN (if x.1 = k then (x.1, x.2.1, r) else x)
    unfold putAt
    by_cases h : x.1 = k
    · rw [if_pos h, if_pos (show (toN x).1 = nkOf k by unfold toN; rw [h])]
      rfl
    · rw [if_neg h, if_neg (show ¬ (toN x).1 = nkOf k from fun e => h (nkOf_inj e))]
  · rw [List.map_append]
    rfl
theorem pair_map {k : Kd} {v : V} {r : Value} (rv : RelV v r) : ∀ {es : List Ent} {xs : List (Kd × Addr × Value)}, Paired EntR es xs → Paired EntR (es.map fun x => if x.1 = k then (x.1, x.2.1, v) else x) (xs.map fun x => if x.1 = k then (x.1, x.2.1, r) else x)
  | _, _, .nil => .nil
  | _, _, .cons (a := p) (b := q) h t => by
    refine .cons ?_ (pair_map rv t)
    show EntR (if p.1 = k then (p.1, p.2.1, v) else p) (if q.1 = k then (q.1, q.2.1, r) else q)
    by_cases e : q.1 = k
    · rw [if_pos e, if_pos (h.1.trans e)]
      exact ⟨h.1, h.2.1, rv⟩
    · rw [if_neg e, if_neg fun z => e (h.1.symm.trans z)]
      exact h
theorem pair_has {k : Kd} : ∀ {es : List Ent} {xs : List (Kd × Addr × Value)}, Paired EntR es xs → hasX es k = hasX xs k
  | _, _, .nil => rfl
  | _, _, .cons (a := p) (b := q) h t => by
    unfold hasX
    rw [List.any_cons, List.any_cons, h.1]
    have := pair_has (k := k) t
    unfold hasX at this
    rw [this]
theorem pair_snoc {p : Ent} {q : Kd × Addr × Value} (h : EntR p q) : ∀ {es : List Ent} {xs : List (Kd × Addr × Value)}, Paired EntR es xs → Paired EntR (es ++ [p]) (xs ++ [q])
  | _, _, .nil => .cons h .nil
  | _, _, .cons a t => .cons a (pair_snoc h t)
theorem pair_put {k : Kd} {b : Addr} {v : V} {r : Value} (rv : RelV v r) {es : List Ent} {xs : List (Kd × Addr × Value)} (z : Paired EntR es xs) : Paired EntR (putX es k b v) (putX xs k b r) := by
  unfold putX
  rw [pair_has z]
  split
  · exact pair_map rv z
  · exact pair_snoc ⟨rfl, rfl, rv⟩ z
theorem put_len {β : Type} (es : List (Kd × Addr × β)) (k : Kd) (b : Addr) (v : β) : (putX es k b v).length ≤ es.length + 1 := by
  unfold putX
  split
  · rw [List.length_map]; omega
  · rw [List.length_append]; exact Nat.le_refl _
theorem put_nodup {β : Type} {es : List (Kd × Addr × β)} {k : Kd} {b : Addr} {v : β} (h : (es.map (·.1)).Nodup) : ((putX es k b v).map (·.1)).Nodup := by
  unfold putX
  split
  · rw [List.map_map]
    have e : es.map ((fun x : Kd × Addr × β => x.1) ∘ fun x => if x.1 = k then (x.1, x.2.1, v) else x) = es.map (·.1) := List.map_congr_left fun x _ => by
      show (if x.1 = k then (x.1, x.2.1, v) else x).1 = x.1
      split <;> rfl
    rw [e]
    exact h
  · rename_i hn
    rw [List.map_append]
    refine List.nodup_append.mpr ⟨h, List.nodup_cons.mpr ⟨by simp, List.nodup_nil⟩, fun x hx y hy => ?_⟩
    have hy : y = k := by simpa using hy
    subst hy
    rintro rfl
    obtain ⟨p, hp, rfl⟩ := List.mem_map.mp hx
    exact hn (List.any_eq_true.mpr ⟨p, hp, decide_eq_true rfl⟩)
theorem keys_put {K : PySem.W.Frag} {H : Hp} {es : List Ent} {k : Kd} {b : Addr} {v : V} (ks : KeysAt K H es) (hk : KAt K H k (.ref b)) (hd : dpK k ≤ 8) : KeysAt K H (putX es k b v) := by
  intro x hx
  unfold putX at hx
  split at hx
  · obtain ⟨p, hp, rfl⟩ := List.mem_map.mp hx
    have q := ks p hp
    split
    · exact q
    · exact q
  · rcases List.mem_append.mp hx with hx | hx
    · exact ks x hx
    · have e : x = (k, b, v) := by simpa using hx
      subst e
      exact ⟨hk, hd⟩
section
variable {X : Cx} {pins : List (Addr × Obj)} {σ : L2.St} {H : Hp} {s : Shared} {a b : Addr} {es : List Ent} {k : Kd} {A : Around} {E : Value → Shared → Prop}
theorem nd_new {P : Program} {w : World} {h' : Heap} {xs : List (Kd × Addr × Value)} {es : List Ent} (z : Paired EntR es xs) (hl : es.length ≤ sizeLine) (hm : (a == sysModules) = false) (nd : (es.map (·.1)).Nodup) (dd : h'.DictOfH (nestedKind P w) a (xs.map toN)) : NdAt w a es h' := by
  obtain ⟨o, ents, ep, g1, g2, g3, g4, _, _⟩ := dd
  refine ⟨hl, hm, nd, xs, z, o, ents, ep, g1, g2, g3, ?_⟩
  rw [g4, List.map_map]
  rfl
/-- d[k] = v -/
theorem nd_set {v : V} {r : Value} {Q : Unit → Shared → Prop} (hu : A.units + 200 < cLine) (I : Inv X pins σ H s) (e : H a = some (ndO X.w a es)) (ks : KeysAt X.K H es) (hk : KAt X.K H k (.ref b)) (hd : dpK k ≤ 8) (rv : RelV v r) (hl : es.length < sizeLine)
    (h : ∀ s', Inv X pins σ (upd H a (ndO X.w a (putX es k b v))) s' → Q () s') : wpAny (model X.prog X.w) A (PySem.setItem (.ref a) (.ref b) r) Q E s := by
  obtain ⟨xs, z, dd, hm, _⟩ := nd_dict I e ks
  have hn := (nd_at I.hok e).2.2.1
  have hxl := Paired.length z
  refine wpAny_setItem_heap (hsz := by rw [List.length_map, ← hxl]; omega) (room_N hu) (key_N I hk hd) dd fun h' dd' hs => h _ ?_
  rw [put_toN] at dd'
  have here : ∃ q, h'.get? a = some q := let ⟨q, _, _, hq, _⟩ := dd'; ⟨q, hq⟩
  exact d_write I (by rw [e]; exact True.intro) hs here (nd_ok (nd_new (pair_put rv z) (by have := put_len es k b v; omega) hm (put_nodup hn) dd'))
/-- the first key of an empty dict -/
theorem nd_set0 {v : V} {r : Value} {Q : Unit → Shared → Prop} (hu : A.units + 200 < cLine) (I : Inv X pins σ H s) (e : H a = some (.dK [])) (hk : KAt X.K H k (.ref b)) (hd : dpK k ≤ 8) (rv : RelV v r)
    (h : ∀ s', Inv X pins σ (upd H a (ndO X.w a [(k, b, v)])) s' → Q () s') : wpAny (model X.prog X.w) A (PySem.setItem (.ref a) (.ref b) r) Q E s := by
  obtain ⟨_, hm, vs, rel, dd⟩ := dk_of I.hok e
  have hv : vs = [] := by cases rel; rfl
  subst hv
  have dd0 : s.heap.DictOfH (nestedKind X.prog X.w) a (([] : List (Kd × Addr × Value)).map toN) := by
    obtain ⟨o, ents, ep, g1, g2, g3, _, g5, _⟩ := dd
    have h0 : ents.toList = [] := by
      cases q : ents.toList with
      | nil => rfl
      | cons x r => rw [q] at g5; cases g5
    exact ⟨o, ents, ep, g1, g2, g3, by rw [h0]; rfl, fun x hx => (by cases hx), List.nodup_nil⟩
  refine wpAny_setItem_heap (hsz := Nat.zero_le _) (room_N hu) (key_N I hk hd) dd0 fun h' dd' hs => h _ ?_
  rw [put_toN] at dd'
  have here : ∃ q, h'.get? a = some q := let ⟨q, _, _, hq, _⟩ := dd'; ⟨q, hq⟩
  exact d_write I (by rw [e]; exact True.intro) hs here (nd_ok (nd_new (xs := putX [] k b r) (es := [(k, b, v)]) (.cons ⟨rfl, rfl, rv⟩ .nil) (by show 1 ≤ sizeLine; decide) hm (by simp) dd'))
theorem nd_dict0 (I : Inv X pins σ H s) (e : H a = some (.dK [])) : s.heap.DictOfH (nestedKind X.prog X.w) a (([] : List (Kd × Addr × Value)).map toN) ∧ (a == sysModules) = false := by
  obtain ⟨_, hm, vs, rel, dd⟩ := dk_of I.hok e
  have hv : vs = [] := by cases rel; rfl
  subst hv
  obtain ⟨o, ents, ep, g1, g2, g3, _, g5, _⟩ := dd
  have h0 : ents.toList = [] := by
    cases q : ents.toList with
    | nil => rfl
    | cons x r => rw [q] at g5; cases g5
  exact ⟨⟨o, ents, ep, g1, g2, g3, by rw [h0]; rfl, fun x hx => (by cases hx), List.nodup_nil⟩, hm⟩
/-- k in {} -/
theorem nd_in0 {Q : Value → Shared → Prop} (hu : A.units + 200 < cLine) (I : Inv X pins σ H s) (e : H a = some (.dK [])) (hk : KAt X.K H k (.ref b)) (hd : dpK k ≤ 8)
    (h : ∀ s', Inv X pins σ H s' → Q (.bool false) s') : wpAny (model X.prog X.w) A (compareOp .In (.ref b) (.ref a)) Q E s := by
  obtain ⟨dd, hm⟩ := nd_dict0 I e
  exact wpAny_in_heap (room_N hu) (key_N I hk hd) hm dd (h _ (I.tok _))
theorem nd_notIn0 {Q : Value → Shared → Prop} (hu : A.units + 200 < cLine) (I : Inv X pins σ H s) (e : H a = some (.dK [])) (hk : KAt X.K H k (.ref b)) (hd : dpK k ≤ 8)
    (h : ∀ s', Inv X pins σ H s' → Q (.bool true) s') : wpAny (model X.prog X.w) A (compareOp .NotIn (.ref b) (.ref a)) Q E s := by
  obtain ⟨dd, hm⟩ := nd_dict0 I e
  exact PyProof.Rows.wpAny_notIn_heap (room_N hu) (key_N I hk hd) hm dd (h _ (I.tok _))
/-- len(d) -/
theorem nd_len {Q : Value → Shared → Prop} (I : Inv X pins σ H s) (e : H a = some (ndO X.w a es)) (ks : KeysAt X.K H es) (h : ∀ t s', Inv X pins σ H s' → Q (.int es.length t) s') : wpAny (model X.prog X.w) A (PySem.call (.builtin "len") [.ref a]) Q E s := by
  obtain ⟨xs, z, dd, hm, hl⟩ := nd_dict I e ks
  have hxl := Paired.length z
  have hlen : (xs.map toN).length = es.length := by rw [List.length_map, ← hxl]
  refine call_len_dictH hm dd (by rw [hlen]; rw [sizeLine_eq] at hl; omega) ?_
  rw [hlen]
  exact h _ _ (I.tok _)
/-- d.get(k), d.get(k, dflt) -/
theorem nd_getD {dv : Value} {rest : List Value} {Q : Value → Shared → Prop} (hr : rest = [dv] ∨ (rest = [] ∧ dv = .none)) (hu : A.units + 200 < cLine) (I : Inv X pins σ H s) (e : H a = some (ndO X.w a es)) (ks : KeysAt X.K H es) (hk : KAt X.K H k (.ref b)) (hd : dpK k ≤ 8)
    (h1 : ∀ v w' s', findN es k = some v → Inv X pins σ H s' → RelV v w' → Q w' s') (h2 : ∀ s', findN es k = none → Inv X pins σ H s' → Q dv s') : wpAny (model X.prog X.w) A (PySem.call (.builtin "dict.get") (.ref a :: .ref b :: rest)) Q E s := by
  obtain ⟨xs, z, dd, hm, _⟩ := nd_dict I e ks
  have fp := find_pair (k := k) z
  have fin : Q (((atKey (xs.map toN) (nkOf k)).map fun x => x.2).getD dv) ⟨s.heap, s.gens, s.drawn, s.toks + (nestedKind X.prog X.w).draws (nkOf k), s.os⟩ := by
    rw [atKey_N, Option.map_map]
    cases q : xs.find? fun x => decide (x.1 = k) with
    | none =>
      rw [q] at fp
      refine h2 _ ?_ (I.tok _)
      cases q2 : findN es k with
      | none => rfl
      | some v => rw [q2] at fp; exact fp.elim
    | some x =>
      rw [q] at fp
      cases q2 : findN es k with
      | none => rw [q2] at fp; exact fp.elim
      | some v =>
        rw [q2] at fp
        exact h1 v _ _ q2 (I.tok _) fp
  rcases hr with rfl | ⟨rfl, rfl⟩
  · exact call_meetsIn PySem.F.slot_dict_get dd.typeIs PySem.F.entry_dict_get (PySem.F.args_dict_get_3 _ _ _) (meetsH_dict_get_default (nestedKind X.prog X.w) a b hm dv) ⟨room_N hu, nkOf k, _, key_N I hk hd, dd, fin⟩
  · exact call_meetsIn PySem.F.slot_dict_get dd.typeIs PySem.F.entry_dict_get (PySem.F.args_dict_get_2 _ _) (meetsH_dict_get (nestedKind X.prog X.w) a b hm) ⟨room_N hu, nkOf k, _, key_N I hk hd, dd, fin⟩
theorem nd_getD0 {dv : Value} {rest : List Value} {Q : Value → Shared → Prop} (hr : rest = [dv] ∨ (rest = [] ∧ dv = .none)) (hu : A.units + 200 < cLine) (I : Inv X pins σ H s) (e : H a = some (.dK [])) (hk : KAt X.K H k (.ref b)) (hd : dpK k ≤ 8)
    (h2 : ∀ s', Inv X pins σ H s' → Q dv s') : wpAny (model X.prog X.w) A (PySem.call (.builtin "dict.get") (.ref a :: .ref b :: rest)) Q E s := by
  obtain ⟨dd, hm⟩ := nd_dict0 I e
  rcases hr with rfl | ⟨rfl, rfl⟩
  · exact call_meetsIn PySem.F.slot_dict_get dd.typeIs PySem.F.entry_dict_get (PySem.F.args_dict_get_3 _ _ _) (meetsH_dict_get_default (nestedKind X.prog X.w) a b hm dv) ⟨room_N hu, nkOf k, _, key_N I hk hd, dd, h2 _ (I.tok _)⟩
  · exact call_meetsIn PySem.F.slot_dict_get dd.typeIs PySem.F.entry_dict_get (PySem.F.args_dict_get_2 _ _) (meetsH_dict_get (nestedKind X.prog X.w) a b hm) ⟨room_N hu, nkOf k, _, key_N I hk hd, dd, h2 _ (I.tok _)⟩
/-- d.get(k), d.get(k, dflt): flat keys -/
theorem fd_getD {u dv : Value} {rest : List Value} {kvs : List (L2.Key × V)} {k : L2.Key} {Q : Value → Shared → Prop} (hr : rest = [dv] ∨ (rest = [] ∧ dv = .none)) (I : Inv X pins σ H s) (e : H a = some (.dK kvs)) (ry : RelV (kV k) u)
    (h1 : ∀ v w' s', valV kvs k = some v → Inv X pins σ H s' → RelV v w' → Q w' s') (h2 : ∀ s', valV kvs k = none → Inv X pins σ H s' → Q dv s') : wpAny (model X.prog X.w) A (PySem.call (.builtin "dict.get") (.ref a :: u :: rest)) Q E s := by
  obtain ⟨_, hm, vs, z, dd⟩ := dk_of I.hok e
  have fp := KV.val z k
  have fin : Q ((valueAt vs k).getD dv) ⟨s.heap, s.gens, s.drawn, s.toks + 1, s.os⟩ := by
    cases q : valueAt vs k with
    | none =>
      rw [q] at fp
      refine h2 _ ?_ (I.tok _)
      cases q2 : valV kvs k with
      | none => rfl
      | some v => rw [q2] at fp; exact fp.elim
    | some x =>
      rw [q] at fp
      cases q2 : valV kvs k with
      | none => rw [q2] at fp; exact fp.elim
      | some v =>
        rw [q2] at fp
        exact h1 v _ _ q2 (I.tok _) fp
  rcases hr with rfl | ⟨rfl, rfl⟩
  · exact call_meetsIn PySem.F.slot_dict_get dd.typeIs PySem.F.entry_dict_get (PySem.F.args_dict_get_3 _ _ _) (meets_dict_get_default (mixKind X.prog X.w) a (kV_is ry) hm dv) ⟨_, dd.mapOf, fin⟩
  · exact call_meetsIn PySem.F.slot_dict_get dd.typeIs PySem.F.entry_dict_get (PySem.F.args_dict_get_2 _ _) (meets_dict_get (mixKind X.prog X.w) a (kV_is ry) hm) ⟨_, dd.mapOf, fin⟩
/-- a dict as a thing with methods -/
def tyD (w : World) (x : V) (H : Hp) : Prop := ∃ a, x = .ref a ∧ ((∃ kvs, H a = some (.dK kvs)) ∨ ∃ es, H a = some (ndO w a es))
theorem tyD_ok {X : Cx} : TyOk X "dict" (tyD X.w) := by
  rintro pins σ H s x v I rx ⟨a, rfl, h⟩
  obtain rfl : v = Value.ref a := rx
  have q : ∃ o, s.heap.get? a = some o ∧ o.ExactDict := by
    rcases h with ⟨kvs, e⟩ | ⟨es, e⟩
    · obtain ⟨_, _, _, _, o, _, _, g, x, _⟩ := dk_of I.hok e
      exact ⟨o, g, x⟩
    · obtain ⟨_, _, _, _, _, o, _, _, g, x, _⟩ := nd_at I.hok e
      exact ⟨o, g, x⟩
  obtain ⟨o, g, x⟩ := q
  exact ⟨⟨o, g, x.1⟩, fun b hb => by cases hb; exact ⟨o, g, x.2.1⟩⟩
end
end Y

/-! The store of the reader and the abstract heap of the layer. -/
namespace Y
open PySem PySem.Spec L2

/-- the addresses: of the store's things; of what others may write (borrowed); of what is being built -/
structure Ix where
  st : List Addr
  bz : List Addr
  bd : List Addr
/-- what never changes in the heap, stays: all but the store's things and what is being built -/
structure Keep (H : Hp) (I : Ix) (H' : Hp) (I' : Ix) : Prop where
  st : I.st <+: I'.st
  bz : I'.bz = I.bz
  bd : I'.bd = I.bd
  kp : ∀ a o, H a = some o → a ∉ I.st → H' a = some o ∧ a ∉ I'.st
  tup : ∀ a xs, H a = some (.tup xs) → H' a = some (.tup xs)
  frz : ∀ a o u, H a = some (.frz o u) → H' a = some (.frz o u)
  xd : ∀ a fs, H a = some (.xd fs) → H' a = some (.xd fs)
theorem Keep.refl (H : Hp) (I : Ix) : Keep H I H I := ⟨List.prefix_refl _, rfl, rfl, fun _ _ h n => ⟨h, n⟩, fun _ _ h => h, fun _ _ _ h => h, fun _ _ h => h⟩
theorem Keep.trans {H H1 H2 : Hp} {I I1 I2 : Ix} (a : Keep H I H1 I1) (b : Keep H1 I1 H2 I2) : Keep H I H2 I2 :=
  ⟨a.st.trans b.st, b.bz.trans a.bz, b.bd.trans a.bd, fun x o h n => (fun q => b.kp x o q.1 q.2) (a.kp x o h n), fun x xs h => b.tup x xs (a.tup x xs h), fun x o u h => b.frz x o u (a.frz x o u h), fun x u h => b.xd x u (a.xd x u h)⟩
/-- a new thing that the store does not know -/
theorem Keep.junk {H : Hp} {I : Ix} {p : Addr} {o : HO} (h : H p = none) : Keep H I (upd H p o) I :=
  ⟨List.prefix_refl _, rfl, rfl, fun a u e n => ⟨by rw [upd_ne (ne_of_none e h)]; exact e, n⟩, fun a xs e => by rw [upd_ne (ne_of_none e h)]; exact e, fun a ob u e => by rw [upd_ne (ne_of_none e h)]; exact e, fun a u e => by rw [upd_ne (ne_of_none e h)]; exact e⟩
def Ix.add (I : Ix) (p : Addr) : Ix := ⟨I.st ++ [p], I.bz, I.bd⟩
theorem Keep.new {H : Hp} {I : Ix} {p : Addr} {o : HO} (h : H p = none) : Keep H I (upd H p o) (I.add p) :=
  ⟨List.prefix_append _ _, rfl, rfl, fun a u e n => ⟨by rw [upd_ne (ne_of_none e h)]; exact e, fun z => (List.mem_append.mp z).elim n fun z => by rw [List.mem_singleton] at z; subst z; rw [h] at e; cases e⟩, fun a xs e => by rw [upd_ne (ne_of_none e h)]; exact e, fun a ob u e => by rw [upd_ne (ne_of_none e h)]; exact e, fun a u e => by rw [upd_ne (ne_of_none e h)]; exact e⟩
/-- a list, a dict, an instance is written -/
def isM : HO → Bool
  | .lst _ => true
  | .dK _ => true
  | .ins _ _ _ => true
  | .ext _ => true
  | _ => false
theorem Keep.upd {H : Hp} {I : Ix} {p : Addr} {o u : HO} (h : H p = some u) (m : isM u = true) (hp : p ∈ I.st) : Keep H I (upd H p o) I :=
  ⟨List.prefix_refl _, rfl, rfl, fun a w e n => ⟨by rw [upd_ne (fun z => by subst z; exact n hp)]; exact e, n⟩,
   fun a xs e => by
    have n : a ≠ p := fun z => by subst z; rw [h] at e; cases e; cases m
    rw [upd_ne n]; exact e,
   fun a ob w e => by
    have n : a ≠ p := fun z => by subst z; rw [h] at e; cases e; cases m
    rw [upd_ne n]; exact e,
   fun a w e => by
    have n : a ≠ p := fun z => by subst z; rw [h] at e; cases e; cases m
    rw [upd_ne n]; exact e⟩
theorem pre_get {I I' : List Addr} (p : I <+: I') {i : Nat} {a : Addr} (h : I[i]? = some a) : I'[i]? = some a := by
  obtain ⟨t, rfl⟩ := p
  obtain ⟨hl, _⟩ := List.getElem?_eq_some_iff.mp h
  rw [List.getElem?_append_left hl]; exact h
/-- a tuple to be read -/
def FzT (K : PySem.W.Frag) (H : Hp) (a : Addr) (xs : List V) : Prop := SqT K H a xs
theorem keepT {K : PySem.W.Frag} {H H' : Hp} {I I' : Ix} {a : Addr} {xs : List V} (k : Keep H I H' I') (h : SqT K H a xs) : SqT K H' a xs := by
  rcases h with (h | ⟨o, h⟩) | h
  · exact .inl (.inl (k.tup _ _ h))
  · exact .inl (.inr ⟨o, k.frz _ _ _ h⟩)
  · exact .inr h
/-- not the store's, not being built; nor borrowed (unless t) -/
structure Out (I : Ix) (t : Bool) (a : Addr) : Prop where
  st : a ∉ I.st
  bd : a ∉ I.bd
  bz : t = false → a ∉ I.bz
theorem Out.mono {H H' : Hp} {I I' : Ix} {t : Bool} {a : Addr} {o : HO} (k : Keep H I H' I') (h : H a = some o) (x : Out I t a) : Out I' t a :=
  ⟨(k.kp a o h x.st).2, by rw [k.bd]; exact x.bd, by rw [k.bz]; exact x.bz⟩
def kLst (K : PySem.W.Frag) (a : Addr) (xs : List V) : Prop := ∃ (o : Obj) (its : Array Value) (n : Nat), K.lookup a = some o ∧ o.cls = .type "list" ∧ o.dict = none ∧ o.data = .seq its n ∧ its.size ≤ sizeLine ∧ Vals xs its.toList
/-- a list that nobody writes -/
def FzL (K : PySem.W.Frag) (H : Hp) (I : Ix) (t : Bool) (a : Addr) (xs : List V) : Prop := (H a = some (.lst xs) ∧ Out I t a) ∨ (∃ o, H a = some (.frz o (.lst xs))) ∨ kLst K a xs
theorem keepF {K : PySem.W.Frag} {H H' : Hp} {I I' : Ix} {t : Bool} {a : Addr} {xs : List V} (k : Keep H I H' I') (h : FzL K H I t a xs) : FzL K H' I' t a xs := by
  rcases h with ⟨h, x⟩ | ⟨o, h⟩ | h
  · exact .inl ⟨(k.kp _ _ h x.st).1, x.mono k h⟩
  · exact .inr (.inl ⟨o, k.frz _ _ _ h⟩)
  · exact .inr (.inr h)
theorem FzL.now {K : PySem.W.Frag} {H : Hp} {I : Ix} {t : Bool} {a : Addr} {xs : List V} (h : FzL K H I t a xs) : SqL K H a xs := by
  rcases h with ⟨h, x⟩ | h | h
  · exact .inl (.inl h)
  · exact .inl (.inr h)
  · exact .inr h
def FzD (H : Hp) (I : Ix) (t : Bool) (a : Addr) (xs : List (Key × V)) : Prop := H a = some (.dK xs) ∧ Out I t a
theorem keepD {H H' : Hp} {I I' : Ix} {t : Bool} {a : Addr} {xs : List (Key × V)} (k : Keep H I H' I') (h : FzD H I t a xs) : FzD H' I' t a xs := ⟨(k.kp _ _ h.1 h.2.st).1, h.2.mono k h.1⟩
/-- an instance, or an error of one's own with its dict -/
def FzI (H : Hp) (I : Ix) (t : Bool) (a C dx : Addr) (xs : List (Str × V)) : Prop := (H a = some (.ins C dx xs) ∧ Out I t a) ∨ ((H a = some (exo a C (some dx)) ∧ Out I t a) ∧ H dx = some (exd dx xs) ∧ Out I t dx)

/-- the written part and the module's names -/
structure Gd where
  K : PySem.W.Frag
  mg : Str → Option Value
  w : World
def kOf : Kd → Option Key
  | .int i => some (.inl i)
  | .str x => some (.inr x)
  | .tup _ => none

mutual
def RW (G : Gd) (H : Hp) (I : Ix) : W → V → Prop
  | .non, v => v = .non
  | .bl b, v => v = .bl b
  | .int i, v => v = .int i
  | .str x, v => v = .str x
  | .ty n, v => v = .ty n
  | .tup ws, v => ∃ a vs, v = .ref a ∧ SqT G.K H a vs ∧ RWs G H I ws vs
  | .fl t ws, v => ∃ a vs, v = .ref a ∧ FzL G.K H I t a vs ∧ RWs G H I ws vs
  | .fd t ws, v => ∃ a vs, v = .ref a ∧ FzD H I t a vs ∧ RKs G H I ws vs
  | .fdn t ws, v => ∃ a es, v = .ref a ∧ (H a = some (ndO G.w a es) ∧ Out I t a) ∧ RNs G H I ws es
  | .fins t C ws, v => ∃ a c dx vs, v = .ref a ∧ G.mg C = some (.ref c) ∧ FzI H I t a c dx vs ∧ RFs G H I ws vs
  | .ref i, v => ∃ a, v = .ref a ∧ I.st[i]? = some a
  | .glo x, v => ∃ a, v = .ref a ∧ G.mg x = some (.ref a)
def RWs (G : Gd) (H : Hp) (I : Ix) : List W → List V → Prop
  | [], vs => vs = []
  | w :: ws, vs => ∃ v r, vs = v :: r ∧ RW G H I w v ∧ RWs G H I ws r
/-- keys and values of a dict -/
def RKs (G : Gd) (H : Hp) (I : Ix) : List (Kd × W) → List (Key × V) → Prop
  | [], ys => ys = []
  | (k, w) :: r, ys => ∃ q v t, ys = (q, v) :: t ∧ kOf k = some q ∧ RW G H I w v ∧ RKs G H I r t
/-- keys and values of a dict of tuples -/
def RNs (G : Gd) (H : Hp) (I : Ix) : List (Kd × W) → List Ent → Prop
  | [], ys => ys = []
  | (k, w) :: r, ys => ∃ b v t, ys = (k, b, v) :: t ∧ (KAt G.K H k (.ref b) ∧ dpK k ≤ 8) ∧ RW G H I w v ∧ RNs G H I r t
/-- names and values of attributes -/
def RFs (G : Gd) (H : Hp) (I : Ix) : List (Str × W) → List (Str × V) → Prop
  | [], ys => ys = []
  | (k, w) :: r, ys => ∃ v t, ys = (k, v) :: t ∧ RW G H I w v ∧ RFs G H I r t
end
/-- what values lean on is there too -/
structure Mv (H : Hp) (I : Ix) (H' : Hp) (I' : Ix) : Prop where
  st : I.st <+: I'.st
  tup : ∀ a xs, H a = some (.tup xs) → H' a = some (.tup xs)
  frz : ∀ a o u, H a = some (.frz o u) → H' a = some (.frz o u)
  out : ∀ a o t, H a = some o → Out I t a → H' a = some o ∧ Out I' t a
theorem Mv.trans {H H1 H2 : Hp} {I I1 I2 : Ix} (a : Mv H I H1 I1) (b : Mv H1 I1 H2 I2) : Mv H I H2 I2 :=
  ⟨a.st.trans b.st, fun x xs h => b.tup x xs (a.tup x xs h), fun x o u h => b.frz x o u (a.frz x o u h), fun x o t h q => (fun z => b.out x o t z.1 z.2) (a.out x o t h q)⟩
theorem Mv.refl (H : Hp) (I : Ix) : Mv H I H I := ⟨List.prefix_refl _, fun _ _ h => h, fun _ _ _ h => h, fun _ _ _ h q => ⟨h, q⟩⟩
theorem Keep.mv {H H' : Hp} {I I' : Ix} (k : Keep H I H' I') : Mv H I H' I' := ⟨k.st, k.tup, k.frz, fun a o t h x => ⟨(k.kp a o h x.st).1, x.mono k h⟩⟩
theorem Mv.sqT {K : PySem.W.Frag} {H H' : Hp} {I I' : Ix} {a : Addr} {xs : List V} (k : Mv H I H' I') (h : SqT K H a xs) : SqT K H' a xs := by
  rcases h with (h | ⟨o, h⟩) | h
  · exact .inl (.inl (k.tup _ _ h))
  · exact .inl (.inr ⟨o, k.frz _ _ _ h⟩)
  · exact .inr h
theorem Mv.fzL {K : PySem.W.Frag} {H H' : Hp} {I I' : Ix} {t : Bool} {a : Addr} {xs : List V} (k : Mv H I H' I') (h : FzL K H I t a xs) : FzL K H' I' t a xs := by
  rcases h with ⟨h, x⟩ | ⟨o, h⟩ | h
  · exact .inl (k.out _ _ _ h x)
  · exact .inr (.inl ⟨o, k.frz _ _ _ h⟩)
  · exact .inr (.inr h)
theorem Mv.fzD {H H' : Hp} {I I' : Ix} {t : Bool} {a : Addr} {xs : List (Key × V)} (k : Mv H I H' I') (h : FzD H I t a xs) : FzD H' I' t a xs := k.out _ _ _ h.1 h.2
theorem Mv.fzI {H H' : Hp} {I I' : Ix} {t : Bool} {a C dx : Addr} {xs : List (Str × V)} (k : Mv H I H' I') (h : FzI H I t a C dx xs) : FzI H' I' t a C dx xs := by
  rcases h with h | ⟨h, q⟩
  · exact .inl (k.out _ _ _ h.1 h.2)
  · exact .inr ⟨k.out _ _ _ h.1 h.2, k.out _ _ _ q.1 q.2⟩
section
variable {G : Gd} {H H' : Hp} {I I' : Ix}
mutual
theorem KAt.mv (k : Mv H I H' I') : ∀ {x : Kd} {v : V}, KAt G.K H x v → KAt G.K H' x v
  | .int _, _, h => by unfold KAt at h ⊢; exact h
  | .str _, _, h => by unfold KAt at h ⊢; exact h
  | .tup ks, _, h => by
    unfold KAt at h ⊢
    obtain ⟨a, vs, e, s, r⟩ := h
    exact ⟨a, vs, e, k.sqT s, KAts.mv k r⟩
theorem KAts.mv (k : Mv H I H' I') : ∀ {x : List Kd} {v : List V}, KAts G.K H x v → KAts G.K H' x v
  | [], _, h => by unfold KAts at h ⊢; exact h
  | x :: xs, _, h => by
    unfold KAts at h ⊢
    obtain ⟨v, r, e, h1, h2⟩ := h
    exact ⟨v, r, e, KAt.mv k h1, KAts.mv k h2⟩
end
mutual
theorem RW.mv (k : Mv H I H' I') : ∀ {w : W} {v : V}, RW G H I w v → RW G H' I' w v
  | .non, _, h => by unfold RW at h ⊢; exact h
  | .bl _, _, h => by unfold RW at h ⊢; exact h
  | .int _, _, h => by unfold RW at h ⊢; exact h
  | .str _, _, h => by unfold RW at h ⊢; exact h
  | .ty _, _, h => by unfold RW at h ⊢; exact h
  | .tup ws, _, h => by
    unfold RW at h ⊢
    obtain ⟨a, vs, e, s, r⟩ := h
    exact ⟨a, vs, e, k.sqT s, RWs.mv k r⟩
  | .fl t ws, _, h => by
    unfold RW at h ⊢
    obtain ⟨a, vs, e, s, r⟩ := h
    exact ⟨a, vs, e, k.fzL s, RWs.mv k r⟩
  | .fd t ws, _, h => by
    unfold RW at h ⊢
    obtain ⟨a, vs, e, s, r⟩ := h
    exact ⟨a, vs, e, k.fzD s, RKs.mv k r⟩
  | .fdn t ws, _, h => by
    unfold RW at h ⊢
    obtain ⟨a, es, e, s, r⟩ := h
    exact ⟨a, es, e, k.out _ _ _ s.1 s.2, RNs.mv k r⟩
  | .fins t C ws, _, h => by
    unfold RW at h ⊢
    obtain ⟨a, c, dx, vs, e, m, s, r⟩ := h
    exact ⟨a, c, dx, vs, e, m, k.fzI s, RFs.mv k r⟩
  | .ref i, _, h => by
    unfold RW at h ⊢
    obtain ⟨a, e, s⟩ := h
    exact ⟨a, e, pre_get k.st s⟩
  | .glo x, _, h => by unfold RW at h ⊢; exact h
theorem RWs.mv (k : Mv H I H' I') : ∀ {ws : List W} {vs : List V}, RWs G H I ws vs → RWs G H' I' ws vs
  | [], _, h => by unfold RWs at h ⊢; exact h
  | w :: ws, _, h => by
    unfold RWs at h ⊢
    obtain ⟨v, r, e, h1, h2⟩ := h
    exact ⟨v, r, e, RW.mv k h1, RWs.mv k h2⟩
theorem RKs.mv (k : Mv H I H' I') : ∀ {ws : List (Kd × W)} {vs : List (Key × V)}, RKs G H I ws vs → RKs G H' I' ws vs
  | [], _, h => by unfold RKs at h ⊢; exact h
  | (_, w) :: ws, _, h => by
    unfold RKs at h ⊢
    obtain ⟨q, v, r, e, e2, h1, h2⟩ := h
    exact ⟨q, v, r, e, e2, RW.mv k h1, RKs.mv k h2⟩
theorem RNs.mv (k : Mv H I H' I') : ∀ {ws : List (Kd × W)} {vs : List Ent}, RNs G H I ws vs → RNs G H' I' ws vs
  | [], _, h => by unfold RNs at h ⊢; exact h
  | (_, w) :: ws, _, h => by
    unfold RNs at h ⊢
    obtain ⟨b, v, r, e, e2, h1, h2⟩ := h
    exact ⟨b, v, r, e, ⟨KAt.mv k e2.1, e2.2⟩, RW.mv k h1, RNs.mv k h2⟩
theorem RFs.mv (k : Mv H I H' I') : ∀ {ws : List (Str × W)} {vs : List (Str × V)}, RFs G H I ws vs → RFs G H' I' ws vs
  | [], _, h => by unfold RFs at h ⊢; exact h
  | (_, w) :: ws, _, h => by
    unfold RFs at h ⊢
    obtain ⟨v, r, e, h1, h2⟩ := h
    exact ⟨v, r, e, RW.mv k h1, RFs.mv k h2⟩
end
end
section
variable {G : Gd} {H H' : Hp} {I I' : Ix}
theorem RW.mono {w : W} {v : V} (k : Keep H I H' I') (h : RW G H I w v) : RW G H' I' w v := h.mv k.mv
theorem RWs.mono {w : List W} {v : List V} (k : Keep H I H' I') (h : RWs G H I w v) : RWs G H' I' w v := h.mv k.mv
theorem RKs.mono {w : List (Kd × W)} {v : List (Key × V)} (k : Keep H I H' I') (h : RKs G H I w v) : RKs G H' I' w v := h.mv k.mv
theorem RNs.mono {w : List (Kd × W)} {v : List Ent} (k : Keep H I H' I') (h : RNs G H I w v) : RNs G H' I' w v := h.mv k.mv
theorem RFs.mono {w : List (Str × W)} {v : List (Str × V)} (k : Keep H I H' I') (h : RFs G H I w v) : RFs G H' I' w v := h.mv k.mv
end
theorem RWs.nil {G : Gd} {H : Hp} {I : Ix} : RWs G H I [] [] := by unfold RWs; rfl
theorem RWs.cons {G : Gd} {H : Hp} {I : Ix} {w : W} {ws : List W} {v : V} {vs : List V} (h : RW G H I w v) (r : RWs G H I ws vs) : RWs G H I (w :: ws) (v :: vs) := by
  rw [RWs]; exact ⟨v, vs, rfl, h, r⟩
theorem RWs.inv {G : Gd} {H : Hp} {I : Ix} {w : W} {ws : List W} {vs : List V} (h : RWs G H I (w :: ws) vs) : ∃ v r, vs = v :: r ∧ RW G H I w v ∧ RWs G H I ws r := by
  rw [RWs] at h; exact h
theorem RWs.inv0 {G : Gd} {H : Hp} {I : Ix} {vs : List V} (h : RWs G H I [] vs) : vs = [] := by
  rw [RWs] at h; exact h
theorem RWs.len {G : Gd} {H : Hp} {I : Ix} : ∀ {ws : List W} {vs : List V}, RWs G H I ws vs → ws.length = vs.length
  | [], _, h => by have q := h.inv0; subst q; rfl
  | w :: ws, _, h => by
    obtain ⟨v, r, rfl, _, h2⟩ := h.inv
    simp [RWs.len h2]
theorem RWs.get {G : Gd} {H : Hp} {I : Ix} : ∀ {ws : List W} {vs : List V} {i : Nat} {w : W}, RWs G H I ws vs → ws[i]? = some w → ∃ v, vs[i]? = some v ∧ RW G H I w v
  | [], _, _, _, _, e => by simp at e
  | x :: ws, _, 0, w, h, e => by
    obtain ⟨v, r, rfl, h1, _⟩ := h.inv
    simp at e; subst e
    exact ⟨v, by simp, h1⟩
  | x :: ws, _, i + 1, w, h, e => by
    obtain ⟨v, r, rfl, _, h2⟩ := h.inv
    obtain ⟨u, h3, h4⟩ := RWs.get (i := i) h2 (by simpa using e)
    exact ⟨u, by simpa using h3, h4⟩
theorem RWs.getN {G : Gd} {H : Hp} {I : Ix} {ws : List W} {vs : List V} {i : Nat} (h : RWs G H I ws vs) (e : ws[i]? = none) : vs[i]? = none := by
  have := h.len
  rw [List.getElem?_eq_none_iff] at e ⊢
  omega
theorem RWs.append {G : Gd} {H : Hp} {I : Ix} : ∀ {ws zs : List W} {vs us : List V}, RWs G H I ws vs → RWs G H I zs us → RWs G H I (ws ++ zs) (vs ++ us)
  | [], _, _, _, h, q => by rw [h.inv0]; exact q
  | w :: ws, _, _, _, h, q => by
    obtain ⟨v, r, rfl, h1, h2⟩ := h.inv
    exact .cons h1 (RWs.append h2 q)
theorem RWs.take {G : Gd} {H : Hp} {I : Ix} : ∀ {ws : List W} {vs : List V} (n : Nat), RWs G H I ws vs → RWs G H I (ws.take n) (vs.take n)
  | _, _, 0, _ => .nil
  | [], _, n + 1, h => by rw [h.inv0]; exact .nil
  | w :: ws, _, n + 1, h => by
    obtain ⟨v, r, rfl, h1, h2⟩ := h.inv
    exact .cons h1 (RWs.take n h2)
theorem RWs.drop {G : Gd} {H : Hp} {I : Ix} : ∀ {ws : List W} {vs : List V} (n : Nat), RWs G H I ws vs → RWs G H I (ws.drop n) (vs.drop n)
  | _, _, 0, h => h
  | [], _, n + 1, h => by rw [h.inv0]; exact .nil
  | w :: ws, _, n + 1, h => by
    obtain ⟨v, r, rfl, h1, h2⟩ := h.inv
    exact RWs.drop n h2
theorem RWs.cut {G : Gd} {H : Hp} {I : Ix} {ws : List W} {vs : List V} (lo hi : Option Int) (h : RWs G H I ws vs) : RWs G H I (cutW ws lo hi) (cutV vs lo hi) := by
  unfold cutW cutV
  rw [h.len]
  exact (h.drop _).take _
theorem RWs.set {G : Gd} {H : Hp} {I : Ix} {w : W} {v : V} (r : RW G H I w v) : ∀ {ws : List W} {vs : List V} (i : Nat), RWs G H I ws vs → RWs G H I (ws.set i w) (vs.set i v)
  | [], _, _, h => by rw [h.inv0]; exact .nil
  | x :: ws, _, 0, h => by
    obtain ⟨v, r, rfl, h1, h2⟩ := h.inv
    exact .cons (by assumption) h2
  | x :: ws, _, i + 1, h => by
    obtain ⟨u, q, rfl, h1, h2⟩ := h.inv
    exact .cons h1 (RWs.set r i h2)
theorem RWs.flat {G : Gd} {H : Hp} {I : Ix} {ws : List W} {vs : List V} (h : RWs G H I ws vs) : ∀ k : Nat, RWs G H I (List.replicate k ws).flatten (List.replicate k vs).flatten
  | 0 => .nil
  | k + 1 => by
    simp only [List.replicate_succ, List.flatten_cons]
    exact h.append (RWs.flat h k)
theorem RKs.nil {G : Gd} {H : Hp} {I : Ix} : RKs G H I [] [] := by unfold RKs; rfl
theorem RKs.cons {G : Gd} {H : Hp} {I : Ix} {k : Kd} {q : Key} {w : W} {ws : List (Kd × W)} {v : V} {vs : List (Key × V)} (e : kOf k = some q) (h : RW G H I w v) (r : RKs G H I ws vs) : RKs G H I ((k, w) :: ws) ((q, v) :: vs) := by
  rw [RKs]; exact ⟨q, v, vs, rfl, e, h, r⟩
theorem RKs.inv {G : Gd} {H : Hp} {I : Ix} {k : Kd} {w : W} {ws : List (Kd × W)} {vs : List (Key × V)} (h : RKs G H I ((k, w) :: ws) vs) : ∃ q v t, vs = (q, v) :: t ∧ kOf k = some q ∧ RW G H I w v ∧ RKs G H I ws t := by
  rw [RKs] at h; exact h
theorem RKs.inv0 {G : Gd} {H : Hp} {I : Ix} {vs : List (Key × V)} (h : RKs G H I [] vs) : vs = [] := by
  rw [RKs] at h; exact h
theorem RKs.len {G : Gd} {H : Hp} {I : Ix} : ∀ {ws : List (Kd × W)} {vs : List (Key × V)}, RKs G H I ws vs → ws.length = vs.length
  | [], _, h => by rw [h.inv0]; rfl
  | (_, _) :: ws, _, h => by obtain ⟨q, v, t, rfl, _, _, h2⟩ := h.inv; simp [RKs.len h2]
theorem RKs.empty {G : Gd} {H : Hp} {I : Ix} {ws : List (Kd × W)} {vs : List (Key × V)} (h : RKs G H I ws vs) : ws.isEmpty = vs.isEmpty := by
  have := h.len
  cases ws <;> cases vs <;> simp_all
theorem kOf_inj {a b : Kd} {q : Key} (h : kOf a = some q) (h2 : kOf b = some q) : a = b := by
  cases a <;> cases b <;> simp [kOf] at h h2 <;> (subst h; simp at h2) <;> (rw [h2])
theorem RKs.find {G : Gd} {H : Hp} {I : Ix} {k : Kd} {q : Key} (ek : kOf k = some q) : ∀ {ws : List (Kd × W)} {vs : List (Key × V)} {w : W}, RKs G H I ws vs → findK ws k = some w → ∃ v, valV vs q = some v ∧ RW G H I w v
  | [], _, _, _, e => by simp [findK] at e
  | (p, x) :: ws, _, w, h, f => by
    obtain ⟨r, v, t, rfl, e2, h1, h2⟩ := h.inv
    unfold findK at f
    unfold valV
    by_cases hp : p = k
    · subst hp
      rw [ek] at e2; cases e2
      simp at f ⊢
      subst f
      exact h1
    · have hq : ¬ r = q := fun z => hp (kOf_inj (e2.trans (congrArg some z)) ek)
      simp only [List.find?_cons, hp, decide_false] at f
      simp only [List.find?_cons, hq, decide_false]
      exact RKs.find ek h2 f

theorem RNs.nil {G : Gd} {H : Hp} {I : Ix} : RNs G H I [] [] := by rw [RNs]
theorem RNs.cons {G : Gd} {H : Hp} {I : Ix} {k : Kd} {b : Addr} {w : W} {ws : List (Kd × W)} {v : V} {vs : List Ent} (e : KAt G.K H k (.ref b) ∧ dpK k ≤ 8) (h : RW G H I w v) (r : RNs G H I ws vs) : RNs G H I ((k, w) :: ws) ((k, b, v) :: vs) := by
  rw [RNs]; exact ⟨b, v, vs, rfl, e, h, r⟩
theorem RNs.inv {G : Gd} {H : Hp} {I : Ix} {k : Kd} {w : W} {ws : List (Kd × W)} {vs : List Ent} (h : RNs G H I ((k, w) :: ws) vs) : ∃ b v t, vs = (k, b, v) :: t ∧ (KAt G.K H k (.ref b) ∧ dpK k ≤ 8) ∧ RW G H I w v ∧ RNs G H I ws t := by
  rw [RNs] at h; exact h
theorem RNs.inv0 {G : Gd} {H : Hp} {I : Ix} {vs : List Ent} (h : RNs G H I [] vs) : vs = [] := by
  rw [RNs] at h; exact h
theorem RNs.len {G : Gd} {H : Hp} {I : Ix} : ∀ {ws : List (Kd × W)} {vs : List Ent}, RNs G H I ws vs → ws.length = vs.length
  | [], _, h => by rw [h.inv0]; rfl
  | (_, _) :: ws, _, h => by obtain ⟨b, v, t, rfl, _, _, h2⟩ := h.inv; simp [RNs.len h2]
theorem RNs.keys {G : Gd} {H : Hp} {I : Ix} : ∀ {ws : List (Kd × W)} {vs : List Ent}, RNs G H I ws vs → KeysAt G.K H vs
  | [], _, h => by rw [h.inv0]; intro x hx; cases hx
  | (_, _) :: ws, _, h => by
    obtain ⟨b, v, t, rfl, e, _, h2⟩ := h.inv
    intro x hx
    rcases List.mem_cons.mp hx with rfl | hx
    · exact e
    · exact RNs.keys h2 x hx
theorem RNs.find {G : Gd} {H : Hp} {I : Ix} {k : Kd} : ∀ {ws : List (Kd × W)} {vs : List Ent}, RNs G H I ws vs → (∀ w, findK ws k = some w → ∃ v, findN vs k = some v ∧ RW G H I w v) ∧ (findK ws k = none → findN vs k = none)
  | [], _, h => by rw [h.inv0]; exact ⟨fun w e => by simp [findK] at e, fun _ => rfl⟩
  | (p, x) :: ws, _, h => by
    obtain ⟨b, v, t, rfl, e2, h1, h2⟩ := h.inv
    unfold findK findN
    rw [List.find?_cons, List.find?_cons]
    by_cases hp : p = k
    · rw [decide_eq_true hp]
      exact ⟨fun w e => by cases e; exact ⟨v, rfl, h1⟩, fun e => by cases e⟩
    · rw [decide_eq_false hp]
      exact RNs.find h2
theorem RNs.put {G : Gd} {H : Hp} {I : Ix} {k : Kd} {b : Addr} {w : W} {v : V} (e : KAt G.K H k (.ref b) ∧ dpK k ≤ 8) (hw : RW G H I w v) {ws : List (Kd × W)} {vs : List Ent} (h : RNs G H I ws vs) : RNs G H I (putW ws k w) (putX vs k b v) := by
  have has : ∀ {ws : List (Kd × W)} {vs : List Ent}, RNs G H I ws vs → (ws.any fun kv => decide (kv.1 = k)) = hasX vs k := by
    intro ws
    induction ws with
    | nil => intro vs h; rw [h.inv0]; rfl
    | cons p ws ih =>
      intro vs h
      obtain ⟨p, x⟩ := p
      obtain ⟨c, u, t, rfl, _, _, h2⟩ := h.inv
      unfold hasX
      rw [List.any_cons, List.any_cons, ih h2]
      rfl
  have mp : ∀ {ws : List (Kd × W)} {vs : List Ent}, RNs G H I ws vs → RNs G H I (ws.map fun kv => if kv.1 = k then (kv.1, w) else kv) (vs.map fun x => if x.1 = k then (x.1, x.2.1, v) else x) := by
    intro ws
    induction ws with
    | nil => intro vs h; rw [h.inv0]; exact .nil
    | cons p ws ih =>
      intro vs h
      obtain ⟨p, x⟩ := p
      obtain ⟨c, u, t, rfl, q1, q2, h2⟩ := h.inv
      rw [List.map_cons, List.map_cons]
      by_cases hp : p = k
      · rw [if_pos hp, if_pos hp]; exact .cons q1 hw (ih h2)
      · rw [if_neg hp, if_neg hp]; exact .cons q1 q2 (ih h2)
  have sn : ∀ {ws : List (Kd × W)} {vs : List Ent}, RNs G H I ws vs → RNs G H I (ws ++ [(k, w)]) (vs ++ [(k, b, v)]) := by
    intro ws
    induction ws with
    | nil => intro vs h; rw [h.inv0]; exact .cons e hw .nil
    | cons p ws ih =>
      intro vs h
      obtain ⟨p, x⟩ := p
      obtain ⟨c, u, t, rfl, q1, q2, h2⟩ := h.inv
      exact .cons q1 q2 (ih h2)
  unfold putW putX
  rw [has h]
  split
  · exact mp h
  · exact sn h
def RO (G : Gd) (H : Hp) (I : Ix) (a : Addr) : O → Prop
  | .lst ws => ∃ vs, H a = some (.lst vs) ∧ RWs G H I ws vs
  | .dct ws => ∃ vs, H a = some (.dK vs) ∧ RKs G H I ws vs
  | .dcn ws => ∃ es, H a = some (ndO G.w a es) ∧ RNs G H I ws es
  | .ins C ws => ∃ c dx vs, G.mg C = some (.ref c) ∧ H a = some (.ins c dx vs) ∧ RFs G H I ws vs
theorem RO.some {G : Gd} {H : Hp} {I : Ix} {a : Addr} {o : O} (h : RO G H I a o) : ∃ u, H a = some u ∧ isM u = true := by
  cases o with
  | lst ws => obtain ⟨vs, e, _⟩ := h; exact ⟨_, e, rfl⟩
  | dct ws => obtain ⟨vs, e, _⟩ := h; exact ⟨_, e, rfl⟩
  | dcn ws => obtain ⟨vs, e, _⟩ := h; exact ⟨_, e, rfl⟩
  | ins _ _ => obtain ⟨_, _, vs, _, e, _⟩ := h; exact ⟨_, e, rfl⟩
theorem RO.mv {G : Gd} {H H' : Hp} {I I' : Ix} {a : Addr} {o : O} (k : Mv H I H' I') (e : H' a = H a) (h : RO G H I a o) : RO G H' I' a o := by
  cases o with
  | lst ws => obtain ⟨vs, q, r⟩ := h; exact ⟨vs, e.trans q, r.mv k⟩
  | dct ws => obtain ⟨vs, q, r⟩ := h; exact ⟨vs, e.trans q, r.mv k⟩
  | dcn ws => obtain ⟨vs, q, r⟩ := h; exact ⟨vs, e.trans q, r.mv k⟩
  | ins _ _ => obtain ⟨c, dx, vs, m, q, r⟩ := h; exact ⟨c, dx, vs, m, e.trans q, r.mv k⟩
theorem RO.mono {G : Gd} {H H' : Hp} {I I' : Ix} {a : Addr} {o : O} (k : Keep H I H' I') (e : H' a = H a) (h : RO G H I a o) : RO G H' I' a o := h.mv k.mv e

structure Rel (G : Gd) (H : Hp) (I : Ix) (S : So) : Prop where
  len : I.st.length = S.length
  nd : ∀ (i j : Nat) (a : Addr), I.st[i]? = some a → I.st[j]? = some a → i = j
  obj : ∀ (i : Nat) (o : O) (a : Addr), S[i]? = some o → I.st[i]? = some a → RO G H I a o
  bt : ∀ a, a ∈ I.bz ∨ a ∈ I.bd → H a ≠ none ∧ a ∉ I.st
theorem Rel.addr {G : Gd} {H : Hp} {I : Ix} {S : So} (r : Rel G H I S) {i : Nat} {o : O} (h : S[i]? = some o) : ∃ a, I.st[i]? = some a ∧ RO G H I a o := by
  obtain ⟨hl, _⟩ := List.getElem?_eq_some_iff.mp h
  have hi : i < I.st.length := by rw [r.len]; exact hl
  exact ⟨I.st[i], List.getElem?_eq_getElem hi, r.obj i o _ h (List.getElem?_eq_getElem hi)⟩
theorem Rel.there {G : Gd} {H : Hp} {I : Ix} {S : So} (r : Rel G H I S) {i : Nat} {a : Addr} (h : I.st[i]? = some a) : ∃ u, H a = some u ∧ isM u = true := by
  obtain ⟨hl, _⟩ := List.getElem?_eq_some_iff.mp h
  have hi : i < S.length := by rw [← r.len]; exact hl
  exact (r.obj i S[i] a (List.getElem?_eq_getElem hi) h).some
theorem Rel.thereM {G : Gd} {H : Hp} {I : Ix} {S : So} (r : Rel G H I S) {a : Addr} (h : a ∈ I.st) : ∃ u, H a = some u ∧ isM u = true := by
  obtain ⟨i, hi⟩ := List.getElem?_of_mem h
  exact r.there hi
/-- what is new stands apart -/
theorem Rel.fresh {G : Gd} {H : Hp} {I : Ix} {S : So} (r : Rel G H I S) {p : Addr} (h : H p = none) (t : Bool) : Out I t p :=
  ⟨fun z => (by obtain ⟨u, q, _⟩ := r.thereM z; rw [h] at q; cases q), fun z => (r.bt p (.inr z)).1 h, fun _ z => (r.bt p (.inl z)).1 h⟩
theorem upd_tr {H : Hp} {p a : Addr} {u : HO} (h : H a ≠ none) : upd H p u a ≠ none := by
  unfold upd; split
  · simp
  · exact h
/-- a new thing that the store does not know -/
theorem Rel.junk {G : Gd} {H : Hp} {I : Ix} {S : So} (r : Rel G H I S) {p : Addr} {u : HO} (h : H p = none) : Rel G (upd H p u) I S :=
  ⟨r.len, r.nd, fun i o a e1 e2 => (r.obj i o a e1 e2).mono (Keep.junk h) (by
    obtain ⟨u, q, _⟩ := r.there e2
    rw [upd_ne (ne_of_none q h)]), fun a z => ⟨upd_tr (r.bt a z).1, (r.bt a z).2⟩⟩
/-- a new thing of the store -/
theorem Rel.new {G : Gd} {H : Hp} {I : Ix} {S : So} (r : Rel G H I S) {p : Addr} {u : HO} {o : O} (h : H p = none) (n : RO G (upd H p u) (I.add p) p o) : Rel G (upd H p u) (I.add p) (S ++ [o]) := by
  have hp : ∀ (i : Nat), I.st[i]? ≠ some p := fun i e => by
    obtain ⟨u, q, _⟩ := r.there e
    rw [h] at q; cases q
  have look : ∀ (i : Nat) (a : Addr), (I.st ++ [p])[i]? = some a → I.st[i]? = some a ∨ (i = I.st.length ∧ a = p) := fun i a e => by
    by_cases hi : i < I.st.length
    · rw [List.getElem?_append_left hi] at e; exact .inl e
    · rw [List.getElem?_append_right (by omega)] at e
      have : i - I.st.length = 0 := by
        cases q : i - I.st.length with
        | zero => rfl
        | succ m => rw [q] at e; simp at e
      rw [this] at e
      simp at e
      exact .inr ⟨by omega, e.symm⟩
  refine ⟨by simp [Ix.add, r.len], fun i j a e1 e2 => ?_, fun i ob a e1 e2 => ?_, fun a z => ⟨upd_tr (r.bt a z).1, fun q => (List.mem_append.mp q).elim (r.bt a z).2 fun q => by rw [List.mem_singleton] at q; subst q; exact (r.bt a z).1 h⟩⟩
  · rcases look i a e1 with q1 | ⟨q1, z1⟩ <;> rcases look j a e2 with q2 | ⟨q2, z2⟩
    · exact r.nd i j a q1 q2
    · subst z2; exact absurd q1 (hp i)
    · subst z1; exact absurd q2 (hp j)
    · omega
  · rcases look i a e2 with q | ⟨q, z⟩
    · have hi : i < S.length := by
        rw [← r.len]; exact (List.getElem?_eq_some_iff.mp q).1
      rw [List.getElem?_append_left hi] at e1
      exact (r.obj i ob a e1 q).mono (Keep.new h) (by
        obtain ⟨u, q', _⟩ := r.there q
        rw [upd_ne (ne_of_none q' h)])
    · subst z
      rw [q, r.len, List.getElem?_append_right (Nat.le_refl _)] at e1
      simp at e1
      subst e1
      exact n
/-- a thing of the store is written -/
theorem Rel.put {G : Gd} {H : Hp} {I : Ix} {S : So} (r : Rel G H I S) {i : Nat} {a : Addr} {u : HO} {o : O} (e : I.st[i]? = some a) (n : RO G (upd H a u) I a o) : Rel G (upd H a u) I (S.set i o) := by
  obtain ⟨w, hw, m⟩ := r.there e
  refine ⟨by simp [r.len], r.nd, fun j ob b e1 e2 => ?_, fun b z => ⟨upd_tr (r.bt b z).1, (r.bt b z).2⟩⟩
  by_cases hj : j = i
  · subst hj
    rw [e] at e2; cases e2
    have hl : j < S.length := by rw [← r.len]; exact (List.getElem?_eq_some_iff.mp e).1
    rw [List.getElem?_set_self hl] at e1
    cases e1
    exact n
  · rw [List.getElem?_set_ne (Ne.symm hj)] at e1
    have hb : b ≠ a := fun z => by subst z; exact hj (r.nd j i b e2 e)
    exact (r.obj j ob b e1 e2).mono (Keep.upd hw m (List.mem_of_getElem? e)) (upd_ne hb)
theorem Rel.keepPut {G : Gd} {H : Hp} {I : Ix} {S : So} (r : Rel G H I S) {i : Nat} {a : Addr} {u : HO} (e : I.st[i]? = some a) : Keep H I (upd H a u) I := by
  obtain ⟨w, hw, m⟩ := r.there e
  exact Keep.upd hw m (List.mem_of_getElem? e)

/-! ### what is being built -/
def Ix.bld (I : Ix) (D : Addr) : Ix := ⟨I.st, I.bz, D :: I.bd⟩
def Ix.unb (I : Ix) : Ix := ⟨I.st, I.bz, I.bd.tail⟩
theorem Mv.bld {H : Hp} {I : Ix} {D : Addr} {o : HO} (h : H D = none) : Mv H I (upd H D o) (I.bld D) :=
  ⟨List.prefix_refl _, fun a xs e => by rw [upd_ne (ne_of_none e h)]; exact e, fun a ob u e => by rw [upd_ne (ne_of_none e h)]; exact e, fun a u t e x => ⟨by rw [upd_ne (ne_of_none e h)]; exact e, x.st, fun z => (List.mem_cons.mp z).elim (ne_of_none e h) x.bd, x.bz⟩⟩
theorem Rel.bld {G : Gd} {H : Hp} {I : Ix} {S : So} (r : Rel G H I S) {D : Addr} {u : HO} (h : H D = none) : Rel G (upd H D u) (I.bld D) S :=
  ⟨r.len, r.nd, fun i o a e1 e2 => (r.obj i o a e1 e2).mv (Mv.bld h) (by
    obtain ⟨u, q, _⟩ := r.there e2
    rw [upd_ne (ne_of_none q h)]), fun a z => by
      by_cases e : a = D
      · subst e
        exact ⟨by rw [upd_same]; simp, fun q => by obtain ⟨_, q2, _⟩ := r.thereM q; rw [h] at q2; cases q2⟩
      · have z2 : a ∈ I.bz ∨ a ∈ I.bd := z.imp id fun q => (List.mem_cons.mp q).resolve_left e
        exact ⟨upd_tr (r.bt a z2).1, (r.bt a z2).2⟩⟩
theorem Mv.unb {H H' : Hp} {I : Ix} {D : Addr} {B : List Addr} {u : HO} (hI : I.bd = D :: B) (h : H D = some u) (m : isM u = true) (o : ∀ a, a ≠ D → H' a = H a) : Mv H I H' I.unb :=
  ⟨List.prefix_refl _, fun a xs e => by rw [o a fun z => by subst z; rw [h] at e; cases e; cases m]; exact e, fun a ob w e => by rw [o a fun z => by subst z; rw [h] at e; cases e; cases m]; exact e,
   fun a w t e x => by
    have n : a ≠ D := fun z => x.bd (by rw [hI, z]; exact List.mem_cons_self)
    exact ⟨by rw [o a n]; exact e, x.st, fun z => x.bd (by rw [hI]; unfold Ix.unb at z; rw [hI] at z; exact List.mem_cons_of_mem _ z), x.bz⟩⟩
theorem Rel.unb {G : Gd} {H H' : Hp} {I : Ix} {S : So} (r : Rel G H I S) {D : Addr} {B : List Addr} {u : HO} (hI : I.bd = D :: B) (h : H D = some u) (m : isM u = true) (o : ∀ a, a ≠ D → H' a = H a) (hn : D ∉ I.bz ∧ D ∉ B) : Rel G H' I.unb S :=
  ⟨r.len, r.nd, fun i ob a e1 e2 => (r.obj i ob a e1 e2).mv (Mv.unb hI h m o) (o a fun z => (r.bt D (.inr (by rw [hI]; exact List.mem_cons_self))).2 (by subst z; exact List.mem_of_getElem? e2)), fun a z => by
    have z2 : a ∈ I.bz ∨ a ∈ I.bd := z.imp id fun q => by unfold Ix.unb at q; rw [hI] at q ⊢; exact List.mem_cons_of_mem _ q
    refine ⟨?_, (r.bt a z2).2⟩
    by_cases e : a = D
    · subst e
      exact absurd (z.elim (fun q => .inl q) fun q => .inr (by unfold Ix.unb at q; rw [hI] at q; exact q)) (fun q : a ∈ I.bz ∨ a ∈ B => q.elim hn.1 hn.2)
    · rw [o a e]; exact (r.bt a z2).1⟩
theorem Keep.unb {H H2 H' : Hp} {I I2 : Ix} {D : Addr} {u : HO} (hD : H D = none) (k : Keep (L2.upd H D u) (I.bld D) H2 I2) (o : ∀ a, a ≠ D → H' a = H2 a) : Keep H I H' I2.unb := by
  have hb : I2.bd = D :: I.bd := k.bd
  refine ⟨k.st, k.bz, by unfold Ix.unb; rw [hb]; rfl, fun a w e n => ?_, fun a xs e => ?_, fun a ob w e => ?_, fun a w e => ?_⟩ <;> have ne := ne_of_none e hD
  · rw [o a ne]; exact k.kp a w (by rw [upd_ne ne]; exact e) n
  · rw [o a ne]; exact k.tup a xs (by rw [upd_ne ne]; exact e)
  · rw [o a ne]; exact k.frz a ob w (by rw [upd_ne ne]; exact e)
  · rw [o a ne]; exact k.xd a w (by rw [upd_ne ne]; exact e)
/-- what is being built is still as it was left -/
theorem Keep.here {H H2 : Hp} {I I2 : Ix} {S : So} {G : Gd} {D : Addr} {u : HO} (r : Rel G H I S) (hD : H D = none) (k : Keep (L2.upd H D u) (I.bld D) H2 I2) : H2 D = some u :=
  (k.kp D u upd_same fun q => by obtain ⟨_, q2, _⟩ := r.thereM q; rw [hD] at q2; cases q2).1

/-- what is being built is changed -/
theorem Mv.chg {H H' : Hp} {I : Ix} {D : Addr} {u : HO} (hI : D ∈ I.bd) (h : H D = some u) (m : isM u = true) (o : ∀ a, a ≠ D → H' a = H a) : Mv H I H' I :=
  ⟨List.prefix_refl _, fun a xs e => by rw [o a fun z => by subst z; rw [h] at e; cases e; cases m]; exact e, fun a ob w e => by rw [o a fun z => by subst z; rw [h] at e; cases e; cases m]; exact e,
   fun a w t e x => ⟨by rw [o a fun z => x.bd (by rw [z]; exact hI)]; exact e, x⟩⟩
theorem Rel.chg {G : Gd} {H H' : Hp} {I : Ix} {S : So} (r : Rel G H I S) {D : Addr} {u : HO} (hI : D ∈ I.bd) (h : H D = some u) (m : isM u = true) (o : ∀ a, a ≠ D → H' a = H a) (hn : H' D ≠ none) : Rel G H' I S :=
  ⟨r.len, r.nd, fun i ob a e1 e2 => (r.obj i ob a e1 e2).mv (Mv.chg hI h m o) (o a fun z => (r.bt D (.inr hI)).2 (by subst z; exact List.mem_of_getElem? e2)), fun a z => by
    refine ⟨?_, (r.bt a z).2⟩
    by_cases e : a = D
    · subst e; exact hn
    · rw [o a e]; exact (r.bt a z).1⟩
theorem Keep.chg {H H2 : Hp} {I I2 : Ix} {D : Addr} {u u' : HO} (hD : D ∉ I.st) (h : H D = some u) (m : isM u = true) (k : Keep (L2.upd H D u') I H2 I2) : Keep H I (L2.upd H2 D u) I2 := by
  refine ⟨k.st, k.bz, k.bd, fun a w e n => ?_, fun a xs e => ?_, fun a ob w e => ?_, fun a w e => ?_⟩
  · by_cases z : a = D
    · subst z
      rw [h] at e; cases e
      exact ⟨upd_same, (k.kp a u' upd_same n).2⟩
    · rw [upd_ne z]
      exact k.kp a w (by rw [upd_ne z]; exact e) n
  · have z : a ≠ D := fun z => by subst z; rw [h] at e; cases e; cases m
    rw [upd_ne z]; exact k.tup a xs (by rw [upd_ne z]; exact e)
  · have z : a ≠ D := fun z => by subst z; rw [h] at e; cases e; cases m
    rw [upd_ne z]; exact k.frz a ob w (by rw [upd_ne z]; exact e)
  · have z : a ≠ D := fun z => by subst z; rw [h] at e; cases e; cases m
    rw [upd_ne z]; exact k.xd a w (by rw [upd_ne z]; exact e)
theorem Rel.apart {G : Gd} {H : Hp} {I : Ix} {S : So} (r : Rel G H I S) {D : Addr} (hD : H D = none) : D ∉ I.bz ∧ D ∉ I.bd := ⟨fun z => (r.bt D (.inl z)).1 hD, fun z => (r.bt D (.inr z)).1 hD⟩
/-- the heap without D -/
def del (H : Hp) (D : Addr) : Hp := fun b => if b = D then none else H b
theorem del_at {H : Hp} {D : Addr} : del H D D = none := if_pos rfl
theorem del_ne {H : Hp} {D b : Addr} (n : b ≠ D) : del H D b = H b := if_neg n
theorem upd_del {H : Hp} {D : Addr} {o : HO} : L2.upd (del H D) D o = L2.upd H D o := by
  funext b
  unfold L2.upd del
  split <;> rfl

/-- the names' values -/
structure RS (G : Gd) (H : Hp) (I : Ix) (e : En) (σ : St) : Prop where
  len : e.length = σ.length
  get : ∀ (i : Nat) (w : W), e[i]? = some (some w) → ∃ v, σ[i]? = some (some v) ∧ RW G H I w v
theorem RS.mono {G : Gd} {H H' : Hp} {I I' : Ix} {e : En} {σ : St} (k : Keep H I H' I') (r : RS G H I e σ) : RS G H' I' e σ :=
  ⟨r.len, fun i w h => let ⟨v, a, b⟩ := r.get i w h; ⟨v, a, b.mono k⟩⟩
theorem RS.mv {G : Gd} {H H' : Hp} {I I' : Ix} {e : En} {σ : St} (k : Mv H I H' I') (r : RS G H I e σ) : RS G H' I' e σ :=
  ⟨r.len, fun i w h => let ⟨v, a, b⟩ := r.get i w h; ⟨v, a, b.mv k⟩⟩
theorem RS.put {G : Gd} {H : Hp} {I : Ix} {e : En} {σ : St} {w : W} {v : V} (r : RS G H I e σ) (h : RW G H I w v) (i : Nat) : RS G H I (e.set i (some w)) (σ.set i (some v)) := by
  refine ⟨by simp [r.len], fun j x q => ?_⟩
  by_cases hj : j = i
  · subst hj
    by_cases hl : j < e.length
    · rw [List.getElem?_set_self hl] at q
      cases q
      exact ⟨v, List.getElem?_set_self (by rw [← r.len]; exact hl), h⟩
    · rw [List.getElem?_eq_none (by simpa using hl)] at q; cases q
  · rw [List.getElem?_set_ne (Ne.symm hj)] at q ⊢
    exact r.get j x q
theorem RS.wipe {G : Gd} {H : Hp} {I : Ix} {e : En} {σ : St} (r : RS G H I e σ) : ∀ vs : List Nat, RS G H I (wipeW e vs) (wipe σ vs)
  | [] => r
  | x :: vs => by
    have q := RS.wipe r vs
    unfold wipeW L2.wipe
    refine ⟨by simp [q.len], fun j w z => ?_⟩
    by_cases hj : j = x
    · subst hj
      by_cases hl : j < (wipeW e vs).length
      · rw [List.getElem?_set_self hl] at z; cases z
      · rw [List.getElem?_eq_none (by simpa using hl)] at z; cases z
    · rw [List.getElem?_set_ne (Ne.symm hj)] at z ⊢
      exact q.get j w z
end Y

/-! What the operations answer. -/
namespace Y
open PySem PySem.Spec L2

/-- what is wanted of an error that leaves -/
abbrev EK := Er → Hp → Ix → Prop
/-- what is wanted of an answer: it, the store, the heap, the addresses -/
abbrev AK (α : Type) := α → So → Hp → Ix → Prop
def RE (G : Gd) (E : EK) (H : Hp) (I : Ix) {α : Type} (k : AK α) : Res α → Prop
  | .ok a S => ∀ H' I', Keep H I H' I' → Rel G H' I' S → k a S H' I'
  | .exn x S => ∀ H' I', Keep H I H' I' → Rel G H' I' S → E x H' I'
  | .bad => False
section
variable {G : Gd} {E : EK} {H H' : Hp} {I I' : Ix} {α β : Type}
theorem RE.mono {k : AK α} {r : Res α} (hk : Keep H I H' I') (h : RE G E H I k r) : RE G E H' I' k r := by
  cases r with
  | ok a S => exact fun H2 I2 k2 => h H2 I2 (hk.trans k2)
  | exn x S => exact fun H2 I2 k2 => h H2 I2 (hk.trans k2)
  | bad => exact h
theorem RE.bind {k : AK β} {r : Res α} {f : α → So → Res β} (h : RE G E H I k (r.bind f)) : RE G E H I (fun a S H' I' => RE G E H' I' k (f a S)) r := by
  cases r with
  | ok a S => exact fun H2 I2 k2 _ => RE.mono k2 (show RE G E H I k (f a S) from h)
  | exn x S => exact h
  | bad => exact h
theorem RE.imp {k k' : AK α} {r : Res α} (h : RE G E H I k r) (q : ∀ a S H' I', Keep H I H' I' → Rel G H' I' S → k a S H' I' → k' a S H' I') : RE G E H I k' r := by
  cases r with
  | ok a S => exact fun H2 I2 k2 r2 => q a S H2 I2 k2 r2 (h H2 I2 k2 r2)
  | exn x S => exact h
  | bad => exact h
/-- the answer stands now -/
theorem RE.now {k : AK α} {a : α} {S : So} (h : RE G E H I k (.ok a S)) (r : Rel G H I S) : k a S H I := h H I (Keep.refl H I) r
end
def kV' (G : Gd) (Q : VK) : AK W := fun w _ H' I' => ∀ v, RW G H' I' w v → Q v H'
def kVs (G : Gd) (Q : List V → Hp → Prop) : AK (List W) := fun w _ H' I' => ∀ v, RWs G H' I' w v → Q v H'
def kB (Q : Bool → Hp → Prop) : AK Bool := fun b _ H' _ => Q b H'

section
variable {G : Gd} {E : EK} {H : Hp} {I : Ix} {S : So}
/-- a new list, a new dict, of the store -/
theorem new_lst {Q : VK} {ws : List W} {vs : List V} (r : Rel G H I S) (rw' : RWs G H I ws vs) (h : RE G E H I (kV' G Q) (new (.lst ws) S)) : ∀ p, H p = none → Q (.ref p) (upd H p (.lst vs)) := fun p hp => by
  have kn := Keep.new (I := I) (o := .lst vs) hp
  have r2 : Rel G (upd H p (.lst vs)) (I.add p) (S ++ [.lst ws]) := r.new hp ⟨vs, upd_same, rw'.mono kn⟩
  refine h _ _ kn r2 (.ref p) ?_
  unfold RW
  exact ⟨p, rfl, by rw [← r.len]; simp [Ix.add]⟩
theorem mk_lst {Q : VK} {m : Bool} {ws : List W} {vs : List V} (r : Rel G H I S) (rw' : RWs G H I ws vs) (h : RE G E H I (kV' G Q) (mk m ws S)) : ∀ p, H p = none → Q (.ref p) (upd H p (.lst vs)) := fun p hp => by
  cases m with
  | true => exact new_lst r rw' h p hp
  | false =>
    have kn := Keep.junk (I := I) (o := .lst vs) hp
    refine h _ _ kn (r.junk hp) (.ref p) ?_
    unfold RW
    exact ⟨p, vs, rfl, .inl ⟨upd_same, r.fresh hp false⟩, rw'.mono kn⟩
theorem mk_dct {Q : VK} {m : Bool} {ws : List (Kd × W)} {vs : List (Key × V)} (r : Rel G H I S) (rw' : RKs G H I ws vs) (h : RE G E H I (kV' G Q) (mkD m ws S)) : ∀ p, H p = none → Q (.ref p) (upd H p (.dK vs)) := fun p hp => by
  cases m with
  | true =>
    have kn := Keep.new (I := I) (o := .dK vs) hp
    have r2 : Rel G (upd H p (.dK vs)) (I.add p) (S ++ [.dct ws]) := r.new hp ⟨vs, upd_same, rw'.mono kn⟩
    refine h _ _ kn r2 (.ref p) ?_
    unfold RW
    exact ⟨p, rfl, by rw [← r.len]; simp [Ix.add]⟩
  | false =>
    have kn := Keep.junk (I := I) (o := .dK vs) hp
    refine h _ _ kn (r.junk hp) (.ref p) ?_
    unfold RW
    exact ⟨p, vs, rfl, ⟨upd_same, r.fresh hp false⟩, rw'.mono kn⟩
theorem put_lst {k : AK Unit} {ws : List W} {vs : List V} {i : Nat} {a : Addr} (r : Rel G H I S) (e : I.st[i]? = some a) (rw' : RWs G H I ws vs) (h : RE G E H I k (.ok () (S.set i (.lst ws)))) :
    k () (S.set i (.lst ws)) (upd H a (.lst vs)) I := by
  have kn := r.keepPut (u := .lst vs) e
  exact h _ _ kn (r.put e ⟨vs, upd_same, rw'.mono kn⟩)

/-- the seq of a value, as the layer reads it -/
theorem lst_of {x : W} {v : V} {ws : List W} (r : Rel G H I S) (h : RW G H I x v) (e : lstOf x S = some ws) : ∃ a vs, v = .ref a ∧ SqL G.K H a vs ∧ RWs G H I ws vs := by
  unfold lstOf at e
  split at e
  · rename_i i
    split at e
    · rename_i xs hS
      cases e
      unfold RW at h
      obtain ⟨a, rfl, hi⟩ := h
      obtain ⟨vs, q, z⟩ := r.obj _ _ _ hS hi
      exact ⟨a, vs, rfl, .inl (.inl q), z⟩
    · cases e
  · rename_i t xs
    cases e
    unfold RW at h
    obtain ⟨a, vs, rfl, s, z⟩ := h
    exact ⟨a, vs, rfl, s.now, z⟩
  · cases e
theorem seq_of {x : W} {v : V} {ws : List W} (r : Rel G H I S) (h : RW G H I x v) (e : seqOf x S = some ws) : ∃ a vs, v = .ref a ∧ (SqL G.K H a vs ∨ SqT G.K H a vs) ∧ RWs G H I ws vs := by
  unfold seqOf at e
  split at e
  · cases e
    unfold RW at h
    obtain ⟨a, vs, rfl, s, z⟩ := h
    exact ⟨a, vs, rfl, .inr s, z⟩
  · obtain ⟨a, vs, e1, s, z⟩ := lst_of r h e
    exact ⟨a, vs, e1, .inl s, z⟩
theorem dct_of {x : W} {v : V} {ws : List (Kd × W)} (r : Rel G H I S) (h : RW G H I x v) (e : dctOf x S = some ws) : ∃ a vs, v = .ref a ∧ H a = some (.dK vs) ∧ RKs G H I ws vs := by
  unfold dctOf at e
  split at e
  · rename_i i
    split at e
    · rename_i xs hS
      cases e
      unfold RW at h
      obtain ⟨a, rfl, hi⟩ := h
      obtain ⟨vs, q, z⟩ := r.obj _ _ _ hS hi
      exact ⟨a, vs, rfl, q, z⟩
    · cases e
  · rename_i t xs
    cases e
    unfold RW at h
    obtain ⟨a, vs, rfl, s, z⟩ := h
    exact ⟨a, vs, rfl, s.1, z⟩
  · cases e

/-! ### truth -/
theorem truth_ok {x : W} {v : V} {b : Bool} (r : Rel G H I S) (h : RW G H I x v) (e : truth x S = some b) : TruV G.K v H b := by
  unfold truth at e
  cases x with
  | non => unfold RW at h; subst h; cases e; rfl
  | bl c => unfold RW at h; subst h; cases e; rfl
  | int i => unfold RW at h; subst h; cases e; rfl
  | str y =>
    unfold RW at h; subst h
    simp only at e
    split at e
    · rename_i hz
      cases e
      refine ⟨hz, ?_⟩
      cases q : y.length with
      | zero => rfl
      | succ n =>
        have h1 : ((n + 1 != 0) : Bool) = true := by simp
        have h2 : ((((n + 1 : Nat) : Int)) != 0) = true := by simp; omega
        rw [h1, h2]
    · cases e
  | tup xs =>
    unfold RW at h
    obtain ⟨a, vs, rfl, s, z⟩ := h
    cases e
    refine .inr (.inl ⟨vs, s, ?_⟩)
    have := z.len
    cases xs <;> cases vs <;> simp_all
  | fl t xs =>
    unfold RW at h
    obtain ⟨a, vs, rfl, s, z⟩ := h
    cases e
    refine .inl ⟨vs, s.now, ?_⟩
    have := z.len
    cases xs <;> cases vs <;> simp_all
  | fd t xs =>
    unfold RW at h
    obtain ⟨a, vs, rfl, s, z⟩ := h
    cases e
    refine .inr (.inr ⟨vs, s.1, ?_⟩)
    rw [z.empty]
  | fdn t xs => cases e
  | fins t C xs => cases e
  | ref i =>
    simp only at e
    split at e
    · rename_i xs hS
      cases e
      unfold RW at h
      obtain ⟨a, rfl, hi⟩ := h
      obtain ⟨vs, q, z⟩ := r.obj _ _ _ hS hi
      refine .inl ⟨vs, .of q, ?_⟩
      have := z.len
      cases xs <;> cases vs <;> simp_all
    · rename_i xs hS
      cases e
      unfold RW at h
      obtain ⟨a, rfl, hi⟩ := h
      obtain ⟨vs, q, z⟩ := r.obj _ _ _ hS hi
      refine .inr (.inr ⟨vs, q, ?_⟩)
      rw [z.empty]
    · cases e
  | ty n => cases e
  | glo n => cases e
end
end Y

/-! list + list, list * int, wherever the lists are to be read. -/
namespace Y
open PySem PySem.Spec L2
section
variable {X : Cx}
theorem op_catL : OpR X (binaryOp .Add) (fun x y H Q => ∃ l b xs zs, x = .ref l ∧ y = .ref b ∧ SqL X.K H l xs ∧ SqL X.K H b zs ∧ xs.length + zs.length ≤ sizeLine ∧ ∀ p, H p = none → Q (.ref p) (upd H p (.lst (xs ++ zs)))) := by
  intro pins s σ H x y v u Q I rx ry h
  obtain ⟨l, b, xs, zs, rfl, rfl, hH, hB, hz, q⟩ := h
  cases rx
  cases ry
  obtain ⟨its, r, ⟨⟨cls, dd, data, sl⟩, n, ho, hc, _, hd⟩, _⟩ := I.list hH
  obtain ⟨its2, r2, ⟨⟨cls2, dd2, data2, sl2⟩, n2, ho2, hc2, _, hd2⟩, _⟩ := I.list hB
  simp only at hc hd hc2 hd2
  subst hc hd hc2 hd2
  have e : its.toArray ++ its2.toArray = (its ++ its2).toArray := by simp
  refine concat_meets ⟨_, ho, rfl⟩ ⟨_, ho2, rfl⟩ noFill_list_add seq_list_add PySem.F.slot_list_add PySem.F.entry_list_add (PySem.F.args_list_add_2 _ _) (PyProof.Rows.list_addW l b its.toArray its2.toArray n n2 dd dd2 sl sl2 (by rw [List.size_toArray, List.size_toArray, ← r.length, ← r2.length]; exact hz)) ⟨ho, ho2, ?_⟩
  rw [e]
  exact ⟨.ref _, _, I.lnew (t' := s.toks) (r.append r2) (by rw [List.length_append]; omega), rfl, q _ I.fresh⟩
theorem op_repL : OpR X (binaryOp .Mult) (fun x y H Q => ∃ l k xs, x = .ref l ∧ y = .int k ∧ SqL X.K H l xs ∧ -(2 ^ 63) ≤ k ∧ k < 2 ^ 63 ∧ xs.length * k.toNat ≤ sizeLine ∧
  ∀ p, H p = none → Q (.ref p) (upd H p (.lst (List.replicate k.toNat xs).flatten))) := by
  intro pins s σ H x y v u Q I rx ry h
  obtain ⟨l, k, xs, rfl, rfl, hH, h1, h2, hz, q⟩ := h
  cases rx
  obtain ⟨t, rfl⟩ := ry
  obtain ⟨its, r, ⟨⟨cls, dd, data, sl⟩, n, ho, hc, _, hd⟩, _⟩ := I.list hH
  simp only at hc hd
  subst hc hd
  have hlen : its.toArray.size * k.toNat ≤ sizeLine := by rw [List.size_toArray, ← r.length]; exact hz
  have hcap : ¬ its.toArray.size * k.toNat > (2 ^ 63 - 1) / 8 := by
    have : (sizeLine : Nat) ≤ (2 ^ 63 - 1) / 8 := by decide
    omega
  have hfit : ¬ (!Builtin.List.listFitsIndex k) = true := by
    rw [fitsIndex_both h1 h2]
    exact Bool.false_ne_true
  have hlong : ¬ Builtin.List.listTooLong (its.toArray.size * k.toNat) = true := by
    rw [notLongL hlen]
    exact Bool.false_ne_true
  refine wpAny_binaryOp_repeat_ref (T := "list") (U := "int") (by decide) ⟨_, ho, rfl⟩ (fun s' => typeIs_int s' k t) noFill_list_mul PySem.F.fills_int_mul PySem.F.slot_int_rmul repeat_list PySem.F.slot_int_index.lookup
    (call_meets PySem.F.slot_int_rmul (typeIs_int s k t) PySem.F.entry_int_rmul (PySem.F.args_int_rmul_2 _ _) (lm_int_rmul_list_any k t l its.toArray n dd sl)
      ⟨ho, rfl, ⟨_, ho, rfl⟩, call_meets PySem.F.slot_list_mul ⟨_, ho, rfl⟩ PySem.F.entry_list_mul (PySem.F.args_list_mul_2 _ _)
        (lm_list_mul_any l its.toArray n dd sl k t hfit hcap hlong)
        ⟨ho, ?_⟩⟩)
  rw [PyProof.Rows.listMul_foldl_if]
  exact ⟨.ref _, _, I.lnew (t' := s.toks) (r.rep k.toNat) (by rw [PyProof.Rows.lm_len_rep_flat, Nat.mul_comm]; exact hz), rfl, q _ I.fresh⟩
end
end Y

open PyProof.Rows hiding St RelV
/-! What the operators answer. -/
namespace Y
open PySem PySem.Spec L2

theorem bits_lt {i j : Int} (h : Builtin.Int.intBits i + Builtin.Int.intBits j ≤ 134217728) : IntMulOk i j := by
  unfold IntMulOk
  intro z
  rw [Bool.and_eq_true] at z
  have z2 := z.2
  unfold Builtin.Int.intTooBig at z2
  have z3 := of_decide_eq_true z2
  have e : bitsLine = 134217728 := by decide
  rw [e] at z3
  omega
section
variable {X : Cx}
theorem op_mulZ : OpR X (binaryOp .Mult) (rI (fun i j => Builtin.Int.intBits i + Builtin.Int.intBits j ≤ 134217728) fun i j => .int (i * j)) :=
  opI fun _ _ _ _ _ _ _ hc q => PyProof.Rows.mul_int q (bits_lt hc)
theorem op_powZ : OpR X (binaryOp .Pow) (rI (fun i j => 0 ≤ j ∧ (Builtin.Int.intBits i : Int) * j ≤ 134217728) fun i j => .int (i ^ j.toNat)) :=
  opI fun _ _ _ _ _ _ _ hc q => PyProof.Rows.pow_int hc.1 (by have := hc.2; simpa using this) q
variable {G : Gd} {E : EK}
def rZ (G : Gd) (E : EK) (f : W → W → So → Res W) : R2 := fun x y H Q => ∃ I S u v, Rel G H I S ∧ RW G H I u x ∧ RW G H I v y ∧ RE G E H I (kV' G Q) (f u v S)
theorem kV_now {H : Hp} {I : Ix} {S : So} {Q : VK} {w : W} {v : V} (h : RE G E H I (kV' G Q) (.ok w S)) (r : Rel G H I S) (q : RW G H I w v) : Q v H := RE.now (k := kV' G Q) h r v q
theorem op_Z (hG : G.K = X.K) (m : Bool) (op : Operator) : OpR X (binaryOp op) (rZ G E (binop m op)) := by
  rintro pins s σ H x y v u Q J rx ry ⟨I, S, a, b, r, ha, hb, h⟩
  unfold binop at h
  split at h
  · unfold RW at ha hb; subst ha hb
    exact op_add pins s σ H _ _ v u Q J rx ry ⟨_, _, rfl, rfl, kV_now h r (by unfold RW; rfl)⟩
  · unfold RW at ha hb; subst ha hb
    exact op_sub pins s σ H _ _ v u Q J rx ry ⟨_, _, rfl, rfl, kV_now h r (by unfold RW; rfl)⟩
  · unfold RW at ha hb; subst ha hb
    split at h
    · exact op_mulZ pins s σ H _ _ v u Q J rx ry ⟨_, _, rfl, rfl, by assumption, kV_now h r (by unfold RW; rfl)⟩
    · exact False.elim h
  · unfold RW at ha hb; subst ha hb
    split at h
    · exact op_mod pins s σ H _ _ v u Q J rx ry ⟨_, _, rfl, rfl, by assumption, kV_now h r (by unfold RW; rfl)⟩
    · exact False.elim h
  · unfold RW at ha hb; subst ha hb
    split at h
    · exact op_fdiv pins s σ H _ _ v u Q J rx ry ⟨_, _, rfl, rfl, by assumption, kV_now h r (by unfold RW; rfl)⟩
    · exact False.elim h
  · unfold RW at ha hb; subst ha hb
    split at h
    · exact op_powZ pins s σ H _ _ v u Q J rx ry ⟨_, _, rfl, rfl, by assumption, kV_now h r (by unfold RW; rfl)⟩
    · exact False.elim h
  · unfold RW at ha hb; subst ha hb
    split at h
    · exact op_add_str pins s σ H _ _ v u Q J rx ry ⟨_, _, rfl, rfl, by assumption, kV_now h r (by unfold RW; rfl)⟩
    · exact False.elim h
  · rename_i xs ys
    unfold RW at ha hb
    obtain ⟨p, vs, rfl, s1, z1⟩ := ha
    obtain ⟨q, us, rfl, s2, z2⟩ := hb
    split at h
    · rename_i hl
      rw [hG] at s1 s2
      have hl2 : vs.length + us.length ≤ sizeLine := by rw [← z1.len, ← z2.len]; exact hl
      refine op_catA pins s σ H _ _ v u Q J rx ry ⟨p, q, vs, us, rfl, rfl, s1, s2, hl2, fun e => ?_, fun _ e => ?_, fun _ _ t ht => ?_⟩
      · subst e
        have e2 : xs = [] := by cases xs with | nil => rfl | cons _ _ => have := z1.len; simp at this
        subst e2
        exact kV_now h r (by unfold RW; exact ⟨q, us, rfl, by rw [hG]; exact s2, z2⟩)
      · subst e
        have e2 : ys = [] := by cases ys with | nil => rfl | cons _ _ => have := z2.len; simp at this
        subst e2
        rw [List.append_nil] at h
        exact kV_now h r (by unfold RW; exact ⟨p, vs, rfl, by rw [hG]; exact s1, z1⟩)
      · have kn := Keep.junk (I := I) (o := .tup (vs ++ us)) ht
        refine h _ I kn (r.junk ht) _ ?_
        unfold RW
        exact ⟨t, vs ++ us, rfl, .of upd_same, (z1.append z2).mono kn⟩
    · exact False.elim h
  · split at h
    · rename_i xs ys e1 e2
      obtain ⟨p, vs, rfl, q1, z1⟩ := lst_of r ha e1
      obtain ⟨q, us, rfl, q2, z2⟩ := lst_of r hb e2
      rw [hG] at q1 q2
      split at h
      · rename_i hl
        exact op_catL pins s σ H _ _ v u Q J rx ry ⟨p, q, vs, us, rfl, rfl, q1, q2, by rw [← z1.len, ← z2.len]; exact hl, mk_lst r (z1.append z2) h⟩
      · exact False.elim h
    · exact False.elim h
  · split at h
    · rename_i xs e1
      obtain ⟨p, vs, rfl, q1, z1⟩ := lst_of r ha e1
      unfold RW at hb
      subst hb
      rw [hG] at q1
      split at h
      · rename_i hl
        exact op_repL pins s σ H _ _ v u Q J rx ry ⟨p, _, vs, rfl, rfl, q1, hl.1, hl.2.1, by rw [← z1.len]; exact hl.2.2, mk_lst r (z1.flat _) h⟩
      · exact False.elim h
    · exact False.elim h
  · exact False.elim h

/-! ### data -/
end
def kDK : Key → PyData
  | .inl i => .int i
  | .inr x => .str x
theorem kD_of {k : Kd} {q : Key} (h : kOf k = some q) : kD k = kDK q := by
  cases k <;> simp [kOf] at h <;> (subst h) <;> (unfold kD; rfl)
mutual
/-- what a value of the heap reads as (dicts too) -/
inductive Dq (K : PySem.W.Frag) (H : Hp) : V → PyData → Prop
  | non : Dq K H .non .none
  | bl (b : Bool) : Dq K H (.bl b) (.bool b)
  | int (i : Int) : Dq K H (.int i) (.int i)
  | str (x : Str) : Dq K H (.str x) (.str x)
  | lst {a : Addr} {xs : List V} {ds : List PyData} : SqL K H a xs → DqAll K H xs ds → Dq K H (.ref a) (.list ds)
  | tup {a : Addr} {xs : List V} {ds : List PyData} : SqT K H a xs → DqAll K H xs ds → Dq K H (.ref a) (.tuple ds)
  | dct {a : Addr} {kvs : List (Key × V)} {ds : List (PyData × PyData)} : H a = some (.dK kvs) → DqKv K H kvs ds → Dq K H (.ref a) (.dict ds)
inductive DqAll (K : PySem.W.Frag) (H : Hp) : List V → List PyData → Prop
  | nil : DqAll K H [] []
  | cons {v : V} {vs : List V} {d : PyData} {ds : List PyData} : Dq K H v d → DqAll K H vs ds → DqAll K H (v :: vs) (d :: ds)
inductive DqKv (K : PySem.W.Frag) (H : Hp) : List (Key × V) → List (PyData × PyData) → Prop
  | nil : DqKv K H [] []
  | cons {k : Key} {v : V} {vs : List (Key × V)} {d : PyData} {ds : List (PyData × PyData)} : Dq K H v d → DqKv K H vs ds → DqKv K H ((k, v) :: vs) ((kDK k, d) :: ds)
end
section
variable {G : Gd} {H : Hp} {I : Ix} {S : So} {f : Nat → Option PyData}
mutual
theorem dW_ok (hf : ∀ (i : Nat) (d : PyData) (a : Addr), f i = some d → I.st[i]? = some a → Dq G.K H (.ref a) d) : ∀ (w : W) (v : V) (d : PyData), RW G H I w v → dW f w = some d → Dq G.K H v d
  | .non, _, _, h, e => by unfold RW at h; unfold dW at e; subst h; cases e; exact .non
  | .bl b, _, _, h, e => by unfold RW at h; unfold dW at e; subst h; cases e; exact .bl b
  | .int b, _, _, h, e => by unfold RW at h; unfold dW at e; subst h; cases e; exact .int b
  | .str b, _, _, h, e => by unfold RW at h; unfold dW at e; subst h; cases e; exact .str b
  | .ty _, _, _, _, e => by unfold dW at e; cases e
  | .glo _, _, _, _, e => by unfold dW at e; cases e
  | .ref i, _, _, h, e => by
    unfold RW at h; unfold dW at e
    obtain ⟨a, rfl, hi⟩ := h
    exact hf i _ a e hi
  | .tup ws, _, _, h, e => by
    unfold RW at h; unfold dW at e
    obtain ⟨a, vs, rfl, s, z⟩ := h
    obtain ⟨ds, e1, rfl⟩ := Option.map_eq_some_iff.mp e
    exact .tup s (dWs_ok hf ws vs ds z e1)
  | .fl t ws, _, _, h, e => by
    unfold RW at h; unfold dW at e
    obtain ⟨a, vs, rfl, s, z⟩ := h
    obtain ⟨ds, e1, rfl⟩ := Option.map_eq_some_iff.mp e
    exact .lst s.now (dWs_ok hf ws vs ds z e1)
  | .fd t ws, _, _, h, e => by
    unfold RW at h; unfold dW at e
    obtain ⟨a, vs, rfl, s, z⟩ := h
    obtain ⟨ds, e1, rfl⟩ := Option.map_eq_some_iff.mp e
    exact .dct s.1 (dKvs_ok hf ws vs ds z e1)
  | .fins _ _ _, _, _, _, e => by unfold dW at e; cases e
theorem dWs_ok (hf : ∀ (i : Nat) (d : PyData) (a : Addr), f i = some d → I.st[i]? = some a → Dq G.K H (.ref a) d) : ∀ (ws : List W) (vs : List V) (ds : List PyData), RWs G H I ws vs → dWs f ws = some ds → DqAll G.K H vs ds
  | [], _, _, h, e => by rw [h.inv0]; unfold dWs at e; cases e; exact .nil
  | w :: ws, _, _, h, e => by
    obtain ⟨v, r, rfl, h1, h2⟩ := h.inv
    unfold dWs at e
    split at e
    · cases e
    · rename_i d hd
      split at e
      · cases e
      · rename_i ds hds
        cases e
        exact .cons (dW_ok hf w v d h1 hd) (dWs_ok hf ws r ds h2 hds)
theorem dKvs_ok (hf : ∀ (i : Nat) (d : PyData) (a : Addr), f i = some d → I.st[i]? = some a → Dq G.K H (.ref a) d) : ∀ (ws : List (Kd × W)) (vs : List (Key × V)) (ds : List (PyData × PyData)), RKs G H I ws vs → dKvs f ws = some ds → DqKv G.K H vs ds
  | [], _, _, h, e => by rw [h.inv0]; unfold dKvs at e; cases e; exact .nil
  | (k, w) :: ws, _, _, h, e => by
    obtain ⟨q, v, r, rfl, ek, h1, h2⟩ := h.inv
    unfold dKvs at e
    split at e
    · cases e
    · rename_i d hd
      split at e
      · cases e
      · rename_i ds hds
        cases e
        rw [kD_of ek]
        exact .cons (dW_ok hf w v d h1 hd) (dKvs_ok hf ws r ds h2 hds)
end
theorem dR_ok (r : Rel G H I S) : ∀ (n i : Nat) (d : PyData) (a : Addr), dR S n i = some d → I.st[i]? = some a → Dq G.K H (.ref a) d
  | 0, _, _, _, e, _ => by unfold dR at e; cases e
  | n + 1, i, d, a, e, hi => by
    unfold dR at e
    split at e
    · rename_i xs hS
      obtain ⟨vs, q, z⟩ := r.obj _ _ _ hS hi
      obtain ⟨ds, e1, rfl⟩ := Option.map_eq_some_iff.mp e
      exact .lst (.inl (.inl q)) (dWs_ok (dR_ok r n) _ _ _ z e1)
    · rename_i xs hS
      obtain ⟨vs, q, z⟩ := r.obj _ _ _ hS hi
      obtain ⟨ds, e1, rfl⟩ := Option.map_eq_some_iff.mp e
      exact .dct q (dKvs_ok (dR_ok r n) _ _ _ z e1)
    · cases e
theorem toD_ok (r : Rel G H I S) {w : W} {v : V} {d : PyData} (h : RW G H I w v) (e : toD S w = some d) : Dq G.K H v d := dW_ok (dR_ok r deepS) w v d h e
end
section
variable {X : Cx} {pins : List (Addr × Obj)} {σ : St} {H : Hp} {s : Shared}
theorem kD_reads {h : Heap} {k : Key} {v : Value} (e : keyIs k v = true) : Reads h v (kDK k) [] := by
  rcases keyIs_shape e with ⟨i, t, e1, e2⟩ | ⟨x, t, e1, e2⟩
  · subst e1 e2; exact Reads.int i t
  · subst e1 e2; exact Reads.str x t
theorem pairs_keys {P : Program} {w : World} {h : Heap} {es : List DictEntry} {vs : List (Key × Value)} (p : Pairs (mixKind P w) es vs) : ∀ {kvs : List (Key × V)} {ds : List (PyData × PyData)}, KV kvs vs → DqKv X.K H kvs ds →
    ReadsAll h (es.map (·.key)) (ds.map (·.1)) [] := by
  induction p with
  | nil => intro kvs ds k d; cases k; cases d; exact .nil
  | @cons e kv es vs h1 h2 _ ih =>
    intro kvs ds k d
    cases k with
    | cons q r =>
      cases d with
      | cons q2 r2 =>
        have h3 : keyIs kv.1 e.key = true := h1
        rw [← q.1] at h3
        exact ReadsAll.cons (kD_reads h3) (ih r r2)
/-- the object that stands at sysModules is a dict, and no thing of ours -/
def Sys (base : Heap) : Prop := ∃ o es ep, base.get? sysModules = some o ∧ o.data = .dict es ep
theorem ne_sys (J : Inv X pins σ H s) (y : Sys X.base) {a : Addr} {u : HO} (h : H a = some u) : a ≠ sysModules := by
  obtain ⟨o, es, ep, e, _⟩ := y
  rintro rfl
  rw [(J.bs _ _ e).2] at h; cases h
theorem ne_sysL (J : Inv X pins σ H s) (y : Sys X.base) {a : Addr} {xs : List V} (h : SqL X.K H a xs) : a ≠ sysModules := by
  rcases h with (h | ⟨o, h⟩) | ⟨o, its, n, e, c, _, d, _⟩
  · exact ne_sys J y h
  · exact ne_sys J y h
  · obtain ⟨o2, es, ep, e2, d2⟩ := y
    rintro rfl
    have e3 := J.mod.kin _ _ e
    rw [e2] at e3; cases e3
    rw [d] at d2; cases d2
mutual
theorem Dq.reads (J : Inv X pins σ H s) (y : Sys X.base) : ∀ (d : PyData) (v : V) (u : Value), Dq X.K H v d → RelV v u → ∃ as, Reads s.heap u d as ∧ sysModules ∉ as
  | .none, _, _, h, r => by cases h; cases r; exact ⟨_, Reads.none, by simp⟩
  | .bool b, _, _, h, r => by cases h; cases r; exact ⟨_, Reads.bool b, by simp⟩
  | .int i, _, _, h, r => by cases h; obtain ⟨t, rfl⟩ := r; exact ⟨_, Reads.int i t, by simp⟩
  | .str x, _, _, h, r => by cases h; obtain ⟨t, rfl⟩ := r; exact ⟨_, Reads.str x t, by simp⟩
  | .list ds, _, _, h, r => by
    cases h with
    | lst hs ha =>
      cases r
      obtain ⟨its, rv, ⟨o, n, ho, hc, _, hd⟩, _⟩ := J.list hs
      obtain ⟨as, hr, hn⟩ := Dq.readsAll J y ds _ its ha rv
      refine ⟨_, Reads.list ho hc hd hr, ?_⟩
      simp only [List.mem_cons, not_or]
      exact ⟨(ne_sysL J y hs).symm, hn⟩
  | .tuple ds, _, _, h, r => by
    cases h with
    | tup hs ha =>
      cases r
      obtain ⟨its, rv, ⟨o, ho, hc, n, hd⟩, _⟩ := J.tuple hs
      obtain ⟨as, hr, hn⟩ := Dq.readsAll J y ds _ its ha rv
      exact ⟨_, Reads.tuple ho hc hd hr, hn⟩
  | .dict ds, _, _, h, r => by
    cases h with
    | dct hs ha =>
      cases r
      obtain ⟨_, hS, vs, rk, o, es, ep, ho, hx, hd, _, hp, _⟩ := J.hok _ _ hs
      obtain ⟨bs, hr, hn⟩ := Dq.readsKv J y ds _ vs _ ha rk hp
      refine ⟨_, Reads.dict ho hx.1 hd (pairs_keys hp rk ha) hr, ?_⟩
      simp only [List.append_nil, List.mem_append, List.mem_cons, List.not_mem_nil, or_false, not_or]
      exact ⟨(ne_sys J y hs).symm, hn⟩
theorem Dq.readsAll (J : Inv X pins σ H s) (y : Sys X.base) : ∀ (ds : List PyData) (vs : List V) (us : List Value), DqAll X.K H vs ds → Vals vs us → ∃ as, ReadsAll s.heap us ds as ∧ sysModules ∉ as
  | [], _, _, h, r => by cases h; cases r; exact ⟨_, ReadsAll.nil, by simp⟩
  | d :: ds, _, _, h, r => by
    cases h with
    | cons h1 h2 =>
      cases r with
      | cons r1 r2 =>
        obtain ⟨as, q1, n1⟩ := Dq.reads J y d _ _ h1 r1
        obtain ⟨bs, q2, n2⟩ := Dq.readsAll J y ds _ _ h2 r2
        exact ⟨_, ReadsAll.cons q1 q2, by simp only [List.mem_append, not_or]; exact ⟨n1, n2⟩⟩
theorem Dq.readsKv (J : Inv X pins σ H s) (y : Sys X.base) : ∀ (ds : List (PyData × PyData)) (kvs : List (Key × V)) (vs : List (Key × Value)) (es : List DictEntry), DqKv X.K H kvs ds → KV kvs vs → Pairs (mixKind X.prog X.w) es vs →
    ∃ as, ReadsAll s.heap (es.map (·.val)) (ds.map (·.2)) as ∧ sysModules ∉ as
  | [], _, _, _, h, r, p => by cases h; cases r; cases p; exact ⟨_, ReadsAll.nil, by simp⟩
  | (k, d) :: ds, _, _, _, h, r, p => by
    cases h with
    | cons h1 h2 =>
      cases r with
      | cons r1 r2 =>
        cases p with
        | cons p1 p2 p3 =>
          obtain ⟨as, q1, n1⟩ := Dq.reads J y d _ _ h1 (p2 ▸ r1.2)
          obtain ⟨bs, q2, n2⟩ := Dq.readsKv J y ds _ _ _ h2 r2 p3
          exact ⟨_, ReadsAll.cons q1 q2, by simp only [List.mem_append, not_or]; exact ⟨n1, n2⟩⟩
end
/-- repr(x) of data -/
theorem call_reprD (hg : X.A.guards = some []) (hu : X.A.units + 200 < cLine) (y : Sys X.base) : CallR X (.builtin "repr") (fun xs H Q => ∃ x d, xs = [x] ∧ Dq X.K H x d ∧ d.showable = true ∧ d.shown.length ≤ sizeLine ∧ d.depth ≤ 150 ∧ Q (.str d.shown) H) := by
  rintro pins s σ H xs us Q J r ⟨x, d, rfl, hd, h1, h2, h3, q⟩
  obtain ⟨u, rfl, rx⟩ := vals1 r
  obtain ⟨as, hr, hn⟩ := Dq.reads J y d x u hd rx
  have fin : ∀ h' t tk, (∀ b o, s.heap.get? b = some o → h'.get? b = some o) → EP X pins σ Q (.str d.shown t) { s with heap := h', toks := tk } := fun h' t tk k => ⟨.str d.shown, H, J.kept k, ⟨_, rfl⟩, q⟩
  cases hr with
  | none => exact PySem.P.repr_of_none (fin s.heap _ _ fun _ _ e => e)
  | bool b => exact PySem.P.repr_of_bool (fin s.heap _ _ fun _ _ e => e)
  | int i t => exact PySem.P.repr_of_int (by unfold PyData.showable at h1; exact of_decide_eq_true h1) (fin s.heap _ _ fun _ _ e => e)
  | str x t => exact PySem.P.repr_of_str (fin s.heap _ _ fun _ _ e => e) h2
  | list a1 a2 a3 a4 => exact repr_of_reads' (.list a1 a2 a3 a4) h1 (fun _ => hn) hg (by omega) (fun _ _ e => e) (fun h' u tk k => fin h' u tk k) h2
  | tuple a1 a2 a3 a4 => exact repr_of_reads' (.tuple a1 a2 a3 a4) h1 (fun _ => hn) hg (by omega) (fun _ _ e => e) (fun h' u tk k => fin h' u tk k) h2
  | dict a1 a2 a3 a4 a5 => exact repr_of_reads' (.dict a1 a2 a3 a4 a5) h1 (fun _ => hn) hg (by omega) (fun _ _ e => e) (fun h' u tk k => fin h' u tk k) h2
end
end Y

/-! A dict is no text. -/
namespace Y
open PySem PySem.Spec L2
section
open PySem.SeqAt AutoSeq1 MeetsSeq
theorem str_eq_dict (b : Str) (u : Tok) (l : Addr) (c : Value) (es : Array DictEntry) (ep : Nat) (dd : Option Addr) (sl : Array (Option Value)) :
    Meets (Builtin.«str.__eq__» ⟨[.str b u, .ref l], []⟩) (fun _ R s => s.heap.get? l = some { cls := c, dict := dd, data := .dict es ep, slots := sl } ∧ R (.ok (.ret .notImplemented)) s) :=
  .of_wp fun prog w A R s h => by obtain ⟨hp, g, d, tk, os⟩ := s; obtain ⟨hl, h⟩ := h; wp_walk using wpAny_loadPart' hl, wpAny_load hl; exact ⟨_, rfl, h⟩
theorem str_ne_dict (b : Str) (u : Tok) (l : Addr) (c : Value) (es : Array DictEntry) (ep : Nat) (dd : Option Addr) (sl : Array (Option Value)) :
    Meets (Builtin.«str.__ne__» ⟨[.str b u, .ref l], []⟩) (fun _ R s => s.heap.get? l = some { cls := c, dict := dd, data := .dict es ep, slots := sl } ∧ R (.ok (.ret .notImplemented)) s) :=
  .of_wp fun prog w A R s h => by obtain ⟨hp, g, d, tk, os⟩ := s; obtain ⟨hl, h⟩ := h; wp_walk using wpAny_loadPart' hl, wpAny_load hl; exact ⟨_, rfl, h⟩
section
variable {prog : Program} {w : World} {A : Around} {E : Value → Shared → Prop} {s : Shared} {Q : Value → Shared → Prop}
theorem dict_eq_str {a : Addr} {b : Str} {u : Tok} (ta : s.TypeIs (.ref a) "dict") (q : Q .notImplemented s) : wpAny (model prog w) A (call (.builtin "dict.__eq__") [.ref a, .str b u]) Q E s := by
  refine wpAny_call_entry PySem.F.slot_dict_eq ta PySem.F.entry_dict_eq ?_ (PySem.F.args_dict_eq_2 _ _)
  show wpAny _ _ (Builtin.Dict.dictSlotArgs "__eq__" ⟨[.ref a, .str b u], []⟩ >>= _) _ _ s
  refine wpAny_bind ?_
  unfold Builtin.Dict.dictSlotArgs
  refine wpAny_bind (wpAny_notOrdered_dict ta ?_)
  show wpAny _ _ (pure (Value.ref a, Value.str b u)) _ _ s
  refine wpAny_pure ?_
  refine wpAny_bind (wpAny_isInstance (T := "str") (typeIs_str s b u) PySem.F.sub_str_dict ?_)
  simp only [Bool.not_false, if_true]
  exact wpAny_bind (wpAny_rule (wpAny_pure ⟨_, rfl, q⟩))
theorem dict_ne_str {a : Addr} {b : Str} {u : Tok} (ta : s.TypeIs (.ref a) "dict") (q : Q .notImplemented s) : wpAny (model prog w) A (call (.builtin "dict.__ne__") [.ref a, .str b u]) Q E s := by
  refine wpAny_call_entry PySem.F.slot_dict_ne ta PySem.F.entry_dict_ne ?_ (PySem.F.args_dict_ne_2 _ _)
  show wpAny _ _ (Builtin.Dict.dictSlotArgs "__ne__" ⟨[.ref a, .str b u], []⟩ >>= _) _ _ s
  refine wpAny_bind ?_
  unfold Builtin.Dict.dictSlotArgs
  refine wpAny_bind (wpAny_notOrdered_dict ta ?_)
  show wpAny _ _ (pure (Value.ref a, Value.str b u)) _ _ s
  refine wpAny_pure ?_
  refine wpAny_bind (wpAny_isInstance (T := "str") (typeIs_str s b u) PySem.F.sub_str_dict ?_)
  simp only [Bool.not_false, if_true]
  exact wpAny_bind (wpAny_rule (wpAny_pure ⟨_, rfl, q⟩))
theorem sub_str_dict' : isSubtype (.type "str") (.type "dict") = pure false := PySem.F.sub_str_dict
theorem rc_dict_str {a : Addr} {b : Str} {u : Tok} {es : Array DictEntry} {ep : Nat} {o : Obj} (ho : s.heap.get? a = some o) (hc : o.cls = .type "dict") (hd : o.data = .dict es ep) (hu : A.units < cLine) (q : Q (.bool false) s) : wpAny (model prog w) A (richCompare .Eq (.ref a) (.str b u)) Q E s := by
  obtain ⟨cls, dd, data, sl⟩ := o
  simp only at hc hd
  subst hc hd
  have ta : s.TypeIs (.ref a) "dict" := ⟨_, ho, rfl⟩
  exact rc_eq_decline_or (k := false) ta (typeIs_str s b u) (by decide) PySem.F.sub_str_dict PySem.F.slot_dict_eq F.slot_str_eq_refl
    (fun _ hq => dict_eq_str ta hq)
    (fun _ hq => call_meets F.slot_str_eq_refl (typeIs_str s b u) F.entry_str_eq (F.args_str_eq_2 _ _) (str_eq_dict b u a (.type "dict") es ep dd sl) ⟨ho, hq⟩)
    (fun _ hq => wpAny_of_eq (rfl : isSame (.ref a) (.str b u) = pure false) hq) (.inr hu) q
theorem rcN_dict_str {a : Addr} {b : Str} {u : Tok} {es : Array DictEntry} {ep : Nat} {o : Obj} (ho : s.heap.get? a = some o) (hc : o.cls = .type "dict") (hd : o.data = .dict es ep) (hu : A.units < cLine) (q : Q (.bool true) s) : wpAny (model prog w) A (richCompare .NotEq (.ref a) (.str b u)) Q E s := by
  obtain ⟨cls, dd, data, sl⟩ := o
  simp only at hc hd
  subst hc hd
  have ta : s.TypeIs (.ref a) "dict" := ⟨_, ho, rfl⟩
  exact rc_ne_decline_or (k := false) ta (typeIs_str s b u) (by decide) PySem.F.sub_str_dict PySem.F.slot_dict_ne F.slot_str_ne_refl
    (fun _ hq => dict_ne_str ta hq)
    (fun _ hq => call_meets F.slot_str_ne_refl (typeIs_str s b u) F.entry_str_ne (F.args_str_ne_2 _ _) (str_ne_dict b u a (.type "dict") es ep dd sl) ⟨ho, hq⟩)
    (fun _ hq => wpAny_of_eq (rfl : isSame (.ref a) (.str b u) = pure false) hq) (.inr hu) q
end
end
end Y

/-! What the comparisons, the built-ins and the methods answer. -/
namespace Y
open PySem PySem.Spec L2
section
variable {X : Cx} {G : Gd} {E : EK}
/-- a comparison by values -/
def rC (G : Gd) (f : W → W → So → Option Bool) : R2 := fun x y H Q => ∃ I S u v b, Rel G H I S ∧ RW G H I u x ∧ RW G H I v y ∧ f u v S = some b ∧ Q (.bl b) H
theorem DqAll.noDict {K : PySem.W.Frag} {H : Hp} {v : V} {d : PyData} (h : Dq K H v d) (q : SeqAt.shaped d = true) : d.hasDict = false := PyData.hasDict_of_canLay d (SeqAt.canLay_of_shaped q)
theorem op_eqZ (hu : X.A.units + 64 < cLine) (y : Sys X.base) : OpR X (compareOp .Eq) (fun x z H Q => ∃ d e, Dq X.K H x d ∧ Dq X.K H z e ∧ SeqAt.shaped d = true ∧ SeqAt.shaped e = true ∧ Q (.bl (PyData.eqv d e)) H) := by
  rintro pins s σ H x z v u Q J rx rz ⟨d, e, hd, he, sd, se, q⟩
  obtain ⟨as, r1, _⟩ := Dq.reads J y d x v hd rx
  obtain ⟨bs, r2, _⟩ := Dq.reads J y e z u he rz
  exact SeqAt.compareEq_shaped r1 r2 sd se hu ⟨.bl _, H, J, rfl, q⟩
theorem op_neZ (hu : X.A.units + 64 < cLine) (y : Sys X.base) : OpR X (compareOp .NotEq) (fun x z H Q => ∃ d e, Dq X.K H x d ∧ Dq X.K H z e ∧ SeqAt.shaped d = true ∧ SeqAt.shaped e = true ∧ Q (.bl (!PyData.eqv d e)) H) := by
  rintro pins s σ H x z v u Q J rx rz ⟨d, e, hd, he, sd, se, q⟩
  obtain ⟨as, r1, _⟩ := Dq.reads J y d x v hd rx
  obtain ⟨bs, r2, _⟩ := Dq.reads J y e z u he rz
  exact SeqAt.compareNe_shaped r1 r2 sd se hu ⟨.bl _, H, J, rfl, q⟩
theorem eqD_ok {H : Hp} {I : Ix} {S : So} {x y : W} {v u : V} {b : Bool} (r : Rel G H I S) (h1 : RW G H I x v) (h2 : RW G H I y u) (e : eqD x y S = some b) :
    ∃ d e, Dq G.K H v d ∧ Dq G.K H u e ∧ SeqAt.shaped d = true ∧ SeqAt.shaped e = true ∧ b = PyData.eqv d e := by
  unfold eqD at e
  split at e
  · rename_i d1 d2 e1 e2
    split at e
    · rename_i hs
      rw [Bool.and_eq_true] at hs
      cases e
      exact ⟨d1, d2, toD_ok r h1 e1, toD_ok r h2 e2, hs.1, hs.2, rfl⟩
    · cases e
  · cases e
theorem flat_ok {H : Hp} {I : Ix} {x : W} {v : V} (h : RW G H I x v) (f : flatW x = true) : flatV v = true := by
  cases x <;> simp only [flatW] at f <;> (try cases f) <;> (unfold RW at h; subst h; rfl)
theorem eqV_ok {H : Hp} {I : Ix} {x y : W} {v u : V} (h1 : RW G H I x v) (h2 : RW G H I y u) (f1 : flatW x = true) (f2 : flatW y = true) : eqV v u = eqW x y := by
  cases x <;> simp only [flatW] at f1 <;> (try cases f1) <;> (unfold RW at h1; subst h1) <;>
    (cases y <;> simp only [flatW] at f2 <;> (try cases f2) <;> (unfold RW at h2; subst h2; first | rfl | (simp [eqV, eqW]; done) | skip))
theorem RWs.allFlat {H : Hp} {I : Ix} : ∀ {ws : List W} {vs : List V}, RWs G H I ws vs → ws.all flatW = true → vs.all flatV = true
  | [], _, h, _ => by rw [h.inv0]; rfl
  | w :: ws, _, h, f => by
    obtain ⟨v, r, rfl, h1, h2⟩ := h.inv
    rw [List.all_cons, Bool.and_eq_true] at f ⊢
    exact ⟨flat_ok h1 f.1, RWs.allFlat h2 f.2⟩
theorem RWs.inV {H : Hp} {I : Ix} {x : W} {v : V} (hx : RW G H I x v) (fx : flatW x = true) : ∀ {ws : List W} {vs : List V}, RWs G H I ws vs → ws.all flatW = true → L2.inV v vs = inW x ws
  | [], _, h, _ => by rw [h.inv0]; rfl
  | w :: ws, _, h, f => by
    obtain ⟨u, r, rfl, h1, h2⟩ := h.inv
    rw [List.all_cons, Bool.and_eq_true] at f
    have q := RWs.inV hx fx h2 f.2
    unfold L2.inV inW at q ⊢
    rw [List.any_cons, List.any_cons, q, eqV_ok h1 hx f.1 fx]
theorem isN_ok {H : Hp} {I : Ix} {x : W} {v : V} (h : RW G H I x v) : decide (v = .non) = (match x with | .non => true | _ => false) := by
  cases x <;> unfold RW at h
  case non => subst h; rfl
  case bl => subst h; rfl
  case int => subst h; rfl
  case str => subst h; rfl
  case ty => subst h; rfl
  case tup => obtain ⟨a, vs, rfl, _⟩ := h; rfl
  case fl => obtain ⟨a, vs, rfl, _⟩ := h; rfl
  case fd => obtain ⟨a, vs, rfl, _⟩ := h; rfl
  case fdn => obtain ⟨a, es, rfl, _⟩ := h; rfl
  case fins => obtain ⟨a, c, dx, vs, rfl, _⟩ := h; rfl
  case ref => obtain ⟨a, rfl, _⟩ := h; rfl
  case glo => obtain ⟨a, rfl, _⟩ := h; rfl
theorem op_eqL (hu : X.A.units + 64 < cLine) : OpR X (compareOp .Eq) (fun x z H Q => ∃ a b xs ys, x = .ref a ∧ z = .ref b ∧ SqL X.K H a xs ∧ SqL X.K H b ys ∧ xs.length ≠ ys.length ∧ Q (.bl false) H) := by
  rintro pins s σ H x z v u Q J rx rz ⟨a, b, xs, ys, rfl, rfl, ha, hb, hl, q⟩
  cases rx
  cases rz
  obtain ⟨its, r, ⟨⟨cls, dd, data, sl⟩, n, ho, hc, _, hd⟩, _⟩ := J.list ha
  obtain ⟨its2, r2, ⟨⟨cls2, dd2, data2, sl2⟩, n2, ho2, hc2, _, hd2⟩, _⟩ := J.list hb
  simp only at hc hd hc2 hd2
  subst hc hd hc2 hd2
  have ta : s.TypeIs (.ref a) "list" := ⟨_, ho, rfl⟩
  have tb : s.TypeIs (.ref b) "list" := ⟨_, ho2, rfl⟩
  have hne : (its.toArray.size != its2.toArray.size) = true := by
    rw [List.size_toArray, List.size_toArray, ← r.length, ← r2.length]
    simpa using hl
  exact wpAny_richCompare_same_room (op := .Eq) ta tb PySem.F.slot_list_eq (call_meets PySem.F.slot_list_eq ta PySem.F.entry_list_eq (PySem.F.args_list_eq_2 _ _) (SeqAt.list_eq_lengthsAt a b its.toArray its2.toArray n n2 dd dd2 sl sl2 hne)
    ⟨ho, ho2, show Value.bool false ≠ Value.notImplemented ∧ _ from ⟨(fun x => nomatch x), ⟨.bl false, H, J, rfl, q⟩⟩⟩) (by omega)
theorem op_neL (hu : X.A.units + 64 < cLine) : OpR X (compareOp .NotEq) (fun x z H Q => ∃ a b xs ys, x = .ref a ∧ z = .ref b ∧ SqL X.K H a xs ∧ SqL X.K H b ys ∧ xs.length ≠ ys.length ∧ Q (.bl true) H) := by
  rintro pins s σ H x z v u Q J rx rz ⟨a, b, xs, ys, rfl, rfl, ha, hb, hl, q⟩
  cases rx
  cases rz
  obtain ⟨its, r, ⟨⟨cls, dd, data, sl⟩, n, ho, hc, _, hd⟩, _⟩ := J.list ha
  obtain ⟨its2, r2, ⟨⟨cls2, dd2, data2, sl2⟩, n2, ho2, hc2, _, hd2⟩, _⟩ := J.list hb
  simp only at hc hd hc2 hd2
  subst hc hd hc2 hd2
  have ta : s.TypeIs (.ref a) "list" := ⟨_, ho, rfl⟩
  have tb : s.TypeIs (.ref b) "list" := ⟨_, ho2, rfl⟩
  have hne : (its.toArray.size != its2.toArray.size) = true := by
    rw [List.size_toArray, List.size_toArray, ← r.length, ← r2.length]
    simpa using hl
  exact wpAny_richCompare_same_room (op := .NotEq) ta tb PySem.F.slot_list_ne (call_meets PySem.F.slot_list_ne ta PySem.F.entry_list_ne (PySem.F.args_list_ne_2 _ _) (SeqAt.list_ne_lengthsAt a b its.toArray its2.toArray n n2 dd dd2 sl sl2 hne)
    ⟨ho, ho2, show Value.bool true ≠ Value.notImplemented ∧ _ from ⟨(fun x => nomatch x), ⟨.bl true, H, J, rfl, q⟩⟩⟩) (by omega)
theorem lenD_ok {H : Hp} {I : Ix} {S : So} {x y : W} {v u : V} (r : Rel G H I S) (h1 : RW G H I x v) (h2 : RW G H I y u) (e : lenD x y S = true) : ∃ a b xs ys, v = .ref a ∧ u = .ref b ∧ SqL G.K H a xs ∧ SqL G.K H b ys ∧ xs.length ≠ ys.length := by
  unfold lenD at e
  split at e
  · rename_i a b e1 e2
    obtain ⟨p, vs, rfl, q1, z1⟩ := lst_of r h1 e1
    obtain ⟨q, us, rfl, q2, z2⟩ := lst_of r h2 e2
    exact ⟨p, q, vs, us, rfl, rfl, q1, q2, by rw [← z1.len, ← z2.len]; simpa using e⟩
  · cases e
theorem op_inZ (hu : X.A.units + 65 < cLine) (y : Sys X.base) : OpR X (compareOp .In) (fun x z H Q => ∃ d ds, Dq X.K H x d ∧ (Dq X.K H z (.list ds) ∧ SeqAt.shaped (.list ds) = true ∨ Dq X.K H z (.tuple ds) ∧ SeqAt.shaped (.tuple ds) = true) ∧ SeqAt.shaped d = true ∧ Q (.bl (ds.any fun z => PyData.eqv z d)) H) := by
  rintro pins s σ H x z v u Q J rx rz ⟨d, ds, hd, he, sd, q⟩
  obtain ⟨as, r1, _⟩ := Dq.reads J y d x v hd rx
  rcases he with ⟨he, se⟩ | ⟨he, se⟩
  · obtain ⟨bs, r2, _⟩ := Dq.reads J y (.list ds) z u he rz
    exact SeqAt.in_list_reads r2 r1 (SeqAt.canLay_of_shaped se) (SeqAt.canLay_of_shaped sd) (PyProof.Rows.room_in_shaped sd hu) ⟨.bl _, H, J, rfl, q⟩
  · obtain ⟨bs, r2, _⟩ := Dq.reads J y (.tuple ds) z u he rz
    exact SeqAt.in_tuple_reads r2 r1 (SeqAt.canLay_of_shaped se) (SeqAt.canLay_of_shaped sd) (PyProof.Rows.room_in_shaped sd hu) ⟨.bl _, H, J, rfl, q⟩
theorem op_niZ (hu : X.A.units + 65 < cLine) (y : Sys X.base) : OpR X (compareOp .NotIn) (fun x z H Q => ∃ d ds, Dq X.K H x d ∧ (Dq X.K H z (.list ds) ∧ SeqAt.shaped (.list ds) = true ∨ Dq X.K H z (.tuple ds) ∧ SeqAt.shaped (.tuple ds) = true) ∧ SeqAt.shaped d = true ∧ Q (.bl (!ds.any fun z => PyData.eqv z d)) H) := by
  rintro pins s σ H x z v u Q J rx rz ⟨d, ds, hd, he, sd, q⟩
  obtain ⟨as, r1, _⟩ := Dq.reads J y d x v hd rx
  rcases he with ⟨he, se⟩ | ⟨he, se⟩
  · obtain ⟨bs, r2, _⟩ := Dq.reads J y (.list ds) z u he rz
    exact SeqAt.notIn_list_reads r2 r1 (SeqAt.canLay_of_shaped se) (SeqAt.canLay_of_shaped sd) (PyProof.Rows.room_in_shaped sd hu) ⟨.bl _, H, J, rfl, q⟩
  · obtain ⟨bs, r2, _⟩ := Dq.reads J y (.tuple ds) z u he rz
    exact SeqAt.notIn_tuple_reads r2 r1 (SeqAt.canLay_of_shaped se) (SeqAt.canLay_of_shaped sd) (PyProof.Rows.room_in_shaped sd hu) ⟨.bl _, H, J, rfl, q⟩
theorem inD_ok {H : Hp} {I : Ix} {S : So} {x y : W} {v u : V} {b : Bool} (r : Rel G H I S) (h1 : RW G H I x v) (h2 : RW G H I y u) (e : inD x y S = some b) :
    ∃ d ds, Dq G.K H v d ∧ (Dq G.K H u (.list ds) ∧ SeqAt.shaped (.list ds) = true ∨ Dq G.K H u (.tuple ds) ∧ SeqAt.shaped (.tuple ds) = true) ∧ SeqAt.shaped d = true ∧ b = ds.any fun z => PyData.eqv z d := by
  unfold inD at e
  split at e
  · rename_i d1 d2 e1 e2
    split at e
    · rename_i hs
      rw [Bool.and_eq_true] at hs
      cases e
      exact ⟨d1, d2, toD_ok r h1 e1, .inl ⟨toD_ok r h2 e2, hs.2⟩, hs.1, rfl⟩
    · cases e
  · rename_i d1 d2 e1 e2
    split at e
    · rename_i hs
      rw [Bool.and_eq_true] at hs
      cases e
      exact ⟨d1, d2, toD_ok r h1 e1, .inr ⟨toD_ok r h2 e2, hs.2⟩, hs.1, rfl⟩
    · cases e
  · cases e
/-- what oddEq tells of the values -/
def Odd (K : PySem.W.Frag) (H : Hp) (v u : V) (b : Bool) : Prop :=
  (∃ a xs z, v = .ref a ∧ u = .str z ∧ (SqT K H a xs ∨ SqL K H a xs) ∧ b = false) ∨ (∃ a ks z, v = .ref a ∧ u = .str z ∧ H a = some (.dK ks) ∧ b = false) ∨ ∃ a c xs, v = .ref a ∧ u = .ref c ∧ SqT K H a xs ∧ SqT K H c [] ∧ b = xs.isEmpty
theorem odd_ok {H : Hp} {I : Ix} {S : So} {x y : W} {v u : V} {b : Bool} (r : Rel G H I S) (h1 : RW G H I x v) (h2 : RW G H I y u) (e : oddEq x y S = some b) : Odd G.K H v u b := by
  unfold oddEq at e
  split at e
  · split at e
    · rename_i xs
      cases e
      unfold RW at h1 h2
      obtain ⟨a, vs, rfl, s1, z1⟩ := h1
      obtain ⟨c, us, rfl, s2, z2⟩ := h2
      have : us = [] := z2.inv0
      subst this
      refine .inr (.inr ⟨a, c, vs, rfl, rfl, s1, s2, ?_⟩)
      have := z1.len
      cases xs <;> cases vs <;> first | rfl | cases this
    · cases e
  · split at e
    · rename_i xs
      cases e
      unfold RW at h1 h2
      obtain ⟨a, vs, rfl, s1, z1⟩ := h1
      exact .inl ⟨a, vs, _, rfl, h2, .inl s1, rfl⟩
    · split at e
      · rename_i hc
        cases e
        have h2q := h2
        unfold RW at h2q
        rw [Bool.or_eq_true] at hc
        rcases hc with hc | hc
        · obtain ⟨ws, ew⟩ := Option.isSome_iff_exists.mp hc
          obtain ⟨a, vs, rfl, q, _⟩ := lst_of r h1 ew
          exact .inl ⟨a, vs, _, rfl, h2q, .inr q, rfl⟩
        · obtain ⟨ws, ew⟩ := Option.isSome_iff_exists.mp hc
          obtain ⟨a, vs, rfl, q, _⟩ := dct_of r h1 ew
          exact .inr (.inl ⟨a, vs, _, rfl, h2q, q, rfl⟩)
      · cases e
  · cases e
theorem op_eqO (hu : X.A.units + 64 < cLine) : OpR X (compareOp .Eq) (fun x z H Q => ∃ b, Odd X.K H x z b ∧ Q (.bl b) H) := by
  rintro pins s σ H x z v u Q J rx rz ⟨b, h, q⟩
  have hu' : X.A.units < cLine := by omega
  rcases h with ⟨a, xs, y, rfl, rfl, h, rfl⟩ | ⟨a, ks, y, rfl, rfl, h, rfl⟩ | ⟨a, c, xs, rfl, rfl, h1, h2, rfl⟩
  · cases rx
    obtain ⟨t, rfl⟩ := rz
    rcases h with h | h
    · obtain ⟨its, rv, p, _⟩ := J.tuple h
      exact SeqAt.RcAt.tuple_str y t (show s.heap.IsTuple a its.toArray from p) hu' _ _ _ _ ⟨.bl false, H, J, rfl, q⟩
    · obtain ⟨its, rv, p, _⟩ := J.list h
      exact SeqAt.RcAt.list_str y t p.isList hu' _ _ _ _ ⟨.bl false, H, J, rfl, q⟩
  · cases rx
    obtain ⟨t, rfl⟩ := rz
    obtain ⟨_, _, vs, _, o, es, ep, ho, hc, hd, _⟩ := (show ObjOk X.prog X.w H s.heap a (.dK ks) from J.hok a _ h)
    exact rc_dict_str ho hc.1 hd hu' ⟨.bl false, H, J, rfl, q⟩
  · cases rx
    cases rz
    obtain ⟨its, rv, p, _⟩ := J.tuple h1
    obtain ⟨its2, rv2, p2, _⟩ := J.tuple h2
    cases rv2
    have := SeqAt.RcAt.tuples (e := fun _ => true) (show s.heap.IsTuple a its.toArray from p) (show s.heap.IsTuple c [].toArray from p2) hu' (fun j h1 h2 => absurd h2 (Nat.not_lt_zero j))
    refine this _ _ _ _ ⟨.bl xs.isEmpty, H, J, ?_, q⟩
    have hl := rv.length
    cases xs <;> cases its <;> first | rfl | cases hl
theorem op_neO (hu : X.A.units + 64 < cLine) : OpR X (compareOp .NotEq) (fun x z H Q => ∃ b, Odd X.K H x z b ∧ Q (.bl (!b)) H) := by
  rintro pins s σ H x z v u Q J rx rz ⟨b, h, q⟩
  have hu' : X.A.units < cLine := by omega
  rcases h with ⟨a, xs, y, rfl, rfl, h, rfl⟩ | ⟨a, ks, y, rfl, rfl, h, rfl⟩ | ⟨a, c, xs, rfl, rfl, h1, h2, rfl⟩
  · cases rx
    obtain ⟨t, rfl⟩ := rz
    rcases h with h | h
    · obtain ⟨its, rv, p, _⟩ := J.tuple h
      exact SeqAt.RcNeAt.tuple_str y t (show s.heap.IsTuple a its.toArray from p) hu' _ _ _ _ ⟨.bl true, H, J, rfl, q⟩
    · obtain ⟨its, rv, p, _⟩ := J.list h
      exact SeqAt.RcNeAt.list_str y t p.isList hu' _ _ _ _ ⟨.bl true, H, J, rfl, q⟩
  · cases rx
    obtain ⟨t, rfl⟩ := rz
    obtain ⟨_, _, vs, _, o, es, ep, ho, hc, hd, _⟩ := (show ObjOk X.prog X.w H s.heap a (.dK ks) from J.hok a _ h)
    exact rcN_dict_str ho hc.1 hd hu' ⟨.bl true, H, J, rfl, q⟩
  · cases rx
    cases rz
    obtain ⟨its, rv, p, _⟩ := J.tuple h1
    obtain ⟨its2, rv2, p2, _⟩ := J.tuple h2
    cases rv2
    have := SeqAt.RcNeAt.tuples (e := fun _ => true) (show s.heap.IsTuple a its.toArray from p) (show s.heap.IsTuple c [].toArray from p2) hu' (fun j h1 h2 => absurd h2 (Nat.not_lt_zero j))
    refine this _ _ _ _ ⟨.bl (!xs.isEmpty), H, J, ?_, q⟩
    have hl := rv.length
    cases xs <;> cases its <;> first | rfl | cases hl
theorem toK_flat {H : Hp} {I : Ix} {y : W} {u : V} {k : Kd} (h : RW G H I y u) (e : toK y = some k) (f : flatK k = true) : ∃ q, kOf k = some q ∧ u = kV q := by
  cases y with
  | int i => unfold toK at e; cases e; unfold RW at h; subst h; exact ⟨_, rfl, rfl⟩
  | str i => unfold toK at e; cases e; unfold RW at h; subst h; exact ⟨_, rfl, rfl⟩
  | tup xs =>
    unfold toK at e
    obtain ⟨ks, _, rfl⟩ := Option.map_eq_some_iff.mp e
    cases f
  | _ => unfold toK at e; cases e
theorem flat_of {k : Kd} (f : flatK k = true) : ∃ q, kOf k = some q := by
  cases k with
  | int i => exact ⟨_, rfl⟩
  | str i => exact ⟨_, rfl⟩
  | tup xs => cases f
theorem see_k {kvs : List (Kd × W)} {k : Kd} (h : seeK kvs k = true) : flatK k = true := by
  unfold seeK at h
  rw [Bool.and_eq_true] at h
  exact h.1
mutual
theorem KAt.of : ∀ {w : W} {k : Kd} {v : V}, RW G H I w v → toK w = some k → KAt G.K H k v
  | .int _, _, _, h, e => by unfold toK at e; cases e; unfold RW at h; unfold KAt; exact h
  | .str _, _, _, h, e => by unfold toK at e; cases e; unfold RW at h; unfold KAt; exact h
  | .tup ws, _, _, h, e => by
    unfold toK at e
    obtain ⟨ks, e1, rfl⟩ := Option.map_eq_some_iff.mp e
    unfold RW at h
    obtain ⟨a, vs, e2, s, r⟩ := h
    unfold KAt
    exact ⟨a, vs, e2, s, KAts.of r e1⟩
  | .non, _, _, _, e => by unfold toK at e; cases e
  | .bl _, _, _, _, e => by unfold toK at e; cases e
  | .ty _, _, _, _, e => by unfold toK at e; cases e
  | .fl _ _, _, _, _, e => by unfold toK at e; cases e
  | .fd _ _, _, _, _, e => by unfold toK at e; cases e
  | .fdn _ _, _, _, _, e => by unfold toK at e; cases e
  | .fins _ _ _, _, _, _, e => by unfold toK at e; cases e
  | .ref _, _, _, _, e => by unfold toK at e; cases e
  | .glo _, _, _, _, e => by unfold toK at e; cases e
theorem KAts.of : ∀ {w : List W} {k : List Kd} {v : List V}, RWs G H I w v → toKs w = some k → KAts G.K H k v
  | [], _, _, h, e => by unfold toKs at e; cases e; unfold KAts; exact h.inv0
  | w :: ws, _, _, h, e => by
    obtain ⟨v, r, rfl, h1, h2⟩ := h.inv
    unfold toKs at e
    split at e
    · cases e
    · rename_i k hk
      obtain ⟨ks, e1, rfl⟩ := Option.map_eq_some_iff.mp e
      unfold KAts
      exact ⟨v, r, rfl, KAt.of h1 hk, KAts.of h2 e1⟩
end
mutual
theorem KAt.rw : ∀ {k : Kd} {v : V}, KAt G.K H k v → RW G H I (ofK k) v
  | .int _, _, h => by unfold KAt at h; unfold ofK RW; exact h
  | .str _, _, h => by unfold KAt at h; unfold ofK RW; exact h
  | .tup ks, _, h => by
    unfold KAt at h
    obtain ⟨a, vs, e, s, r⟩ := h
    unfold ofK RW
    exact ⟨a, vs, e, s, KAts.rw r⟩
theorem KAts.rw : ∀ {k : List Kd} {v : List V}, KAts G.K H k v → RWs G H I (ofKs k) v
  | [], _, h => by unfold KAts at h; subst h; unfold ofKs; exact .nil
  | k :: ks, _, h => by
    unfold KAts at h
    obtain ⟨v, r, rfl, h1, h2⟩ := h
    unfold ofKs
    exact .cons (KAt.rw h1) (KAts.rw h2)
end
theorem nd_of {H : Hp} {I : Ix} {S : So} {x : W} {v : V} {kvs : List (Kd × W)} (r : Rel G H I S) (h : RW G H I x v) (e : ndOf x S = some kvs) : ∃ a es, v = .ref a ∧ H a = some (ndO G.w a es) ∧ RNs G H I kvs es := by
  unfold ndOf at e
  split at e
  · rw [RW] at h
    obtain ⟨a, rfl, hi⟩ := h
    split at e
    · rename_i hS
      cases e
      obtain ⟨es, q, z⟩ := r.obj _ _ _ hS hi
      exact ⟨a, es, rfl, q, z⟩
    · cases e
  · cases e
    rw [RW] at h
    obtain ⟨a, es, rfl, q, z⟩ := h
    exact ⟨a, es, rfl, q.1, z⟩
  · cases e
theorem nest_k {k : Kd} (h : nestK k = true) : (∃ ks, k = .tup ks) ∧ dpK k ≤ 8 := by
  unfold nestK at h
  rw [Bool.and_eq_true] at h
  refine ⟨?_, of_decide_eq_true h.2⟩
  cases k with
  | tup ks => exact ⟨ks, rfl⟩
  | _ => cases h.1
/-- a tuple as a key -/
theorem nest_at {H : Hp} {I : Ix} {y : W} {u : V} {k : Kd} (h : RW G H I y u) (e : toK y = some k) (n : nestK k = true) : ∃ b, u = .ref b ∧ KAt G.K H k (.ref b) ∧ dpK k ≤ 8 := by
  obtain ⟨⟨ks, rfl⟩, hd⟩ := nest_k n
  have q := KAt.of h e
  have q2 := q
  rw [KAt] at q2
  obtain ⟨b, vs, rfl, _, _⟩ := q2
  exact ⟨b, rfl, q, hd⟩
theorem RKs.has {H : Hp} {I : Ix} {k : Kd} {q : Key} (ek : kOf k = some q) : ∀ {ws : List (Kd × W)} {vs : List (Key × V)}, RKs G H I ws vs → (findK ws k).isSome = (valV vs q).isSome
  | [], _, h => by rw [h.inv0]; rfl
  | (p, x) :: ws, _, h => by
    obtain ⟨r, v, t, rfl, e2, h1, h2⟩ := h.inv
    unfold findK valV
    by_cases hp : p = k
    · subst hp
      rw [ek] at e2; cases e2
      simp
    · have hq : ¬ r = q := fun z => hp (kOf_inj (e2.trans (congrArg some z)) ek)
      simp only [List.find?_cons, hp, hq, decide_false]
      exact RKs.has ek h2
theorem RNs.has {H : Hp} {I : Ix} {k : Kd} {ws : List (Kd × W)} {vs : List Ent} (h : RNs G H I ws vs) : (findK ws k).isSome = (findN vs k).isSome := by
  obtain ⟨f1, f2⟩ := h.find (k := k)
  cases q : findK ws k with
  | none => rw [f2 q]; rfl
  | some w =>
    obtain ⟨v, e, _⟩ := f1 w q
    rw [e]; rfl
section
variable {pins : List (Addr × Obj)} {σ : L2.St} {H : Hp} {s : Shared} {I : Ix} {S : So}
/-- a key in a dict -/
theorem in_dct (hG : G.K = X.K) (hW : G.w = X.w) (hu : X.A.units + 200 < cLine) {a b : W} {x z : V} {u v : Value} {t : Bool} {Q : VK} (J : Inv X pins σ H s) (r : Rel G H I S) (ha : RW G H I a x) (hb : RW G H I b z) (rx : RelV x u) (rz : RelV z v) (e : inDct a b S = some t) :
    (Q (.bl t) H → wpAny (model X.prog X.w) X.A (compareOp .In u v) (EP X pins σ Q) X.xe s) ∧ (Q (.bl (!t)) H → wpAny (model X.prog X.w) X.A (compareOp .NotIn u v) (EP X pins σ Q) X.xe s) := by
  unfold inDct at e
  cases ek : toK a with
  | none => rw [ek] at e; cases e
  | some k =>
    rw [ek] at e
    simp only at e
    cases ed : dctOf b S with
    | some kvs =>
      rw [ed] at e
      simp only at e
      obtain ⟨p, vs, rfl, q1, zz⟩ := dct_of r hb ed
      obtain rfl : v = Value.ref p := rz
      split at e
      · rename_i hk
        cases e
        obtain ⟨q', e1, hy⟩ := toK_flat ha ek (see_k hk)
        subst hy
        have hh := zz.has e1
        rw [hh]
        exact ⟨fun q => d_in (by omega) J (DGet.k (k := q') q1) rx fun s' J' => ⟨.bl (valV vs q').isSome, H, J', rfl, q⟩, fun q => d_notIn (by omega) J (DGet.k (k := q') q1) rx fun s' J' => ⟨.bl (!(valV vs q').isSome), H, J', rfl, q⟩⟩
      · split at e
        · rename_i hk
          cases e
          have h0 : kvs = [] := List.isEmpty_iff.mp hk.1
          subst h0
          have h1 := zz.inv0
          subst h1
          obtain ⟨c, rfl, kk, hd⟩ := nest_at ha ek hk.2
          rw [hG] at kk
          obtain rfl : u = Value.ref c := rx
          exact ⟨fun q => nd_in0 hu J q1 kk hd fun s' J' => ⟨.bl false, H, J', rfl, q⟩, fun q => nd_notIn0 hu J q1 kk hd fun s' J' => ⟨.bl true, H, J', rfl, q⟩⟩
        · cases e
    | none =>
      rw [ed] at e
      simp only at e
      split at e
      · rename_i kvs en
        split at e
        · rename_i hk
          cases e
          obtain ⟨p, es, rfl, q1, zz⟩ := nd_of r hb en
          obtain ⟨c, rfl, kk, hd⟩ := nest_at ha ek hk
          have keys := zz.keys
          have hh := zz.has (k := k)
          rw [hG] at kk keys
          rw [hW] at q1
          obtain rfl : v = Value.ref p := rz
          obtain rfl : u = Value.ref c := rx
          rw [hh]
          exact ⟨fun q => nd_in hu J q1 keys kk hd fun s' J' => ⟨.bl (findN es k).isSome, H, J', rfl, q⟩, fun q => nd_notIn hu J q1 keys kk hd fun s' J' => ⟨.bl (!(findN es k).isSome), H, J', rfl, q⟩⟩
        · cases e
      · cases e
end
theorem cmp_Z (hG : G.K = X.K) (hW : G.w = X.w) (hu2 : X.A.units + 200 < cLine) (hu1 : X.A.units + 65 < cLine) (hu : X.A.units + 64 < cLine) (ys : Sys X.base) (op : CmpOp) : OpR X (compareOp op) (rC G (cmp op)) := by
  rintro pins s σ H x y v u Q J rx ry ⟨I, S, a, b, c, r, ha, hb, e, q⟩
  unfold cmp at e
  cases op with
  | Eq =>
    have e : eqX a b S = some c := e
    unfold eqX at e
    split at e
    · cases e; unfold RW at ha hb; subst ha hb
      exact op_eq pins s σ H _ _ v u Q J rx ry ⟨rfl, by simpa using q⟩
    · cases e; unfold RW at ha hb; subst ha hb
      exact op_eq pins s σ H _ _ v u Q J rx ry ⟨rfl, by simpa using q⟩
    · split at e
      · rename_i hl
        cases e
        obtain ⟨p, q', vs, us, rfl, rfl, q1, q2, hn⟩ := lenD_ok r ha hb hl
        rw [hG] at q1 q2
        exact op_eqL hu pins s σ H _ _ v u Q J rx ry ⟨p, q', vs, us, rfl, rfl, q1, q2, hn, q⟩
      · split at e
        · rename_i eo
          cases e
          have o := odd_ok r ha hb eo
          rw [hG] at o
          exact op_eqO hu pins s σ H _ _ v u Q J rx ry ⟨_, o, q⟩
        obtain ⟨d1, d2, q1, q2, s1, s2, rfl⟩ := eqD_ok r ha hb e
        rw [hG] at q1 q2
        exact op_eqZ hu ys pins s σ H _ _ v u Q J rx ry ⟨d1, d2, q1, q2, s1, s2, q⟩
  | NotEq =>
    have e : (eqX a b S).map (!·) = some c := e
    obtain ⟨k, e3, rfl⟩ := Option.map_eq_some_iff.mp e
    unfold eqX at e3
    split at e3
    · cases e3; unfold RW at ha hb; subst ha hb
      exact op_ne pins s σ H _ _ v u Q J rx ry ⟨rfl, by simpa using q⟩
    · cases e3; unfold RW at ha hb; subst ha hb
      exact op_ne pins s σ H _ _ v u Q J rx ry ⟨rfl, by simpa using q⟩
    · split at e3
      · rename_i hl
        cases e3
        obtain ⟨p, q', vs, us, rfl, rfl, q1, q2, hn⟩ := lenD_ok r ha hb hl
        rw [hG] at q1 q2
        exact op_neL hu pins s σ H _ _ v u Q J rx ry ⟨p, q', vs, us, rfl, rfl, q1, q2, hn, q⟩
      · split at e3
        · rename_i eo
          cases e3
          have o := odd_ok r ha hb eo
          rw [hG] at o
          exact op_neO hu pins s σ H _ _ v u Q J rx ry ⟨_, o, q⟩
        obtain ⟨d1, d2, q1, q2, s1, s2, rfl⟩ := eqD_ok r ha hb e3
        rw [hG] at q1 q2
        exact op_neZ hu ys pins s σ H _ _ v u Q J rx ry ⟨d1, d2, q1, q2, s1, s2, q⟩
  | Lt =>
    simp only at e
    split at e
    · cases e; unfold RW at ha hb; subst ha hb
      exact op_lt pins s σ H _ _ v u Q J rx ry ⟨_, _, rfl, rfl, q⟩
    · cases e; unfold RW at ha hb; subst ha hb
      exact op_lt_str pins s σ H _ _ v u Q J rx ry ⟨_, _, rfl, rfl, q⟩
    · cases e
  | LtE =>
    simp only at e
    split at e
    · cases e; unfold RW at ha hb; subst ha hb
      exact op_le pins s σ H _ _ v u Q J rx ry ⟨_, _, rfl, rfl, q⟩
    · cases e; unfold RW at ha hb; subst ha hb
      exact op_le_str pins s σ H _ _ v u Q J rx ry ⟨_, _, rfl, rfl, q⟩
    · cases e
  | Gt =>
    simp only at e
    split at e
    · cases e; unfold RW at ha hb; subst ha hb
      exact op_gt pins s σ H _ _ v u Q J rx ry ⟨_, _, rfl, rfl, q⟩
    · cases e; unfold RW at ha hb; subst ha hb
      exact op_gt_str pins s σ H _ _ v u Q J rx ry ⟨_, _, rfl, rfl, q⟩
    · cases e
  | GtE =>
    simp only at e
    split at e
    · cases e; unfold RW at ha hb; subst ha hb
      exact op_ge pins s σ H _ _ v u Q J rx ry ⟨_, _, rfl, rfl, q⟩
    · cases e; unfold RW at ha hb; subst ha hb
      exact op_ge_str pins s σ H _ _ v u Q J rx ry ⟨_, _, rfl, rfl, q⟩
    · cases e
  | Is =>
    simp only at e
    split at e
    · unfold RW at hb; subst hb
      have h := isN_ok ha
      cases e
      refine op_isN pins s σ H _ _ v u Q J rx ry ⟨rfl, ?_⟩
      rw [h]
      cases a <;> exact q
    · split at e
      · cases e
        unfold RW at ha hb; subst ha hb
        exact op_isBl pins s σ H _ _ v u Q J rx ry ⟨_, _, rfl, rfl, q⟩
      · cases e
    · cases e
  | IsNot =>
    simp only at e
    split at e
    · unfold RW at hb; subst hb
      have h := isN_ok ha
      cases e
      refine op_notN pins s σ H _ _ v u Q J rx ry ⟨rfl, ?_⟩
      rw [h]
      cases a <;> exact q
    · split at e
      · cases e
        unfold RW at ha hb; subst ha hb
        exact op_notBl pins s σ H _ _ v u Q J rx ry ⟨_, _, rfl, rfl, q⟩
      · cases e
    · cases e
  | In =>
    simp only at e
    split at e
    · rename_i ws es
      split at e
      · rename_i hf
        rw [Bool.and_eq_true] at hf
        cases e
        obtain ⟨p, vs, rfl, hs, z⟩ := seq_of r hb es
        rw [hG] at hs
        exact op_in_seq pins s σ H _ _ v u Q J rx ry ⟨p, vs, rfl, hs, flat_ok ha hf.1, z.allFlat hf.2, by rw [RWs.inV ha hf.1 z hf.2]; exact q⟩
      · obtain ⟨d, ds, q1, q2, q3, rfl⟩ := inD_ok r ha hb e
        rw [hG] at q1 q2
        exact op_inZ hu1 ys pins s σ H _ _ v u Q J rx ry ⟨d, ds, q1, q2, q3, q⟩
    · exact (in_dct hG hW hu2 J r ha hb rx ry e).1 q
  | NotIn =>
    simp only at e
    split at e
    · rename_i ws es
      split at e
      · rename_i hf
        rw [Bool.and_eq_true] at hf
        cases e
        obtain ⟨p, vs, rfl, hs, z⟩ := seq_of r hb es
        rw [hG] at hs
        exact op_notIn_seq pins s σ H _ _ v u Q J rx ry ⟨p, vs, rfl, hs, flat_ok ha hf.1, z.allFlat hf.2, by rw [RWs.inV ha hf.1 z hf.2]; exact q⟩
      · obtain ⟨k, e3, rfl⟩ := Option.map_eq_some_iff.mp e
        obtain ⟨d, ds, q1, q2, q3, rfl⟩ := inD_ok r ha hb e3
        rw [hG] at q1 q2
        exact op_niZ hu1 ys pins s σ H _ _ v u Q J rx ry ⟨d, ds, q1, q2, q3, q⟩
    · obtain ⟨t, e3, rfl⟩ := Option.map_eq_some_iff.mp e
      exact (in_dct hG hW hu2 J r ha hb rx ry e3).2 q

/-! ### subscripts -/
theorem ixN_len {n m : Nat} {i : Int} (h : n = m) : ixN n i = ixN m i := by rw [h]
theorem RWs.atI {H : Hp} {I : Ix} {ws : List W} {vs : List V} {i : Int} {w : W} (h : RWs G H I ws vs) (e : L2.atI ws i = some w) : ∃ v, L2.atI vs i = some v ∧ RW G H I w v := by
  unfold L2.atI at e ⊢
  rw [← h.len]
  obtain ⟨j, e1, e2⟩ := Option.bind_eq_some_iff.mp e
  obtain ⟨v, e3, q⟩ := h.get e2
  exact ⟨v, by rw [e1]; exact e3, q⟩
/-- d[k] by values -/
theorem ix_dictZ (hu : X.A.units + 1 < cLine) : IxR X (fun x y H Q => ∃ a z, x = .ref a ∧ DGet H a y (some z) ∧ Q z H) := by
  rintro ve se pins s σ H x y v u Q J rx ry ⟨a, z, rfl, g, q⟩ hs
  obtain rfl : v = Value.ref a := rx
  have isd := dict_typeIs J g
  have tail : wpAny (model X.prog X.w) X.A (subscripted se false (Value.ref a) u) (fun r t => wpAny (model X.prog X.w) X.A (letTemporaryGo ve (Value.ref a) r >>= fun _ => pure r) (EP X pins σ Q) X.xe t) X.xe s := by
    rw [hs]
    refine wpAny_operating (wpAny_mono (d_getItem (Q := EP X pins σ Q) hu J g ry fun w' t It rw' => ⟨z, H, It, rw', q⟩) (fun r t ht => wpAny_bind (wpAny_letTemporaryGo (wpAny_pure ht))) fun _ _ z => z)
  unfold PyProof.Rows.subscriptTail
  refine wpAny_bind ?_
  rw [getitemInPython_of_ne isd.not_modules]
  refine wpAny_bind (wpAny_specialOf isd PySem.F.slot_dict_getitem.lookup ?_)
  first
    | exact wpAny_pure (wpAny_bind tail)
    | exact wpAny_bind (wpAny_pure (wpAny_bind tail))
    | exact wpAny_bind tail
/-- x[y] by values -/
def rIt (G : Gd) : R2 := fun x y H Q => ∃ I S u v w, Rel G H I S ∧ RW G H I u x ∧ RW G H I v y ∧ item u v S = some w ∧ (∀ z, RW G H I w z → Q z H)
/-- d[k], k a tuple -/
theorem ix_nest (hu : X.A.units + 200 < cLine) : IxR X (fun x y H Q => ∃ a b es k z, x = .ref a ∧ y = .ref b ∧ H a = some (ndO X.w a es) ∧ KeysAt X.K H es ∧ (KAt X.K H k (.ref b) ∧ dpK k ≤ 8) ∧ findN es k = some z ∧ Q z H) := by
  rintro ve se pins s σ H x y v u Q J rx ry ⟨a, b, es, k, z, rfl, rfl, e, ks, hk, l, q⟩ hs
  obtain rfl : v = Value.ref a := rx
  obtain rfl : u = Value.ref b := ry
  have isd : s.TypeIs (.ref a) "dict" := by
    obtain ⟨xs, _, dd, _, _⟩ := nd_dict J e ks
    exact dd.typeIs
  have tail : wpAny (model X.prog X.w) X.A (subscripted se false (Value.ref a) (Value.ref b)) (fun r t => wpAny (model X.prog X.w) X.A (letTemporaryGo ve (Value.ref a) r >>= fun _ => pure r) (EP X pins σ Q) X.xe t) X.xe s := by
    rw [hs]
    refine wpAny_operating (wpAny_mono (nd_get (Q := EP X pins σ Q) hu J e ks hk.1 hk.2 l fun w' t It rw' => ⟨z, H, It, rw', q⟩) (fun r t ht => wpAny_bind (wpAny_letTemporaryGo (wpAny_pure ht))) fun _ _ z => z)
  unfold PyProof.Rows.subscriptTail
  refine wpAny_bind ?_
  rw [getitemInPython_of_ne isd.not_modules]
  refine wpAny_bind (wpAny_specialOf isd PySem.F.slot_dict_getitem.lookup ?_)
  first
    | exact wpAny_pure (wpAny_bind tail)
    | exact wpAny_bind (wpAny_pure (wpAny_bind tail))
    | exact wpAny_bind tail
theorem ix_Z (hG : G.K = X.K) (hW : G.w = X.w) (hu2 : X.A.units + 200 < cLine) (hu : X.A.units + 1 < cLine) : IxR X (rIt G) := by
  rintro ve se pins s σ H x y v u Q J rx ry ⟨I, S, a, b, w, r, ha, hb, e, q⟩ hs
  unfold item at e
  split at e
  · unfold RW at ha hb
    obtain ⟨p, vs, rfl, sq, z⟩ := ha
    subst hb
    obtain ⟨v', e1, q1⟩ := z.atI e
    exact ix_tup ve se pins s σ H _ _ v u Q J rx ry ⟨p, vs, _, v', rfl, rfl, by rw [← hG]; exact sq, e1, q _ q1⟩ hs
  · unfold RW at ha hb
    subst ha hb
    split at e
    · rename_i hz
      obtain ⟨c, e1, rfl⟩ := Option.map_eq_some_iff.mp e
      exact ix_str ve se pins s σ H _ _ v u Q J rx ry ⟨_, _, c, rfl, rfl, hz, e1, q _ (by unfold RW; rfl)⟩ hs
    · cases e
  · split at e
    · rename_i xs es
      obtain ⟨p, vs, rfl, sq, z⟩ := lst_of r ha es
      split at e
      · unfold RW at hb
        subst hb
        obtain ⟨v', e1, q2⟩ := z.atI e
        exact ix_list ve se pins s σ H _ _ v u Q J rx ry ⟨p, vs, _, v', rfl, rfl, by rw [← hG]; exact sq, e1, q _ q2⟩ hs
      · cases e
    · split at e
      · rename_i kvs k ek eq
        split at e
        · rename_i hk
          obtain ⟨p, vs, rfl, q1, z⟩ := dct_of r ha ek
          obtain ⟨q', e1, hy⟩ := toK_flat hb eq (see_k hk)
          subst hy
          obtain ⟨v', e3, q2⟩ := z.find e1 e
          exact ix_dictZ hu ve se pins s σ H _ _ v u Q J rx ry ⟨p, v', rfl, by rw [← e3]; exact DGet.k q1, q _ q2⟩ hs
        · cases e
      · split at e
        · rename_i kvs k en eq
          split at e
          · rename_i hk
            obtain ⟨p, es, rfl, q1, z⟩ := nd_of r ha en
            obtain ⟨c, rfl, kk, hd⟩ := nest_at hb eq hk
            obtain ⟨v', e3, q2⟩ := z.find.1 _ e
            have keys := z.keys
            rw [hG] at kk keys
            rw [hW] at q1
            exact ix_nest hu2 ve se pins s σ H _ _ v u Q J rx ry ⟨p, c, es, k, v', rfl, rfl, q1, keys, ⟨kk, hd⟩, e3, q _ q2⟩ hs
          · cases e
        · cases e
/-- x[lo:hi] by values -/
def rSlZ (G : Gd) (E : EK) (m : Bool) : V → Option Int → Option Int → Hp → VK → Prop := fun x lo hi H Q => ∃ I S u, Rel G H I S ∧ RW G H I u x ∧ RE G E H I (kV' G Q) (slice m u lo hi S)
theorem cut_whole {α : Type} {xs : List α} {lo hi : Option Int} (h : HT.sIx xs.length 0 lo = 0 ∧ HT.sIx xs.length xs.length hi = xs.length) : cutW xs lo hi = xs := by
  unfold cutW
  rw [h.1, h.2]
  simp
theorem sl_Z (hG : G.K = X.K) (m : Bool) : SlR X (rSlZ G E m) := by
  rintro pins s σ H x v vl vu lo hi sl Q J rx hs pl pu ⟨I, S, a, r, ha, h⟩
  unfold slice at h
  split at h
  · unfold RW at ha
    obtain ⟨p, vs, rfl, sq, z⟩ := ha
    refine sl_tupA pins s σ H _ v vl vu lo hi sl Q J rx hs pl pu ⟨p, vs, rfl, by rw [← hG]; exact sq, fun e => ?_, fun _ t ht => ?_⟩
    · rw [← z.len] at e
      rw [cut_whole e] at h
      exact kV_now h r (by unfold RW; exact ⟨p, vs, rfl, sq, z⟩)
    · have kn := Keep.junk (I := I) (o := .tup (cutV vs lo hi)) ht
      refine h _ I kn (r.junk ht) _ ?_
      unfold RW
      exact ⟨t, _, rfl, .of upd_same, (z.cut lo hi).mono kn⟩
  · unfold RW at ha
    subst ha
    split at h
    · rename_i hz
      exact sl_str pins s σ H _ v vl vu lo hi sl Q J rx hs pl pu ⟨_, rfl, hz, kV_now h r (by unfold RW; rfl)⟩
    · exact False.elim h
  · split at h
    · rename_i xs es
      obtain ⟨p, vs, rfl, sq, z⟩ := lst_of r ha es
      exact sl_list pins s σ H _ v vl vu lo hi sl Q J rx hs pl pu ⟨p, vs, rfl, by rw [← hG]; exact sq, mk_lst r (z.cut lo hi) h⟩
    · exact False.elim h
/-- x[y] = v by values -/
theorem kOf_eq {a b : Kd} {p q : Key} (h : kOf a = some p) (h2 : kOf b = some q) : decide (a = b) = decide (p = q) := by
  by_cases e : p = q
  · subst e
    rw [kOf_inj h h2]; simp
  · have n : a ≠ b := fun z => by subst z; rw [h] at h2; exact e (Option.some.inj h2)
    simp [e, n]
theorem RKs.any {H : Hp} {I : Ix} {k : Kd} {p : Key} (ek : kOf k = some p) : ∀ {ws : List (Kd × W)} {vs : List (Key × V)}, RKs G H I ws vs → (ws.any fun kv => decide (kv.1 = k)) = (vs.any fun kv => decide (kv.1 = p))
  | [], _, h => by rw [h.inv0]; rfl
  | (q, x) :: ws, _, h => by
    obtain ⟨q', v, t, rfl, e1, h1, h2⟩ := h.inv
    rw [List.any_cons, List.any_cons, RKs.any ek h2, kOf_eq e1 ek]
theorem RKs.mapP {H : Hp} {I : Ix} {k : Kd} {p : Key} (ek : kOf k = some p) {w : W} {v : V} (h : RW G H I w v) : ∀ {ws : List (Kd × W)} {vs : List (Key × V)}, RKs G H I ws vs →
    RKs G H I (ws.map fun kv => if kv.1 = k then (kv.1, w) else kv) (vs.map fun kv => if kv.1 = p then (kv.1, v) else kv)
  | [], _, h => by rw [h.inv0]; exact .nil
  | (q, x) :: ws, _, h0 => by
    obtain ⟨q', y, r, rfl, e1, h1, h2⟩ := h0.inv
    have t := RKs.mapP ek h h2
    have d := kOf_eq e1 ek
    by_cases z : q = k
    · have z' : q' = p := by simpa [z] using d
      simp only [List.map_cons, z, z', if_true]
      exact .cons (by rw [← z, ← z']; exact e1) h t
    · have z' : ¬ q' = p := by simpa [z] using d
      simp only [List.map_cons, z, z', if_false]
      exact .cons e1 h1 t
theorem RKs.snoc {H : Hp} {I : Ix} {k : Kd} {p : Key} (ek : kOf k = some p) {w : W} {v : V} (h : RW G H I w v) : ∀ {ws : List (Kd × W)} {vs : List (Key × V)}, RKs G H I ws vs → RKs G H I (ws ++ [(k, w)]) (vs ++ [(p, v)])
  | [], _, e => by rw [e.inv0]; exact .cons ek h .nil
  | (q, x) :: ws, _, h0 => by
    obtain ⟨q', y, r, rfl, e1, h1, h2⟩ := h0.inv
    exact .cons e1 h1 (RKs.snoc ek h h2)
theorem RKs.put {H : Hp} {I : Ix} {k : Kd} {p : Key} (ek : kOf k = some p) {w : W} {v : V} {ws : List (Kd × W)} {vs : List (Key × V)} (r : RKs G H I ws vs) (h : RW G H I w v) : RKs G H I (putW ws k w) (putK vs p v) := by
  unfold putW putK
  rw [r.any ek]
  split
  · exact r.mapP ek h
  · exact r.snoc ek h
def rSetZ (G : Gd) : TSet := fun o i v H Q => ∃ I S uo ui uv S', Rel G H I S ∧ RW G H I uo o ∧ RW G H I ui i ∧ RW G H I uv v ∧ Y.setItem uo ui uv S = some S' ∧ (∀ H', Keep H I H' I → Rel G H' I S' → Q H')
theorem set_Z (hG : G.K = X.K) (hW : G.w = X.w) (hu2 : X.A.units + 200 < cLine) (hu : X.A.units + 1 < cLine) : PSet X (rSetZ G) := by
  rintro pins s σ H o i v ov iv u Q J ro ri rv ⟨I, S, a, b, c, S', r, ha, hb, hc, e, q⟩
  unfold Y.setItem at e
  split at e
  · unfold RW at ha
    obtain ⟨p, rfl, hi⟩ := ha
    split at e
    · rename_i xs hS
      obtain ⟨vs, q1, z⟩ := r.obj _ _ _ hS hi
      split at e
      · unfold RW at hb
        subst hb
        obtain ⟨k, e1, rfl⟩ := Option.map_eq_some_iff.mp e
        have kn := r.keepPut (u := .lst (vs.set k v)) hi
        exact set_list pins s σ H _ _ _ ov iv u Q J ro ri rv ⟨p, vs, _, k, rfl, rfl, q1, by rw [← z.len]; exact e1,
          q _ kn (r.put hi ⟨_, upd_same, (RWs.set hc k z).mono kn⟩)⟩
      · cases e
    · rename_i xs hS
      obtain ⟨vs, q1, z⟩ := r.obj _ _ _ hS hi
      split at e
      · rename_i k ek
        split at e
        · rename_i hl
          cases e
          obtain ⟨p', e1, hy⟩ := toK_flat hb ek (see_k hl.1)
          subst hy
          have kn := r.keepPut (u := .dK (putK vs p' v)) hi
          obtain rfl : ov = Value.ref p := ro
          refine d_setItem hu J (DPut.k q1 (by rw [← z.len]; exact hl.2)) ri rv fun s' J' => ⟨_, J', q _ kn (r.put hi ⟨_, upd_same, (z.put e1 hc).mono kn⟩)⟩
        · split at e
          · rename_i hk
            cases e
            have h0 : xs = [] := List.isEmpty_iff.mp hk.1
            subst h0
            have h1 := z.inv0
            subst h1
            obtain ⟨c', rfl, kk, hd⟩ := nest_at hb ek hk.2
            obtain rfl : ov = Value.ref p := ro
            obtain rfl : iv = Value.ref c' := ri
            have kk2 := kk
            rw [hG] at kk2
            have kn := r.keepPut (u := ndO X.w p [(k, c', v)]) hi
            refine nd_set0 hu2 J q1 kk2 hd rv fun s' J' => ⟨_, J', q _ kn (r.put hi ⟨_, by rw [hW]; exact upd_same, .cons ⟨kk.mv kn.mv, hd⟩ (hc.mono kn) .nil⟩)⟩
          · cases e
      · cases e
    · rename_i xs hS
      obtain ⟨es, q1, z⟩ := r.obj _ _ _ hS hi
      split at e
      · rename_i k ek
        split at e
        · rename_i hl
          cases e
          obtain ⟨c', rfl, kk, hd⟩ := nest_at hb ek hl.1
          obtain rfl : ov = Value.ref p := ro
          obtain rfl : iv = Value.ref c' := ri
          have kk2 := kk
          have keys := z.keys
          rw [hG] at kk2 keys
          rw [hW] at q1
          have kn := r.keepPut (u := ndO X.w p (putX es k c' v)) hi
          refine nd_set hu2 J q1 keys kk2 hd rv (by rw [← z.len]; exact hl.2) fun s' J' => ⟨_, J', q _ kn (r.put hi ⟨_, by rw [hW]; exact upd_same, (z.put ⟨kk, hd⟩ hc).mono kn⟩)⟩
        · cases e
      · cases e
    · cases e
  · cases e
end
end Y

/-! What the built-ins and the methods answer. -/
namespace Y
open PySem PySem.Spec L2
section
variable {X : Cx} {G : Gd} {E : EK}
def rBi (G : Gd) (E : EK) (m : Bool) (f : Str) : List V → Hp → VK → Prop := fun vs H Q => ∃ I S ws, Rel G H I S ∧ RWs G H I ws vs ∧ RE G E H I (kV' G Q) (builtin m f ws S)
theorem RWs.one {H : Hp} {I : Ix} {w : W} {vs : List V} (h : RWs G H I [w] vs) : ∃ v, vs = [v] ∧ RW G H I w v := by
  obtain ⟨v, r, rfl, h1, h2⟩ := h.inv
  rw [h2.inv0]; exact ⟨v, rfl, h1⟩
theorem RWs.two {H : Hp} {I : Ix} {w z : W} {vs : List V} (h : RWs G H I [w, z] vs) : ∃ v u, vs = [v, u] ∧ RW G H I w v ∧ RW G H I z u := by
  obtain ⟨v, r, rfl, h1, h2⟩ := h.inv
  obtain ⟨u, rfl, h3⟩ := h2.one
  exact ⟨v, u, rfl, h1, h3⟩
theorem bi_len (hG : G.K = X.K) (hW : G.w = X.w) (m : Bool) : CallR X (.builtin "len") (rBi G E m "len") := by
  rintro pins s σ H xs us Q J r ⟨I, S, ws, rl, z, h⟩
  unfold builtin at h
  rw [if_pos rfl] at h
  split at h
  · obtain ⟨v, rfl, h1⟩ := z.one
    unfold RW at h1; subst h1
    split at h
    · rename_i hz
      exact call_len_str pins s σ H _ us Q J r ⟨_, rfl, hz, kV_now h rl (by unfold RW; rfl)⟩
    · exact False.elim h
  · obtain ⟨v, rfl, h1⟩ := z.one
    split at h
    · rename_i n e
      unfold lenOf at e
      split at e
      · rename_i ys e2
        obtain ⟨a, vs, rfl, sq, z2⟩ := seq_of rl h1 e2
        rw [hG] at sq
        cases e
        exact call_len_seq pins s σ H _ us Q J r ⟨a, vs, rfl, sq, by rw [← z2.len]; exact kV_now h rl (by unfold RW; rfl)⟩
      · split at e
        · rename_i kvs e2
          obtain ⟨a, vs, rfl, q, z2⟩ := dct_of rl h1 e2
          cases e
          exact call_lenD pins s σ H _ us Q J r ⟨a, vs, rfl, q, by rw [← z2.len]; exact kV_now h rl (by unfold RW; rfl)⟩
        · obtain ⟨kvs, e2, rfl⟩ := Option.map_eq_some_iff.mp e
          obtain ⟨a, es, rfl, q, z2⟩ := nd_of rl h1 e2
          have keys := z2.keys
          have hl := z2.len
          rw [hG] at keys
          rw [hW] at q
          obtain ⟨u, rfl, ru⟩ := r.one
          obtain rfl : u = Value.ref a := ru
          exact nd_len J q keys fun t s' J' => ⟨.int es.length, H, J', ⟨t, rfl⟩, by rw [← hl]; exact kV_now h rl (by unfold RW; rfl)⟩
    · exact False.elim h
  · exact False.elim h
theorem bi_int  (m : Bool) : CallR X (.type "int") (rBi G E m "int") := by
  rintro pins s σ H xs us Q J r ⟨I, S, ws, rl, z, h⟩
  unfold builtin at h
  rw [if_neg (by decide), if_pos rfl] at h
  split at h
  · obtain ⟨v, rfl, h1⟩ := z.one
    unfold RW at h1; subst h1
    exact call_int1 pins s σ H _ us Q J r (.inl ⟨_, rfl, kV_now h rl (by unfold RW; rfl)⟩)
  · obtain ⟨v, rfl, h1⟩ := z.one
    unfold RW at h1; subst h1
    exact call_int1 pins s σ H _ us Q J r (.inr ⟨_, rfl, kV_now h rl (by unfold RW; rfl)⟩)
  · exact False.elim h
theorem ints_ok {H : Hp} {I : Ix} : ∀ {ws : List W} {vs : List V} {bs : List Int}, RWs G H I ws vs → intsOf ws = some bs → vs = bs.map V.int
  | [], _, _, h, e => by rw [h.inv0]; unfold intsOf at e; cases e; rfl
  | .int x :: ws, _, _, h, e => by
    obtain ⟨v, r, rfl, h1, h2⟩ := h.inv
    unfold intsOf at e
    obtain ⟨bs, e1, rfl⟩ := Option.map_eq_some_iff.mp e
    unfold RW at h1; subst h1
    rw [ints_ok h2 e1]; rfl
  | .non :: _, _, _, _, e => by unfold intsOf at e; cases e
  | .bl _ :: _, _, _, _, e => by unfold intsOf at e; cases e
  | .str _ :: _, _, _, _, e => by unfold intsOf at e; cases e
  | .ty _ :: _, _, _, _, e => by unfold intsOf at e; cases e
  | .tup _ :: _, _, _, _, e => by unfold intsOf at e; cases e
  | .fl _ _ :: _, _, _, _, e => by unfold intsOf at e; cases e
  | .fd _ _ :: _, _, _, _, e => by unfold intsOf at e; cases e
  | .fins _ _ _ :: _, _, _, _, e => by unfold intsOf at e; cases e
  | .ref _ :: _, _, _, _, e => by unfold intsOf at e; cases e
  | .glo _ :: _, _, _, _, e => by unfold intsOf at e; cases e
theorem maxI_ok : ∀ (is : List Int) (i : Int), maxI i is ∈ i :: is ∧ ∀ y ∈ i :: is, y ≤ maxI i is
  | [], i => ⟨List.mem_cons_self .., fun y h => by cases h with | head => exact Int.le_refl _ | tail _ h => cases h⟩
  | b :: r, i => by
    have e : maxI i (b :: r) = maxI (if b > i then b else i) r := rfl
    obtain ⟨h1, h2⟩ := maxI_ok r (if b > i then b else i)
    rw [e]
    have h0 := h2 _ (List.mem_cons_self ..)
    have ib : i ≤ (if b > i then b else i) ∧ b ≤ (if b > i then b else i) := by split <;> omega
    refine ⟨?_, fun y hy => ?_⟩
    · rcases List.mem_cons.mp h1 with h | h
      · rw [h]
        split
        · exact List.mem_cons_of_mem _ (List.mem_cons_self ..)
        · exact List.mem_cons_self ..
      · exact List.mem_cons_of_mem _ (List.mem_cons_of_mem _ h)
    · rcases List.mem_cons.mp hy with rfl | hy
      · omega
      · rcases List.mem_cons.mp hy with rfl | hy
        · omega
        · exact h2 _ (List.mem_cons_of_mem _ hy)
theorem minI_ok : ∀ (is : List Int) (i : Int), minI i is ∈ i :: is ∧ ∀ y ∈ i :: is, minI i is ≤ y
  | [], i => ⟨List.mem_cons_self .., fun y h => by cases h with | head => exact Int.le_refl _ | tail _ h => cases h⟩
  | b :: r, i => by
    have e : minI i (b :: r) = minI (if b < i then b else i) r := rfl
    obtain ⟨h1, h2⟩ := minI_ok r (if b < i then b else i)
    rw [e]
    have h0 := h2 _ (List.mem_cons_self ..)
    have ib : (if b < i then b else i) ≤ i ∧ (if b < i then b else i) ≤ b := by split <;> omega
    refine ⟨?_, fun y hy => ?_⟩
    · rcases List.mem_cons.mp h1 with h | h
      · rw [h]
        split
        · exact List.mem_cons_of_mem _ (List.mem_cons_self ..)
        · exact List.mem_cons_self ..
      · exact List.mem_cons_of_mem _ (List.mem_cons_of_mem _ h)
    · rcases List.mem_cons.mp hy with rfl | hy
      · omega
      · rcases List.mem_cons.mp hy with rfl | hy
        · omega
        · exact h2 _ (List.mem_cons_of_mem _ hy)
theorem bi_max (hG : G.K = X.K) (hc : X.calm = true) (m : Bool) : CallR X (.builtin "max") (rBi G E m "max") := by
  rintro pins s σ H xs us Q J r ⟨I, S, ws, rl, z, h⟩
  unfold builtin at h
  rw [if_neg (by decide), if_neg (by decide), if_pos rfl] at h
  split at h
  · obtain ⟨v, u, rfl, h1, h2⟩ := z.two
    unfold RW at h1 h2; subst h1 h2
    exact call_max2 hc pins s σ H _ us Q J r ⟨_, _, rfl, kV_now h rl (by unfold RW; rfl)⟩
  · obtain ⟨v, rfl, h1⟩ := z.one
    split at h
    · rename_i i is e
      obtain ⟨ys, e1, e2⟩ := Option.bind_eq_some_iff.mp e
      obtain ⟨a, vs, rfl, sq, z2⟩ := lst_of rl h1 e1
      rw [hG, ints_ok z2 e2] at sq
      obtain ⟨m1, m2⟩ := maxI_ok is i
      refine cr_max hc pins s σ H _ us Q J r ⟨a, i :: is, rfl, sq, Nat.succ_pos _, fun m hm hb => ?_⟩
      have em : m = maxI i is := Int.le_antisymm (m2 _ hm) (hb _ m1)
      subst em
      exact kV_now h rl (by unfold RW; rfl)
    · exact False.elim h
  · exact False.elim h
theorem bi_min (hG : G.K = X.K) (hc : X.calm = true) (m : Bool) : CallR X (.builtin "min") (rBi G E m "min") := by
  rintro pins s σ H xs us Q J r ⟨I, S, ws, rl, z, h⟩
  unfold builtin at h
  rw [if_neg (by decide), if_neg (by decide), if_neg (by decide), if_pos rfl] at h
  split at h
  · obtain ⟨v, u, rfl, h1, h2⟩ := z.two
    unfold RW at h1 h2; subst h1 h2
    exact call_min2 hc pins s σ H _ us Q J r ⟨_, _, rfl, kV_now h rl (by unfold RW; rfl)⟩
  · obtain ⟨v, rfl, h1⟩ := z.one
    split at h
    · rename_i i is e
      obtain ⟨ys, e1, e2⟩ := Option.bind_eq_some_iff.mp e
      obtain ⟨a, vs, rfl, sq, z2⟩ := lst_of rl h1 e1
      rw [hG, ints_ok z2 e2] at sq
      obtain ⟨m1, m2⟩ := minI_ok is i
      refine cr_min hc pins s σ H _ us Q J r ⟨a, i :: is, rfl, sq, Nat.succ_pos _, fun m hm hb => ?_⟩
      have em : m = minI i is := Int.le_antisymm (hb _ m1) (m2 _ hm)
      subst em
      exact kV_now h rl (by unfold RW; rfl)
    · exact False.elim h
  · exact False.elim h
theorem bi_tuple (hG : G.K = X.K) (m : Bool) : CallR X (.type "tuple") (rBi G E m "tuple") := by
  rintro pins s σ H xs us Q J r ⟨I, S, ws, rl, z, h⟩
  unfold builtin at h
  rw [if_neg (by decide), if_neg (by decide), if_neg (by decide), if_neg (by decide), if_pos rfl] at h
  split at h
  · obtain ⟨v, rfl, h1⟩ := z.one
    have h2 := h1
    unfold RW at h1
    obtain ⟨a, vs, rfl, sq, _⟩ := h1
    rw [hG] at sq
    exact call_tuple_of pins s σ H _ us Q J r ⟨a, vs, rfl, .inr ⟨sq, kV_now h rl h2⟩⟩
  · obtain ⟨v, rfl, h1⟩ := z.one
    split at h
    · rename_i ys e
      obtain ⟨a, vs, rfl, sq, z2⟩ := lst_of rl h1 e
      rw [hG] at sq
      refine call_tuple_of pins s σ H _ us Q J r ⟨a, vs, rfl, .inl ⟨sq, fun t ht => ?_⟩⟩
      have kn := Keep.junk (I := I) (o := .tup vs) ht
      refine h _ I kn (rl.junk ht) _ ?_
      unfold RW
      exact ⟨t, _, rfl, .of upd_same, z2.mono kn⟩
    · exact False.elim h
  · exact False.elim h
theorem bi_list (hG : G.K = X.K) (m : Bool) : CallR X (.type "list") (rBi G E m "list") := by
  rintro pins s σ H xs us Q J r ⟨I, S, ws, rl, z, h⟩
  unfold builtin at h
  rw [if_neg (by decide), if_neg (by decide), if_neg (by decide), if_neg (by decide), if_neg (by decide), if_pos rfl] at h
  split at h
  · obtain ⟨v, rfl, h1⟩ := z.one
    split at h
    · rename_i ys e
      obtain ⟨a, vs, rfl, sq, z2⟩ := seq_of rl h1 e
      rw [hG] at sq
      exact call_list_of pins s σ H _ us Q J r ⟨a, vs, rfl, sq, mk_lst rl z2 h⟩
    · exact False.elim h
  · exact False.elim h
theorem bls_ok {H : Hp} {I : Ix} : ∀ {ws : List W} {vs : List V} {bs : List Bool}, RWs G H I ws vs → blsOf ws = some bs → vs = bs.map V.bl
  | [], _, _, h, e => by rw [h.inv0]; unfold blsOf at e; cases e; rfl
  | .bl x :: ws, _, _, h, e => by
    obtain ⟨v, r, rfl, h1, h2⟩ := h.inv
    unfold blsOf at e
    obtain ⟨bs, e1, rfl⟩ := Option.map_eq_some_iff.mp e
    unfold RW at h1; subst h1
    rw [bls_ok h2 e1]; rfl
  | .non :: _, _, _, _, e => by unfold blsOf at e; cases e
  | .int _ :: _, _, _, _, e => by unfold blsOf at e; cases e
  | .str _ :: _, _, _, _, e => by unfold blsOf at e; cases e
  | .ty _ :: _, _, _, _, e => by unfold blsOf at e; cases e
  | .tup _ :: _, _, _, _, e => by unfold blsOf at e; cases e
  | .fl _ _ :: _, _, _, _, e => by unfold blsOf at e; cases e
  | .fd _ _ :: _, _, _, _, e => by unfold blsOf at e; cases e
  | .fins _ _ _ :: _, _, _, _, e => by unfold blsOf at e; cases e
  | .ref _ :: _, _, _, _, e => by unfold blsOf at e; cases e
  | .glo _ :: _, _, _, _, e => by unfold blsOf at e; cases e
theorem strs_ok {H : Hp} {I : Ix} : ∀ {ws : List W} {vs : List V} {bs : List Str}, RWs G H I ws vs → strsOf ws = some bs → vs = bs.map V.str
  | [], _, _, h, e => by rw [h.inv0]; unfold strsOf at e; cases e; rfl
  | .str x :: ws, _, _, h, e => by
    obtain ⟨v, r, rfl, h1, h2⟩ := h.inv
    unfold strsOf at e
    obtain ⟨bs, e1, rfl⟩ := Option.map_eq_some_iff.mp e
    unfold RW at h1; subst h1
    rw [strs_ok h2 e1]; rfl
  | .non :: _, _, _, _, e => by unfold strsOf at e; cases e
  | .int _ :: _, _, _, _, e => by unfold strsOf at e; cases e
  | .bl _ :: _, _, _, _, e => by unfold strsOf at e; cases e
  | .ty _ :: _, _, _, _, e => by unfold strsOf at e; cases e
  | .tup _ :: _, _, _, _, e => by unfold strsOf at e; cases e
  | .fl _ _ :: _, _, _, _, e => by unfold strsOf at e; cases e
  | .fd _ _ :: _, _, _, _, e => by unfold strsOf at e; cases e
  | .fins _ _ _ :: _, _, _, _, e => by unfold strsOf at e; cases e
  | .ref _ :: _, _, _, _, e => by unfold strsOf at e; cases e
  | .glo _ :: _, _, _, _, e => by unfold strsOf at e; cases e
theorem bi_all (hG : G.K = X.K) (hc : X.calm = true) (m : Bool) : CallR X (.builtin "all") (rBi G E m "all") := by
  rintro pins s σ H xs us Q J r ⟨I, S, ws, rl, z, h⟩
  unfold builtin at h
  rw [if_neg (by decide), if_neg (by decide), if_neg (by decide), if_neg (by decide), if_neg (by decide), if_neg (by decide), if_pos rfl] at h
  split at h
  · obtain ⟨v, rfl, h1⟩ := z.one
    split at h
    · rename_i bs e
      obtain ⟨ys, e1, e2⟩ := Option.bind_eq_some_iff.mp e
      obtain ⟨a, vs, rfl, sq, z2⟩ := lst_of rl h1 e1
      rw [hG, bls_ok z2 e2] at sq
      exact cr_all hc pins s σ H _ us Q J r ⟨a, bs, rfl, sq, kV_now h rl (by unfold RW; rfl)⟩
    · exact False.elim h
  · exact False.elim h
theorem bi_any (hG : G.K = X.K) (hc : X.calm = true) (m : Bool) : CallR X (.builtin "any") (rBi G E m "any") := by
  rintro pins s σ H xs us Q J r ⟨I, S, ws, rl, z, h⟩
  unfold builtin at h
  rw [if_neg (by decide), if_neg (by decide), if_neg (by decide), if_neg (by decide), if_neg (by decide), if_neg (by decide), if_neg (by decide), if_pos rfl] at h
  split at h
  · obtain ⟨v, rfl, h1⟩ := z.one
    split at h
    · rename_i bs e
      obtain ⟨ys, e1, e2⟩ := Option.bind_eq_some_iff.mp e
      obtain ⟨a, vs, rfl, sq, z2⟩ := lst_of rl h1 e1
      rw [hG, bls_ok z2 e2] at sq
      exact cr_any hc pins s σ H _ us Q J r ⟨a, bs, rfl, sq, kV_now h rl (by unfold RW; rfl)⟩
    · exact False.elim h
  · exact False.elim h
theorem SqF.isList {pins : List (Addr × Obj)} {σ : L2.St} {H : Hp} {s : Shared} {a : Addr} {xs : List V} (J : Inv X pins σ H s) (h : SqL X.K H a xs) : TyX X.K H (.ref a) (.type "list") := by
  rcases h with (h | ⟨o, h⟩) | ⟨o, its, n, e, c, _⟩
  · exact .base (.lst h)
  · exact .base (.frz h)
  · exact .kList e c
theorem SqT.isTup {H : Hp} {a : Addr} {xs : List V} (h : SqT X.K H a xs) : TyX X.K H (.ref a) (.type "tuple") := by
  rcases h with (h | ⟨o, h⟩) | ⟨o, its, n, e, c, _⟩
  · exact .base (.tup h)
  · exact .fTuple h
  · exact .kTuple e c
theorem ty_ok (hG : G.K = X.K) {pins : List (Addr × Obj)} {σ : L2.St} {H : Hp} {s : Shared} {I : Ix} {S : So} {x : W} {v : V} {n : String} (J : Inv X pins σ H s) (r : Rel G H I S) (h : RW G H I x v) (e : tyOf x S = some n) : TyX X.K H v (.type n) := by
  unfold tyOf at e
  split at e
  · unfold RW at h; subst h; cases e; exact .base .non
  · unfold RW at h; subst h; cases e; exact .base (.bl _)
  · unfold RW at h; subst h; cases e; exact .base (.int _)
  · unfold RW at h; subst h; cases e; exact .base (.str _)
  · unfold RW at h; obtain ⟨a, vs, rfl, sq, _⟩ := h; cases e; rw [hG] at sq; exact SqT.isTup sq
  · unfold RW at h; obtain ⟨a, vs, rfl, sq, _⟩ := h; cases e
    have q := sq.now
    rw [hG] at q
    exact SqF.isList J q
  · unfold RW at h; obtain ⟨a, vs, rfl, sq, _⟩ := h; cases e
    exact .base (.dK sq.1)
  · unfold RW at h; obtain ⟨a, rfl, hi⟩ := h
    split at e
    · rename_i hS
      obtain ⟨vs, q, _⟩ := r.obj _ _ _ hS hi
      cases e; exact .base (.lst q)
    · rename_i hS
      obtain ⟨vs, q, _⟩ := r.obj _ _ _ hS hi
      cases e; exact .base (.dK q)
    · cases e
  · cases e
theorem bi_isi (hG : G.K = X.K) (m : Bool) : CallR X (.builtin "isinstance") (rBi G E m "isinstance") := by
  rintro pins s σ H xs us Q J r ⟨I, S, ws, rl, z, h⟩
  unfold builtin at h
  rw [if_neg (by decide), if_neg (by decide), if_neg (by decide), if_neg (by decide), if_neg (by decide), if_neg (by decide), if_neg (by decide), if_neg (by decide), if_pos rfl] at h
  split at h
  · obtain ⟨v, u, rfl, h1, h2⟩ := z.two
    unfold RW at h2; subst h2
    split at h
    · rename_i t et
      split at h
      · rename_i b eb
        exact call_isi pins s σ H _ us Q J r ⟨v, .ty _, .type t, .type _, b, rfl, .ty _, ty_ok hG J rl h1 et, kit_ty eb, kV_now h rl (by unfold RW; rfl)⟩
      · exact False.elim h
    · exact False.elim h
  · exact False.elim h
theorem bi_repr (hG : G.K = X.K) (hg : X.A.guards = some []) (hu : X.A.units + 200 < cLine) (y : Sys X.base) (m : Bool) : CallR X (.builtin "repr") (rBi G E m "repr") := by
  rintro pins s σ H xs us Q J r ⟨I, S, ws, rl, z, h⟩
  unfold builtin at h
  rw [if_neg (by decide), if_neg (by decide), if_neg (by decide), if_neg (by decide), if_neg (by decide), if_neg (by decide), if_neg (by decide), if_neg (by decide), if_neg (by decide), if_pos rfl] at h
  split at h
  · obtain ⟨v, rfl, h1⟩ := z.one
    split at h
    · rename_i d ed
      split at h
      · rename_i hc
        simp only [Bool.and_eq_true, decide_eq_true_eq] at hc
        have q := toD_ok rl h1 ed
        rw [hG] at q
        exact call_reprD hg hu y pins s σ H _ us Q J r ⟨v, d, rfl, q, hc.1.1, hc.1.2, hc.2, kV_now h rl (by unfold RW; rfl)⟩
      · exact False.elim h
    · exact False.elim h
  · exact False.elim h

/-! ### methods -/
end
section
open PyProof.Rows
theorem ext_any (p : Addr) (xs : Array Value) (m : Nat) (q : Addr) (ys : Array Value) (m2 : Nat) (dc : Option Addr) (sls : Array (Option Value)) (c1 : ¬(!xs.isEmpty && Builtin.List.listTooLong (xs.size + ys.size)) = true) (c2 : xs.size ≤ sizeLine) (c3 : xs.size + ys.size ≤ sizeLine + 1) :
    Meets (Builtin.«list.extend» ⟨[.ref p, .ref q], []⟩) (fun _ R s => s.heap.get? p = some { cls := .type "list", dict := none, data := .seq xs m, slots := #[] } ∧ s.heap.get? q = some { cls := .type "list", dict := dc, data := .seq ys m2, slots := sls } ∧
      R (.ok (.ret Value.none)) { s with heap := s.heap.update p (Obj.mapSeq fun x => x ++ ys), toks := s.toks }) :=
  .of_wp fun prog w A R s ⟨h1, h2, h3⟩ => by
    obtain ⟨hh, gg, dd, tt, oo⟩ := s
    have g1 := PySem.AutoSeq1.idx_int
    have g2 := PySem.AutoSeq1.sub_tuple_tuple
    have g3 := PySem.AutoSeq1.sub_list_list
    have g4 := PySem.AutoSeq1.sub_tuple_list
    have g5 := PySem.AutoSeq1.sub_list_tuple
    have c4 : (xs ++ ys).size ≤ sizeLine + 1 := by rw [Array.size_append]; exact c3
    wp_walk using (wpAny_updateSeq h1 rfl (hz := c2) (_hz' := c4)), PySem.AutoSeq1.wpAny_loadPart' h1, PySem.AutoSeq1.wpAny_loadPart' h2
    exact ⟨_, rfl, h3⟩
end
section
variable {X : Cx} {G : Gd} {E : EK}
def rMt (G : Gd) (E : EK) (mu : Bool) (m : Str) : V → List V → Hp → VK → Prop := fun x vs H Q => ∃ I S w ws, Rel G H I S ∧ RW G H I w x ∧ RWs G H I ws vs ∧ RE G E H I (kV' G Q) (method mu w m ws S)
theorem mz_append  (mu : Bool) : MtR X "list.append" (rMt G E mu "append") := by
  rintro pins s σ H x xs v us Q J rx rs ⟨I, S, w, ws, rl, hx, z, h⟩
  unfold method at h
  rw [if_pos rfl] at h
  split at h
  · obtain ⟨y, rfl, h1⟩ := z.one
    unfold RW at hx
    obtain ⟨a, rfl, hi⟩ := hx
    split at h
    · rename_i ys hS
      obtain ⟨vs, q, z2⟩ := rl.obj _ _ _ hS hi
      split at h
      · rename_i hl
        have kn := rl.keepPut (u := .lst (vs ++ [y])) hi
        refine mt_append pins s σ H _ _ v us Q J rx rs ⟨a, vs, y, rfl, rfl, q, by rw [← z2.len]; exact hl, ?_⟩
        exact h _ I kn (rl.put hi ⟨_, upd_same, (z2.append (.cons h1 .nil)).mono kn⟩) _ (by unfold RW; rfl)
      · exact False.elim h
    · exact False.elim h
  · exact False.elim h
/-- l.extend(b), b any list -/
theorem mt_extendL : MtM X "list.extend" (fun x vs H Q => ∃ l b xs zs, x = .ref l ∧ vs = [.ref b] ∧ H l = some (.lst xs) ∧ SqL X.K H b zs ∧ xs.length + zs.length ≤ sizeLine ∧ Q .non (upd H l (.lst (xs ++ zs)))) := by
  intro pins s σ H x vs v us Q I rx rv ⟨l, b, xs, zs, e1, e2, hH, hB, hz, q⟩
  subst e1 e2
  obtain rfl : v = Value.ref l := rx
  obtain ⟨u, rfl, ru⟩ := rv.one
  obtain rfl : u = Value.ref b := ru
  obtain ⟨z1, its, n, r, hl, e⟩ := I.lstM hH
  obtain ⟨its2, r2, ⟨ob, n2, g1, g2, g3, g4⟩, z2⟩ := I.list hB
  obtain ⟨oc, od, oda, osl⟩ := ob
  simp only at g2 g3 g4
  subst g2 g3 g4
  have l2 := r2.length
  have fits : its.toArray.size + its2.toArray.size ≤ sizeLine := by rw [List.size_toArray, List.size_toArray]; omega
  have c1 : ¬ (!its.toArray.isEmpty && Builtin.List.listTooLong (its.toArray.size + its2.toArray.size)) = true := by
    rw [notLongL fits, Bool.and_false]
    exact Bool.false_ne_true
  refine call_meets PySem.F.slot_list_extend ⟨_, e, rfl⟩ PySem.F.entry_list_extend (PySem.F.args_list_extend_2 _ _) (ext_any l its.toArray n b its2.toArray n2 _ osl c1 (by rw [List.size_toArray]; omega) (by omega)) ⟨e, g1, ?_⟩
  exact ⟨.non, _, I.lset (its' := its ++ its2) hH e (by simp) (r.append r2) (by rw [List.length_append]; omega), rfl, q⟩
theorem mz_extend (hG : G.K = X.K) (mu : Bool) : MtR X "list.extend" (rMt G E mu "extend") := by
  rintro pins s σ H x xs v us Q J rx rs ⟨I, S, w, ws, rl, hx, z, h⟩
  unfold method at h
  rw [if_neg (by decide), if_neg (by decide), if_neg (by decide), if_neg (by decide), if_pos rfl] at h
  split at h
  · obtain ⟨y, rfl, h1⟩ := z.one
    rw [RW] at hx
    obtain ⟨a, rfl, hi⟩ := hx
    split at h
    · rename_i ys zs hS hv
      obtain ⟨vs, q, z2⟩ := rl.obj _ _ _ hS hi
      obtain ⟨b, ts, rfl, sq, z3⟩ := lst_of rl h1 hv
      split at h
      · rename_i hl
        have kn := rl.keepPut (u := .lst (vs ++ ts)) hi
        rw [hG] at sq
        refine mt_extendL pins s σ H _ _ v us Q J rx rs ⟨a, b, vs, ts, rfl, rfl, q, sq, by rw [← z2.len, ← z3.len]; exact hl, ?_⟩
        exact h _ I kn (rl.put hi ⟨_, upd_same, (z2.append z3).mono kn⟩) _ (by rw [RW])
      · exact False.elim h
    · exact False.elim h
  · exact False.elim h
theorem RWs.dropLast {H : Hp} {I : Ix} {ws : List W} {vs : List V} (h : RWs G H I ws vs) : RWs G H I ws.dropLast vs.dropLast := by
  rw [List.dropLast_eq_take, List.dropLast_eq_take, h.len]
  exact h.take _
theorem mz_pop (mu : Bool) : MtR X "list.pop" (rMt G E mu "pop") := by
  rintro pins s σ H x xs v us Q J rx rs ⟨I, S, w, ws, rl, hx, z, h⟩
  unfold method at h
  rw [if_neg (by decide), if_neg (by decide), if_neg (by decide), if_neg (by decide), if_neg (by decide), if_pos rfl] at h
  split at h
  · have e0 := z.inv0
    subst e0
    rw [RW] at hx
    obtain ⟨a, rfl, hi⟩ := hx
    split at h
    · rename_i ys hS
      obtain ⟨vs, q, z2⟩ := rl.obj _ _ _ hS hi
      split at h
      · rename_i y hy
        obtain ⟨u, e1, hu⟩ := z2.get hy
        have kn := rl.keepPut (u := .lst vs.dropLast) hi
        refine mt_pop pins s σ H _ _ v us Q J rx rs ⟨a, vs, u, rfl, rfl, q, by rw [← z2.len]; exact e1, ?_⟩
        exact h _ I kn (rl.put hi ⟨_, upd_same, (z2.dropLast).mono kn⟩) _ (hu.mono kn)
      · exact False.elim h
    · exact False.elim h
  · exact False.elim h
theorem RKs.none {H : Hp} {I : Ix} {k : Kd} {q : L2.Key} {ws : List (Kd × W)} {vs : List (L2.Key × V)} (h : RKs G H I ws vs) (ek : kOf k = some q) : (findK ws k).isSome = (valV vs q).isSome := h.has ek
/-- d.get(k, d0) by values -/
theorem get_run (hG : G.K = X.K) (hW : G.w = X.w) (hu : X.A.units + 200 < cLine) {pins : List (Addr × Obj)} {σ : L2.St} {H : Hp} {s : Shared} {I : Ix} {S : So} {x k d r : W} {a b c : V} {u v dv : Value} {rest : List Value} {Q : VK} (hr : rest = [dv] ∨ (rest = [] ∧ dv = .none))
    (J : Inv X pins σ H s) (rl : Rel G H I S) (hx : RW G H I x a) (hk : RW G H I k b) (hd : RW G H I d c) (rx : RelV a v) (rk : RelV b u) (rd : RelV c dv) (e : getW x k d S = some r) (q : ∀ z, RW G H I r z → Q z H) :
    wpAny (model X.prog X.w) X.A (PySem.call (.builtin "dict.get") (v :: u :: rest)) (EP X pins σ Q) X.xe s := by
  unfold getW at e
  cases ek : toK k with
  | none => rw [ek] at e; cases e
  | some p =>
    rw [ek] at e
    simp only at e
    cases ed : dctOf x S with
    | some kvs =>
      rw [ed] at e
      simp only at e
      obtain ⟨l, vs, rfl, q1, zz⟩ := dct_of rl hx ed
      obtain rfl : v = Value.ref l := rx
      split at e
      · rename_i hs
        obtain ⟨q', e1, hy⟩ := toK_flat hk ek (see_k hs)
        subst hy
        have hh := zz.has e1
        cases ef : findK kvs p with
        | none =>
          rw [ef] at e hh
          cases e
          have hn : valV vs q' = none := by
            cases t : valV vs q' with
            | none => rfl
            | some _ => rw [t] at hh; cases hh
          exact fd_getD hr J q1 rk (fun v w' s' h => by rw [hn] at h; cases h) fun s' _ J' => ⟨c, H, J', rd, q _ hd⟩
        | some w =>
          rw [ef] at e
          cases e
          obtain ⟨v', e3, q2⟩ := zz.find e1 ef
          exact fd_getD hr J q1 rk (fun v w' s' h J' rv => by rw [e3] at h; cases h; exact ⟨v', H, J', rv, q _ q2⟩) fun s' h _ => by rw [e3] at h; cases h
      · split at e
        · rename_i hs
          cases e
          have h0 : kvs = [] := List.isEmpty_iff.mp hs.1
          subst h0
          have h1 := zz.inv0
          subst h1
          obtain ⟨c', rfl, kk, hdp⟩ := nest_at hk ek hs.2
          rw [hG] at kk
          obtain rfl : u = Value.ref c' := rk
          exact nd_getD0 hr hu J q1 kk hdp fun s' J' => ⟨c, H, J', rd, q _ hd⟩
        · cases e
    | none =>
      rw [ed] at e
      simp only at e
      split at e
      · rename_i kvs en
        split at e
        · rename_i hs
          obtain ⟨l, es, rfl, q1, zz⟩ := nd_of rl hx en
          obtain ⟨c', rfl, kk, hdp⟩ := nest_at hk ek hs
          have keys := zz.keys
          rw [hG] at kk keys
          rw [hW] at q1
          obtain rfl : v = Value.ref l := rx
          obtain rfl : u = Value.ref c' := rk
          obtain ⟨f1, f2⟩ := zz.find (k := p)
          cases ef : findK kvs p with
          | none =>
            have hn := f2 ef
            rw [ef] at e
            cases e
            exact nd_getD hr hu J q1 keys kk hdp (fun v w' s' h => by rw [hn] at h; cases h) fun s' _ J' => ⟨c, H, J', rd, q _ hd⟩
          | some w =>
            rw [ef] at e
            cases e
            obtain ⟨v', e3, q2⟩ := f1 _ ef
            exact nd_getD hr hu J q1 keys kk hdp (fun v w' s' h J' rv => by rw [e3] at h; cases h; exact ⟨v', H, J', rv, q _ q2⟩) fun s' h _ => by rw [e3] at h; cases h
        · cases e
      · cases e
theorem mz_get (hG : G.K = X.K) (hW : G.w = X.w) (hu : X.A.units + 200 < cLine) (mu : Bool) : MtR X "dict.get" (rMt G E mu "get") := by
  rintro pins s σ H x xs v us Q J rx rs ⟨I, S, w, ws, rl, hx, z, h⟩
  unfold method at h
  rw [if_neg (by decide), if_neg (by decide), if_neg (by decide), if_neg (by decide), if_neg (by decide), if_neg (by decide), if_pos rfl] at h
  split at h
  · obtain ⟨y, rfl, h1⟩ := z.one
    obtain ⟨u, rfl, ru⟩ := rs.one
    unfold ofO at h
    split at h
    · rename_i r er
      exact get_run hG hW hu (.inr ⟨rfl, rfl⟩) J rl hx h1 (c := .non) (by unfold RW; rfl) rx ru rfl er fun z hz => h _ I (Keep.refl ..) rl _ hz
    · exact False.elim h
  · obtain ⟨y, ys, rfl, h1, h2⟩ := z.inv
    obtain ⟨y2, rfl, h3⟩ := h2.one
    cases rs with
    | cons ru rr =>
      obtain ⟨u2, rfl, ru2⟩ := Vals.one rr
      unfold ofO at h
      split at h
      · rename_i r er
        exact get_run hG hW hu (.inl rfl) J rl hx h1 h3 rx ru ru2 er fun z hz => h _ I (Keep.refl ..) rl _ hz
      · exact False.elim h
  · exact False.elim h
theorem mz_join (hG : G.K = X.K) (mu : Bool) : MtR X "str.join" (rMt G E mu "join") := by
  rintro pins s σ H x xs v us Q J rx rs ⟨I, S, w, ws, rl, hx, z, h⟩
  unfold method at h
  rw [if_neg (by decide), if_pos rfl] at h
  split at h
  · obtain ⟨y, rfl, h1⟩ := z.one
    unfold RW at hx; subst hx
    split at h
    · rename_i ys e
      obtain ⟨ks, e1, e2⟩ := Option.bind_eq_some_iff.mp e
      obtain ⟨a, vs, rfl, sq, z2⟩ := seq_of rl h1 e1
      rw [hG, strs_ok z2 e2] at sq
      split at h
      · rename_i hl
        exact mt_join pins s σ H _ _ v us Q J rx rs ⟨_, a, ys, rfl, rfl, sq, hl, kV_now h rl (by unfold RW; rfl)⟩
      · exact False.elim h
    · exact False.elim h
  · exact False.elim h
theorem RWs.strs {H : Hp} {I : Ix} : ∀ ys : List Str, RWs G H I (ys.map W.str) (ys.map V.str)
  | [] => .nil
  | y :: ys => .cons (by unfold RW; rfl) (RWs.strs ys)
theorem mz_split  (mu : Bool) : MtR X "str.split" (rMt G E mu "split") := by
  rintro pins s σ H x xs v us Q J rx rs ⟨I, S, w, ws, rl, hx, z, h⟩
  unfold method at h
  rw [if_neg (by decide), if_neg (by decide), if_pos rfl] at h
  split at h
  · obtain ⟨y, rfl, h1⟩ := z.one
    unfold RW at hx h1; subst hx h1
    split at h
    · rename_i hl
      exact mt_split pins s σ H _ _ v us Q J rx rs ⟨_, _, rfl, rfl, hl.1, hl.2, mk_lst rl (RWs.strs _) h⟩
    · exact False.elim h
  · exact False.elim h
theorem mz_partition  (mu : Bool) : MtR X "str.partition" (rMt G E mu "partition") := by
  rintro pins s σ H x xs v us Q J rx rs ⟨I, S, w, ws, rl, hx, z, h⟩
  unfold method at h
  rw [if_neg (by decide), if_neg (by decide), if_neg (by decide), if_pos rfl] at h
  split at h
  · obtain ⟨y, rfl, h1⟩ := z.one
    unfold RW at hx h1; subst hx h1
    split at h
    · rename_i hl
      refine mt_partition pins s σ H _ _ v us Q J rx rs ⟨_, _, rfl, rfl, hl.1, hl.2, fun t ht => ?_⟩
      refine h _ I (Keep.junk ht) (rl.junk ht) _ ?_
      unfold RW
      exact ⟨t, _, rfl, .of upd_same, .cons (by unfold RW; rfl) (.cons (by unfold RW; rfl) (.cons (by unfold RW; rfl) .nil))⟩
    · exact False.elim h
  · exact False.elim h
end
end Y

/-! Judgements over the second machine: expressions. -/
namespace Y
open PySem PySem.Spec PyProof.Rows L2
open D (model2 Kept Cl Alike deadS)
/-- .. and who sleeps goes on sleeping -/
def KQ {α : Type} (G : Array GenState) (Q : α → Shared → Prop) : α → Shared → Prop := fun a s => Kept G s.gens ∧ Q a s
def wq (X : Cx) {α : Type} (t : Sem α) (Q : α → Shared → Prop) (s : Shared) : Prop := ∀ G, Kept G s.gens → wpAny (model2 X.prog X.w) X.A t (KQ G Q) (KQ G X.xe) s
theorem wq.th {X : Cx} {α : Type} {t : Sem α} {Q Q' : α → Shared → Prop} {s : Shared} (h : wq X t Q s) {G : Array GenState} (g : Kept G s.gens) (f : ∀ a s', Kept G s'.gens → Q a s' → Q' a s') : wpAny (model2 X.prog X.w) X.A t Q' (KQ G X.xe) s :=
  wpAny_mono (h G g) (fun a s' q => f a s' q.1 q.2) fun _ _ x => x
theorem inv_alike {X : Cx} {pins : List (Addr × Obj)} {σ : L2.St} {H : Hp} {s s2 : Shared} (J : Inv X pins σ H s) (a : Alike s s2) : Inv X pins σ H s2 := by
  obtain ⟨h, g, d, t, o⟩ := s
  obtain ⟨h2, g2, d2, t2, o2⟩ := s2
  obtain ⟨rfl, rfl, rfl, rfl, b⟩ := a
  exact ⟨J.ok, J.os, b J.bare, J.base, J.loc, J.cell, J.free, J.freeC, J.pin, J.hok, J.len⟩
theorem inv_dead {X : Cx} {pins : List (Addr × Obj)} {σ : L2.St} {H : Hp} {s : Shared} (J : Inv X pins σ H s) : Inv X pins σ H (deadS s) := inv_alike J (D.alike_dead s)
theorem cl_EP {X : Cx} {pins : List (Addr × Obj)} {σ : L2.St} {Q : VK} : Cl (EP X pins σ Q) := fun _ _ _ a ⟨v, H, J, r, q⟩ => ⟨v, H, inv_alike J a, r, q⟩
theorem cl_TP {X : Cx} {pins : List (Addr × Obj)} {σ : L2.St} {Q : Bool → Hp → Prop} : Cl (TP X pins σ Q) := fun _ _ _ a ⟨H, J, q⟩ => ⟨H, inv_alike J a, q⟩
theorem cl_AP {X : Cx} {pins : List (Addr × Obj)} {σ : L2.St} {Q : List V → Hp → Prop} : Cl (AP X pins σ Q) := fun _ _ _ a ⟨v, H, J, r, q⟩ => ⟨v, H, inv_alike J a, r, q⟩
theorem cl_SP {X : Cx} {pins : List (Addr × Obj)} {D : Ends} : Cl (SP X pins D) := fun f _ _ a h => by
  cases f with
  | next => obtain ⟨σ, H, J, q⟩ := h; exact ⟨σ, H, inv_alike J a, q⟩
  | brk => obtain ⟨σ, H, J, q⟩ := h; exact ⟨σ, H, inv_alike J a, q⟩
  | cont => obtain ⟨σ, H, J, q⟩ := h; exact ⟨σ, H, inv_alike J a, q⟩
  | ret u => obtain ⟨v, σ, H, J, r, q⟩ := h; exact ⟨v, σ, H, inv_alike J a, r, q⟩
theorem cl_any {α : Type} {X : Cx} {pins : List (Addr × Obj)} {R : L2.St → Hp → Prop} : Cl (fun (_ : α) s' => ∃ σ' H', Inv X pins σ' H' s' ∧ R σ' H') := fun _ _ _ a ⟨σ, H, J, q⟩ => ⟨σ, H, inv_alike J a, q⟩
theorem cl_anyH {α : Type} {X : Cx} {pins : List (Addr × Obj)} {σ : L2.St} {R : Hp → Prop} : Cl (fun (_ : α) s' => ∃ H', Inv X pins σ H' s' ∧ R H') := fun _ _ _ a ⟨H, J, q⟩ => ⟨H, inv_alike J a, q⟩
theorem nx {X : Cx} {pins : List (Addr × Obj)} {σ : L2.St} {H : Hp} {s : Shared} (J : Inv X pins σ H s) : Inv X.nox pins σ H (deadS s) := (inv_dead J).wish _
theorem un_EP {X : Cx} {pins : List (Addr × Obj)} {σ : L2.St} {Q : VK} {v : Value} {s : Shared} (h : EP X.nox pins σ Q v s) : EP X pins σ Q v s := let ⟨a, H, J, r, q⟩ := h; ⟨a, H, J.unwish, r, q⟩
theorem un_TP {X : Cx} {pins : List (Addr × Obj)} {σ : L2.St} {Q : Bool → Hp → Prop} {v : Bool} {s : Shared} (h : TP X.nox pins σ Q v s) : TP X pins σ Q v s := let ⟨H, J, q⟩ := h; ⟨H, J.unwish, q⟩
/-- what the first machine shows -/
theorem wq.of {X : Cx} {α : Type} {t : Sem α} {Q : α → Shared → Prop} {s : Shared} (h : wpAny (model X.prog X.w) X.A t Q (fun _ _ => False) (deadS s)) (c : Cl Q) : wq X t Q s := fun _ g => wpAny_mono (D.lift h c (E := fun _ _ => False) (fun _ _ _ _ z => z) g) (fun _ _ z => z) fun _ _ z => z.2.elim

structure PE (X : Cx) (e : Expr) (t : TE) : Prop where
  run : ∀ (pins : List (Addr × Obj)) (s : Shared) (σ : L2.St) (H : Hp) (Q : VK), Inv X pins σ H s → t σ H Q → wq X (eval e X.env) (EP X pins σ Q) s
structure PT (X : Cx) (e : Expr) (t : TT) : Prop where
  run : ∀ (pins : List (Addr × Obj)) (s : Shared) (σ : L2.St) (H : Hp) (Q : Bool → Hp → Prop), Inv X pins σ H s → t σ H Q → wq X (isTrue e X.env (eval e X.env)) (TP X pins σ Q) s
structure PW (X : Cx) (e : Expr) (t : TT) : Prop where
  run : ∀ (whole : Sem Value) (pins : List (Addr × Obj)) (s : Shared) (σ : L2.St) (H : Hp) (Q : Bool → Hp → Prop), Inv X pins σ H s → t σ H Q → wq X (isTrue e X.env whole) (TP X pins σ Q) s
theorem PW.pt {X : Cx} {e : Expr} {t : TT} (h : PW X e t) : PT X e t := ⟨h.run _⟩
structure PA (X : Cx) (es : List Expr) (t : TA) : Prop where
  run : ∀ (pos : Pos) (pins : List (Addr × Obj)) (s : Shared) (σ : L2.St) (H : Hp) (Q : List V → Hp → Prop), Inv X pins σ H s → t σ H Q → wq X (spliced (backTo pos (starEach es X.env))) (AP X pins σ Q) s
structure PK (X : Cx) (kws : List Keyword) (t : TA) : Prop where
  run : ∀ (pos : Pos) (pins : List (Addr × Obj)) (s : Shared) (σ : L2.St) (H : Hp) (Q : List V → Hp → Prop), Inv X pins σ H s → t σ H Q → wq X (evalAll ((backToKw pos (keywordEach kws X.env)).map (·.2))) (AP X pins σ Q) s
section
variable {X : Cx} {a b c e o : Expr} {es rest : List Expr} {ta tb tc te : TE} {t : TA} {pos : Pos}
theorem PE.lift (h : L2.PE X.nox e te) : PE X e te := ⟨fun pins s σ H Q J q => .of (thn (h.run pins _ σ H Q (nx J) q) fun _ _ => un_EP) cl_EP⟩
theorem PT.lift {t : TT} (h : L2.PT X.nox e t) : PT X e t := ⟨fun pins s σ H Q J q => .of (thn (h.run pins _ σ H Q (nx J) q) fun _ _ => un_TP) cl_TP⟩
/-- operators, built-ins, methods over values: as on the first machine -/
theorem opQ {f : Value → Value → Sem Value} {r : R2} (h : OpR X.nox f r) {pins : List (Addr × Obj)} {s : Shared} {σ : L2.St} {H : Hp} {y z : V} {v u : Value} {Q : VK} (J : Inv X pins σ H s) (r1 : RelV y v) (r2 : RelV z u) (q : r y z H Q) : wq X (f v u) (EP X pins σ Q) s :=
  .of (thn (h pins _ σ H y z v u Q (nx J) r1 r2 q) fun _ _ => un_EP) cl_EP
theorem unQ {f : Value → Sem Value} {r : V → Hp → VK → Prop} (h : UnR X.nox f r) {pins : List (Addr × Obj)} {s : Shared} {σ : L2.St} {H : Hp} {y : V} {v : Value} {Q : VK} (J : Inv X pins σ H s) (r1 : RelV y v) (q : r y H Q) : wq X (f v) (EP X pins σ Q) s :=
  .of (thn (h pins _ σ H y v Q (nx J) r1 q) fun _ _ => un_EP) cl_EP
theorem callQ {f : Value} {r : List V → Hp → VK → Prop} (h : CallR X.nox f r) {pins : List (Addr × Obj)} {s : Shared} {σ : L2.St} {H : Hp} {ys : List V} {us : List Value} {Q : VK} (J : Inv X pins σ H s) (r1 : Vals ys us) (q : r ys H Q) : wq X (PySem.call f us) (EP X pins σ Q) s :=
  .of (thn (h pins _ σ H ys us Q (nx J) r1 q) fun _ _ => un_EP) cl_EP
theorem truQ {pins : List (Addr × Obj)} {s : Shared} {σ : L2.St} {H : Hp} {y : V} {v : Value} {Q : Bool → Hp → Prop} (J : Inv X pins σ H s) (r1 : RelV y v) (q : ∃ k, TruV X.K y H k ∧ Q k H) : wq X (truthy v) (TP X pins σ Q) s :=
  .of (thn (tru_ok (X := X.nox) pins _ σ H y v Q (nx J) r1 q) fun _ _ => un_TP) cl_TP
theorem pe_op {op : Operator} {r : R2} (h : OpR X.nox (binaryOp op) r) (ha : PE X a ta) (hb : PE X b tb) : PE X (.BinOp a op b pos) (tOp r ta tb) :=
  ⟨fun pins s σ H Q J q G g => wpAny_BinOp ((ha.run pins s σ H _ J q).th g fun v s1 g1 ⟨y, H1, J1, r1, q1⟩ => (hb.run pins s1 σ H1 _ J1 q1).th g1 fun u s2 g2 ⟨z, H2, J2, r2, q2⟩ => opQ h J2 r1 r2 q2 G g2)⟩
theorem pe_un {op : UnaryOp} {r : V → Hp → VK → Prop} (h : UnR X.nox (unaryOp op) r) (ha : PE X a ta) : PE X (.UnaryOp op a pos) (tUn r ta) :=
  ⟨fun pins s σ H Q J q G g => UnaryOp_ ((ha.run pins s σ H _ J q).th g fun v s1 g1 ⟨y, H1, J1, r1, q1⟩ => unQ h J1 r1 q1 G g1)⟩
theorem pe_cmpR {op : CmpOp} {r : R2} (h : OpR X.nox (compareOp op) r) (ha : PE X a ta) (hb : PE X b tb) (hm : behindInMarks op b = false) : PE X (.Compare a [op] [b] pos) (tOp r ta tb) :=
  ⟨fun pins s σ H Q J q G g => wpAny_Compare1 ((ha.run pins s σ H _ J q).th g fun v s1 g1 ⟨y, H1, J1, r1, q1⟩ => (hb.run pins s1 σ H1 _ J1 q1).th g1 fun u s2 g2 ⟨z, H2, J2, r2, q2⟩ => opQ h J2 r1 r2 q2 G g2) hm⟩
theorem pt_cmpR {op : CmpOp} {r : R2} (h : OpR X.nox (compareOp op) r) (ha : PE X a ta) (hb : PE X b tb) (hm : behindInMarks op b = false) : PT X (.Compare a [op] [b] pos) (tTest (tOp r ta tb)) :=
  ⟨fun pins s σ H Q J q G g => wpAny_isTrue_Compare1 ((ha.run pins s σ H _ J q).th g fun v s1 g1 ⟨y, H1, J1, r1, q1⟩ => (hb.run pins s1 σ H1 _ J1 q1).th g1 fun u s2 g2 ⟨z, H2, J2, r2, q2⟩ =>
    (opQ h J2 r1 r2 q2).th g2 fun d s3 g3 ⟨i, H3, J3, r3, k, e, q3⟩ => by
      subst e
      cases r3
      exact wpAny_truthy_bool ⟨g3, H3, J3, q3⟩) hm⟩
theorem pe_chain {op op' : CmpOp} {r r' : R2} (h : OpR X.nox (compareOp op) r) (h' : OpR X.nox (compareOp op') r') (ha : PE X a ta) (hb : PE X b tb) (hc : PE X c tc) (hm : lastMarks [op, op'] [b, c] = false) : PE X (.Compare a [op, op'] [b, c] pos) (tChain r r' ta tb tc) := by
  refine ⟨fun pins s σ H Q J q G g => ?_⟩
  refine Compare_chain ((ha.run pins s σ H _ J q).th g fun v s1 g1 ⟨y, H1, J1, r1, q1⟩ => chain_link ((hb.run pins s1 σ H1 _ J1 q1).th g1 fun u s2 g2 ⟨z, H2, J2, r2, q2⟩ =>
    (opQ h J2 r1 r2 q2).th g2 fun d s3 g3 ⟨i, H3, J3, r3, k, e, q3⟩ => ?_)) hm
  subst e
  cases r3
  refine wpAny_truthy_bool ?_
  cases k with
  | false => exact ite_ff ⟨g3, .bl false, H3, J3, rfl, q3⟩
  | true => exact ite_tt (chain_last ((hc.run pins s3 σ H3 _ J3 q3).th g3 fun w' s4 g4 ⟨z', H4, J4, r4, q4⟩ => opQ h' J4 r2 r4 q4 G g4))
theorem pt_chain {op op' : CmpOp} {r r' : R2} (h : OpR X.nox (compareOp op) r) (h' : OpR X.nox (compareOp op') r') (ha : PE X a ta) (hb : PE X b tb) (hc : PE X c tc) (hm : lastMarks [op, op'] [b, c] = false) : PT X (.Compare a [op, op'] [b, c] pos) (tTest (tChain r r' ta tb tc)) := by
  refine ⟨fun pins s σ H Q J q G g => ?_⟩
  refine isTrue_chain ((ha.run pins s σ H _ J q).th g fun v s1 g1 ⟨y, H1, J1, r1, q1⟩ => test_link ((hb.run pins s1 σ H1 _ J1 q1).th g1 fun u s2 g2 ⟨z, H2, J2, r2, q2⟩ =>
    (opQ h J2 r1 r2 q2).th g2 fun d s3 g3 ⟨i, H3, J3, r3, k, e, q3⟩ => ?_)) hm
  subst e
  cases r3
  refine wpAny_truthy_bool ?_
  cases k with
  | false =>
    obtain ⟨k', e', q'⟩ := q3
    cases e'
    exact ite_ff ⟨g3, H3, J3, q'⟩
  | true =>
    refine ite_tt (test_last ((hc.run pins s3 σ H3 _ J3 q3).th g3 fun w' s4 g4 ⟨z', H4, J4, r4, q4⟩ => (opQ h' J4 r2 r4 q4).th g4 fun d' s5 g5 ⟨z2, H5, J5, r5, k2, e2, q5⟩ => ?_))
    subst e2
    cases r5
    exact wpAny_truthy_bool ⟨g5, H5, J5, q5⟩
theorem pt_truth (ha : PE X a ta) (he : ∀ whole, isTrue a X.env whole = (do let v ← whole; standAt a.pos; holding [v] (truthy v))) : PT X a (fun σ H Q => ta σ H fun x H' => ∃ k, TruV X.K x H' k ∧ Q k H') :=
  ⟨fun pins s σ H Q J q G g => isTrue_plain ((ha.run pins s σ H _ J q).th g fun v s1 g1 ⟨y, H1, J1, r1, q1⟩ => truQ J1 r1 q1 G g1) (he _)⟩
theorem pe_one {op : BoolOp} (h : PE X a ta) : PE X (.BoolOp op [a] pos) ta := ⟨fun pins s σ H Q J q G g => BoolOp_one (h.run pins s σ H Q J q G g)⟩
theorem pe_orT (ha : PE X a ta) (hb : PE X (.BoolOp .Or (b :: rest) pos) tb) : PE X (.BoolOp .Or (a :: b :: rest) pos) (tOrT X.K ta tb) := by
  refine ⟨fun pins s σ H Q J q G g => BoolOp_or ((ha.run pins s σ H _ J q).th g fun v s1 g1 ⟨y, H1, J1, r1, k, e, q1⟩ => ?_)⟩
  refine (truQ (Q := fun d H2 => d = k ∧ H2 = H1) J1 r1 ⟨k, e, rfl, rfl⟩).th g1 fun d s2 g2 ⟨H2, J2, e1, e2⟩ => ?_
  subst e1 e2
  cases d with
  | true => exact ⟨g2, y, H2, J2, r1, q1⟩
  | false => exact hb.run pins s2 σ H2 Q J2 q1 G g2
theorem pe_andT (ha : PE X a ta) (hb : PE X (.BoolOp .And (b :: rest) pos) tb) : PE X (.BoolOp .And (a :: b :: rest) pos) (tAndT X.K ta tb) := by
  refine ⟨fun pins s σ H Q J q G g => BoolOp_and ((ha.run pins s σ H _ J q).th g fun v s1 g1 ⟨y, H1, J1, r1, k, e, q1⟩ => ?_)⟩
  refine (truQ (Q := fun d H2 => d = k ∧ H2 = H1) J1 r1 ⟨k, e, rfl, rfl⟩).th g1 fun d s2 g2 ⟨H2, J2, e1, e2⟩ => ?_
  subst e1 e2
  cases d with
  | true => exact hb.run pins s2 σ H2 Q J2 q1 G g2
  | false => exact ⟨g2, y, H2, J2, r1, q1⟩
theorem pe_notT (ha : PE X a ta) : PE X (.UnaryOp .Not a pos) (tNotT X.K ta) :=
  ⟨fun pins s σ H Q J q G g => UnaryOp_ ((ha.run pins s σ H _ J q).th g fun v s1 g1 ⟨y, H1, J1, r1, k, e, q1⟩ =>
    not_of ((truQ (Q := fun d H2 => Q (.bl (!d)) H2) J1 r1 ⟨k, e, q1⟩).th g1 fun d s2 g2 ⟨H2, J2, q2⟩ => ⟨g2, .bl (!d), H2, J2, rfl, q2⟩))⟩
section
variable {tA tB' : TT}
theorem pw_and1 (ha : PT X a tA) : PW X (.BoolOp .And [a] pos) tA := by
  refine ⟨fun wh pins s σ H Q J q G g => isTrue_and ((ha.run pins s σ H Q J q).th g fun d s1 g1 e => ?_)⟩
  cases d with
  | true => exact isTrue_and_nil ⟨g1, e⟩
  | false => exact ⟨g1, e⟩
theorem pw_or1 (ha : PT X a tA) : PW X (.BoolOp .Or [a] pos) tA := by
  refine ⟨fun wh pins s σ H Q J q G g => isTrue_or ((ha.run pins s σ H Q J q).th g fun d s1 g1 e => ?_)⟩
  cases d with
  | false => exact isTrue_or_nil ⟨g1, e⟩
  | true => exact ⟨g1, e⟩
theorem pw_and (ha : PT X a tA) (hb : PW X (.BoolOp .And (b :: rest) pos) tB') : PW X (.BoolOp .And (a :: b :: rest) pos) (tAnd tA tB') := by
  refine ⟨fun wh pins s σ H Q J q G g => isTrue_and ((ha.run pins s σ H _ J q).th g fun d s1 g1 ⟨H1, J1, q1⟩ => ?_)⟩
  cases d with
  | true => exact hb.run wh pins s1 σ H1 Q J1 q1 G g1
  | false => exact ⟨g1, H1, J1, q1⟩
theorem pw_or (ha : PT X a tA) (hb : PW X (.BoolOp .Or (b :: rest) pos) tB') : PW X (.BoolOp .Or (a :: b :: rest) pos) (tOr tA tB') := by
  refine ⟨fun wh pins s σ H Q J q G g => isTrue_or ((ha.run pins s σ H _ J q).th g fun d s1 g1 ⟨H1, J1, q1⟩ => ?_)⟩
  cases d with
  | true => exact ⟨g1, H1, J1, q1⟩
  | false => exact hb.run wh pins s1 σ H1 Q J1 q1 G g1
theorem pt_not (ha : PT X a tA) : PT X (.UnaryOp .Not a pos) (tNot tA) :=
  ⟨fun pins s σ H Q J q G g => isTrue_not ((ha.run pins s σ H (fun d H1 => Q (!d) H1) J q).th g fun d s1 g1 e => ⟨g1, e⟩)⟩
theorem pe_ifExp (hc : PT X c tA) (ha : PE X a ta) (hb : PE X b tb) : PE X (.IfExp c a b pos) (tIf tA ta tb) := by
  refine ⟨fun pins s σ H Q J q G g => wpAny_IfExp ((hc.run pins s σ H _ J q).th g fun d s1 g1 ⟨H1, J1, q1⟩ => ?_)⟩
  cases d with
  | true => exact ha.run pins s1 σ H1 Q J1 q1 G g1
  | false => exact hb.run pins s1 σ H1 Q J1 q1 G g1
end
theorem pa_nil : PA X [] tNil := ⟨fun pos pins s σ H Q J q G g => Calls.spliced_nil ⟨g, [], H, J, .nil, q⟩⟩
theorem pa_cons (ha : PE X e te) (hr : PA X es t) (hs : starEach (e :: es) X.env = (false, eval e X.env) :: starEach es X.env := by rfl) : PA X (e :: es) (tCons te t) := by
  refine ⟨fun pos pins s σ H Q J q G g => ?_⟩
  rw [hs]
  show wpAny _ _ (spliced ((false, eval e X.env) :: backTo pos (starEach es X.env))) _ _ s
  refine Calls.spliced_cons ((ha.run pins s σ H _ J q).th g fun u s1 g1 ⟨y, H1, J1, r1, q1⟩ => ?_)
  exact (hr.run pos pins s1 σ H1 _ J1 q1).th g1 fun us s2 g2 ⟨ys, H2, J2, r2, q2⟩ => ⟨g2, y :: ys, H2, J2, .cons r1 r2, q2⟩
theorem pk_nil : PK X [] tNil := ⟨fun _ _ _ _ H Q J q G g => wpAny_evalAll_nil ⟨g, [], H, J, .nil, q⟩⟩
theorem pk_cons {nm : Option Str} {kpos : Pos} {kws : List Keyword} (ha : PE X e te) (hr : PK X kws t) : PK X (⟨nm, e, kpos⟩ :: kws) (tCons te t) := by
  refine ⟨fun pos pins s σ H Q J q G g => ?_⟩
  show wpAny _ _ (evalAll ((do let v ← eval e X.env; standAt pos; pure v) :: (backToKw pos (keywordEach kws X.env)).map (·.2))) _ _ s
  refine wpAny_evalAll_cons (wpAny_bind ((ha.run pins s σ H _ J q).th g fun u s1 g1 ⟨y, H1, J1, r1, q1⟩ => wpAny_bind (wpAny_standAt (wpAny_pure ?_))))
  exact (hr.run pos pins s1 σ H1 _ J1 q1).th g1 fun us s2 g2 ⟨ys, H2, J2, r2, q2⟩ => ⟨g2, y :: ys, H2, J2, .cons r1 r2, q2⟩
theorem inv_same {pins : List (Addr × Obj)} {σ : L2.St} {H : Hp} {s s2 : Shared} (J : Inv X pins σ H s) (h : s2.heap = s.heap) (o : s2.os = s.os) (b : AllBare s2.gens) : Inv X pins σ H s2 := by
  obtain ⟨h1, g, d, t, o1⟩ := s
  obtain ⟨h2, g2, d2, t2, o2⟩ := s2
  obtain rfl : h2 = h1 := h
  obtain rfl : o2 = o1 := o
  exact ⟨J.ok, J.os, b, J.base, J.loc, J.cell, J.free, J.freeC, J.pin, J.hok, J.len⟩
theorem pe_tup {j : Nat} (h : PA X es t) : PE X (.Tuple es j pos) (tTup t) := by
  refine ⟨fun pins s σ H Q J q G g => Tuple_ ((h.run pos pins s σ H _ J q).th g fun us s1 g1 ⟨xs, H1, J1, r, z, q1⟩ => ?_)⟩
  have hf : H1 s1.heap.objs.size = none := J1.hok.fresh (Nat.le_refl _)
  exact wpAny_newTuple ⟨g1, .ref s1.heap.objs.size, upd H1 s1.heap.objs.size (.tup xs), J1.laid (t' := s1.toks) (fun b u e => Heap.get?_push_of_some _ e) (Nat.le_refl _) ⟨z, us, r, ⟨_, Heap.get?_push_size _ rfl, rfl, _, rfl⟩⟩, rfl, q1 _ hf⟩ (by rw [← r.length]; exact z)
theorem pe_lst (h : PA X es t) : PE X (.List es pos) (tLst t) := by
  refine ⟨fun pins s σ H Q J q G g => List_ ((h.run pos pins s σ H _ J q).th g fun us s1 g1 ⟨xs, H1, J1, r, z, q1⟩ => ?_)⟩
  have hf : H1 s1.heap.objs.size = none := J1.hok.fresh (Nat.le_refl _)
  exact wpAny_newList ⟨g1, .ref s1.heap.objs.size, upd H1 s1.heap.objs.size (.lst xs), J1.laid (t' := s1.toks) (fun b u e => Heap.get?_push_of_some _ e) (Nat.le_refl _) ⟨z, us, 0, r, Heap.get?_push_size _ rfl⟩, rfl, q1 _ hf⟩ (by rw [← r.length]; exact z)
theorem ldB {E : Value → Shared → Prop} {pins : List (Addr × Obj)} {s : Shared} {σ : L2.St} {H : Hp} {n : Str} {u : Value} {pos : Pos} {Q : Value → Shared → Prop} (J : Inv X pins σ H s) (hg : Gl X n) (hm : X.mg n = none) (hv : bootBuiltins n = some u) (hQ : Q u s)
    (hn : n ≠ "__name__" := by decide) (hd : (n == ("__debug__" : Str)) = false := by decide) : wpAny (model2 X.prog X.w) X.A (eval (.Name n pos) X.env) Q E s :=
  D.exact (ld_blt (inv_dead J) hg hm hv ⟨rfl, rfl⟩ hn hd) hQ
theorem ldG {E : Value → Shared → Prop} {pins : List (Addr × Obj)} {s : Shared} {σ : L2.St} {H : Hp} {n : Str} {u : Value} {pos : Pos} {Q : Value → Shared → Prop} (J : Inv X pins σ H s) (hg : Gl X n) (hm : X.mg n = some u) (hQ : Q u s)
    (hd : (n == ("__debug__" : Str)) = false := by decide) : wpAny (model2 X.prog X.w) X.A (eval (.Name n pos) X.env) Q E s :=
  D.exact (ld_glob (inv_dead J) hg hm ⟨rfl, rfl⟩ hd) hQ
section
variable {n : Str} {p apos cpos : Pos} {id T : String} {r : List V → Hp → VK → Prop}
theorem pe_callB (hc : CallR X.nox (.builtin id) r) (hg : Gl X n) (hm : X.mg n = none) (hv : bootBuiltins n = some (.builtin id)) (ha : PA X (e :: es) t) (hn : n ≠ "__name__" := by decide) (hdb : (n == ("__debug__" : Str)) = false := by decide)
    (he : starEach (e :: es) X.env = (false, eval e X.env) :: starEach es X.env := by rfl) (hpl : (backTo pos (starEach es X.env)).any (·.1) = false := by rfl) : PE X (.Call (.Name n p) (e :: es) [] pos) (tCB r t) :=
  ⟨fun pins s σ H Q J q G g => wpAny_Call_Name_kw (ldB J hg hm hv (PyProof.Rows.callWith_builtin1 ((ha.run pos pins s σ H _ J q).th g fun us s1 g1 ⟨vs, H1, J1, r1, q1⟩ => callQ hc J1 r1 q1 G g1) he hpl) hn hdb)⟩
theorem pe_callTy (hc : CallR X.nox (.type T) r) (hg : Gl X n) (hm : X.mg n = none) (hv : bootBuiltins n = some (.type T)) (ha : PA X (e :: es) t) (hn : n ≠ "__name__" := by decide) (hdb : (n == ("__debug__" : Str)) = false := by decide)
    (he : starEach (e :: es) X.env = (false, eval e X.env) :: starEach es X.env := by rfl) (hpl : (backTo pos (starEach es X.env)).any (·.1) = false := by rfl) : PE X (.Call (.Name n p) (e :: es) [] pos) (tCB r t) :=
  ⟨fun pins s σ H Q J q G g => wpAny_Call_Name_kw (ldB J hg hm hv (PyProof.Rows.callWith_type1 ((ha.run pos pins s σ H _ J q).th g fun us s1 g1 ⟨vs, H1, J1, r1, q1⟩ => callQ hc J1 r1 q1 G g1) he hpl) hn hdb)⟩
end
/-! ### methods -/
theorem method_at {M : Model} {A : Around} {E : Value → Shared → Prop} {s : Shared} {env : Env} {o : Expr} {n : Str} {apos cpos : Pos} {args : List Expr} {Q : Value → Shared → Prop} (hb : attributeBase o n env (eval o env) = eval o env)
    (hf : ((backTo cpos (starEach args env)).all (fun z => !z.1) && (backToKw cpos (keywordEach [] env)).all (fun z => z.1.isSome) && decide (args.length + ([] : List Keyword).length + (if ([] : List Keyword).isEmpty then 0 else 1) < 30)) = true)
    (hl : (apos.endLine == cpos.line) = true)
    (h : wpAny M A (eval o env) (fun ov s1 => ∃ T id, PlainAttrs T ∧ Slot T n id ∧ typeOf (.builtin id) = pure (.type "method_descriptor") ∧ (s1.TypeIs ov T ∧ ∀ a, ov = .ref a → ∃ ob, s1.heap.get? a = some ob ∧ ob.dict = none) ∧
      wpAny M A (callWith cpos (.builtin id) [ov] (backTo cpos (starEach args env)) []) Q E s1) E s) : wpAny M A (eval (.Call (.Attribute o n apos) args [] cpos) env) Q E s := by
  rw [arm_eval_Call, hb]
  refine wpAny_bind (wpAny_mono h (fun ov s1 h1 => ?_) fun _ _ e => e)
  obtain ⟨T, id, pa, slot, hty, ⟨hT, hd⟩, hc⟩ := h1
  refine wpAny_bind (wpAny_standAt ?_)
  have form : methodCallForm (args.length + ([] : List Keyword).length) (backTo cpos (starEach args env)) (backToKw cpos (keywordEach [] env)) = true := hf
  have place : methodCallPos true o env apos cpos = pure cpos := by unfold methodCallPos; simp [hl]
  unfold methodCall
  rw [form]
  refine wpAny_bind (wpAny_holding (getMethod_builtin hT pa slot hty hd ?_))
  exact wpAny_bind (wpAny_of_eq place hc)
section
variable {n : Str} {apos cpos : Pos} {T id : String} {r : V → List V → Hp → VK → Prop} {to : TE} {ty : V → Hp → Prop}
theorem pe_mG0 (ht : TyOk X T ty) (pa : PlainAttrs T) (slot : Slot T n id) (hty : typeOf (.builtin id) = pure (.type "method_descriptor")) (hm : MtR X.nox id r) (ho : PE X o to)
    (hbase : attributeBase o n X.env (eval o X.env) = eval o X.env := by rfl) (hline : (apos.endLine == cpos.line) = true := by rfl) : PE X (.Call (.Attribute o n apos) [] [] cpos) (tMG0 ty r to) :=
  ⟨fun pins s σ H Q J q G g => method_at (args := []) hbase rfl hline ((ho.run pins s σ H _ J q).th g fun v s1 g1 ⟨y, H1, J1, r1, ty1, q1⟩ => ⟨T, id, pa, slot, hty, ht _ _ _ _ _ _ J1 r1 ty1,
    Calls.callWith_builtin rfl (PySem.evalArgs_none ((wq.of (X := X) (thn (hm pins _ σ H1 y [] v [] Q (nx J1) r1 .nil q1) fun _ _ => un_EP) cl_EP) G g1))⟩)⟩
theorem pe_mG (ht : TyOk X T ty) (pa : PlainAttrs T) (slot : Slot T n id) (hty : typeOf (.builtin id) = pure (.type "method_descriptor")) (hm : MtR X.nox id r) (ho : PE X o to) (ha : PA X (e :: es) t)
    (hbase : attributeBase o n X.env (eval o X.env) = eval o X.env := by rfl)
    (hfew : ((backTo cpos (starEach (e :: es) X.env)).all (fun z => !z.1) && (backToKw cpos (keywordEach [] X.env)).all (fun z => z.1.isSome) && decide ((e :: es).length + ([] : List Keyword).length + (if ([] : List Keyword).isEmpty then 0 else 1) < 30)) = true := by rfl)
    (hline : (apos.endLine == cpos.line) = true := by rfl) (hs : starEach (e :: es) X.env = (false, eval e X.env) :: starEach es X.env := by rfl) (hplain : (backTo cpos (starEach es X.env)).any (·.1) = false := by rfl) :
    PE X (.Call (.Attribute o n apos) (e :: es) [] cpos) (tMG ty r to t) := by
  refine ⟨fun pins s σ H Q J q G g => method_at hbase hfew hline ((ho.run pins s σ H _ J q).th g fun v s1 g1 ⟨y, H1, J1, r1, ty1, q1⟩ => ⟨T, id, pa, slot, hty, ht _ _ _ _ _ _ J1 r1 ty1, ?_⟩)⟩
  have hA := ha.run cpos pins s1 σ H1 _ J1 q1
  rw [hs] at hA ⊢
  refine Calls.callWith_builtin (by show (false || (backTo cpos (starEach es X.env)).any (·.1)) = false; rw [hplain] <;> rfl) (Calls.evalArgs_plain ?_)
  exact hA.th g1 fun us s2 g2 ⟨vs, H2, J2, r2, q2⟩ => (wq.of (X := X) (thn (hm pins _ σ H2 y vs v us Q (nx J2) r1 r2 q2) fun _ _ => un_EP) cl_EP) G g2
theorem pe_bm0 (pa : PlainAttrs T) (slot : Slot T n id) (hty : typeOf (.builtin id) = pure (.type "method_descriptor")) (hm : MtR X.nox id r) (ho : PE X o to)
    (hbase : attributeBase o n X.env (eval o X.env) = eval o X.env := by rfl) (hline : (apos.endLine == cpos.line) = true := by rfl) : PE X (.Call (.Attribute o n apos) [] [] cpos) (tBM0 X.K T r to) :=
  pe_mG0 (ty := tyV X.K T) (fun _ _ _ _ _ _ J r ty => tyV_is J r ty) pa slot hty hm ho hbase hline
theorem pe_bm (pa : PlainAttrs T) (slot : Slot T n id) (hty : typeOf (.builtin id) = pure (.type "method_descriptor")) (hm : MtR X.nox id r) (ho : PE X o to) (ha : PA X (e :: es) t)
    (hbase : attributeBase o n X.env (eval o X.env) = eval o X.env := by rfl)
    (hfew : ((backTo cpos (starEach (e :: es) X.env)).all (fun z => !z.1) && (backToKw cpos (keywordEach [] X.env)).all (fun z => z.1.isSome) && decide ((e :: es).length + ([] : List Keyword).length + (if ([] : List Keyword).isEmpty then 0 else 1) < 30)) = true := by rfl)
    (hline : (apos.endLine == cpos.line) = true := by rfl) (hs : starEach (e :: es) X.env = (false, eval e X.env) :: starEach es X.env := by rfl) (hplain : (backTo cpos (starEach es X.env)).any (·.1) = false := by rfl) :
    PE X (.Call (.Attribute o n apos) (e :: es) [] cpos) (tBM X.K T r to t) :=
  pe_mG (ty := tyV X.K T) (fun _ _ _ _ _ _ J r ty => tyV_is J r ty) pa slot hty hm ho ha hbase hfew hline hs hplain
end
/-! ### slices, subscripts -/
structure PO (X : Cx) (e : Option Expr) (t : TO) : Prop where
  run : ∀ (pins : List (Addr × Obj)) (s : Shared) (σ : L2.St) (H : Hp) (Q : Option Int → Hp → Prop), Inv X pins σ H s → t σ H Q → wq X (evalPart e X.env) (fun u s' => ∃ o H', Inv X pins σ H' s' ∧ IsPart u o ∧ Q o H') s
theorem po_none : PO X none tNoPart := ⟨fun pins s σ H Q J q G g => by rw [evalPart_none]; exact wpAny_pure ⟨g, none, H, J, .none, q⟩⟩
theorem po_some (h : PE X e te) : PO X (some e) (tPart te) := by
  refine ⟨fun pins s σ H Q J q G g => ?_⟩
  rw [evalPart_some]
  refine (h.run pins s σ H _ J q).th g fun u s1 g1 ⟨y, H1, J1, r1, i, e1, q1⟩ => ?_
  subst e1
  obtain ⟨t, rfl⟩ := r1
  exact ⟨g1, some i, H1, J1, .int i t, q1⟩
theorem pe_slice {r : V → Option Int → Option Int → Hp → VK → Prop} {lo hi : Option Expr} {tl th : TO} {p2 : Pos} (hr : SlR X.nox r) (he : PE X e te) (hl : PO X lo tl) (hu : PO X hi th) : PE X (.Subscript e (.Slice lo hi none p2) pos) (tSl r te tl th) := by
  refine ⟨fun pins s σ H Q J q G g => Subscript_ ((he.run pins s σ H _ J q).th g fun v s1 g1 ⟨y, H1, J1, r1, q1⟩ => ?_)⟩
  refine wpAny_Slice ((hl.run pins s1 σ H1 _ J1 q1).th g1 fun vl s2 g2 ⟨l, H2, J2, pl, q2⟩ => (hu.run pins s2 σ H2 _ J2 q2).th g2 fun vu s3 g3 ⟨u, H3, J3, pu, q3⟩ => ?_)
  rw [evalPart_none]
  refine wpAny_pure ?_
  have J4 : Inv X pins σ H3 { s3 with heap := s3.heap.push { cls := .type "slice", data := .fields #[vl, vu, .none] } } := J3.kept (t' := s3.toks) fun b ob q => Heap.get?_push_of_some _ q
  have lf : wpAny (model X.prog X.w) X.A (subscriptTail e (.Slice lo hi none p2) v (.ref s3.heap.objs.size)) (EP X.nox pins σ Q) (fun _ _ => False) (deadS { s3 with heap := s3.heap.push { cls := .type "slice", data := .fields #[vl, vu, .none] } }) := by
    obtain ⟨T, id, hT, ht, hg⟩ := hr pins _ σ H3 y v vl vu l u s3.heap.objs.size Q (nx J4) r1 (Heap.IsSliceOf.new ..) pl pu q3
    exact tail_any (ops := [.ref s3.heap.objs.size, v]) ht hT hg (by with_unfolding_all rfl)
  exact (wq.of (X := X) (thn lf fun _ _ => un_EP) cl_EP) G g3
theorem pe_ix {r : R2} (hr : IxR X.nox r) (ha : PE X a ta) (hb : PE X b tb) (hs : PlainIx b) : PE X (.Subscript a b pos) (tOp r ta tb) :=
  ⟨fun pins s σ H Q J q G g => Subscript_ ((ha.run pins s σ H _ J q).th g fun v s1 g1 ⟨y, H1, J1, r1, q1⟩ => (hb.run pins s1 σ H1 _ J1 q1).th g1 fun u s2 g2 ⟨z, H2, J2, r2, q2⟩ =>
    (wq.of (X := X) (thn (hr a b pins _ σ H2 y z v u Q (nx J2) r1 r2 q2 (hs _ _)) fun _ _ => un_EP) cl_EP) G g2)⟩
/-! ### f-strings -/
theorem pe_fmt (he : PE X e te) : PE X (.FormattedValue e (-1) none pos) (tFmt te) := by
  refine ⟨fun pins s σ H Q J q G g => ?_⟩
  rw [arm_eval_FormattedValue]
  refine wpAny_bind ((he.run pins s σ H _ J q).th g fun v s1 g1 ⟨y, H1, J1, r1, q1⟩ => ?_)
  refine wpAny_bind (wpAny_standAt ?_)
  show wpAny _ _ (do let v' ← holding [v] (pure v); formatField v' Str.empty) _ _ s1
  refine wpAny_bind (wpAny_holding (wpAny_pure ?_))
  have J2 := inv_dead J1
  refine (wq.of (X := X) (Q := EP X pins σ Q) ?_ cl_EP) G g1
  rcases q1 with ⟨z, rfl, hz, q⟩ | ⟨i, rfl, hz, q⟩
  · obtain ⟨t, rfl⟩ := r1
    exact wpAny_formatField_str ⟨.str z, H1, J2, ⟨t, rfl⟩, q⟩ ⟨.str z, H1, J2.tok _, ⟨_, rfl⟩, q⟩ hz
  · obtain ⟨t, rfl⟩ := r1
    exact wpAny_formatField_int hz ⟨.str (toString i), H1, J2.tok _, ⟨_, rfl⟩, q⟩
inductive PJ (X : Cx) : List Expr → List TE → Prop where
  | nil : PJ X [] []
  | cons {e : Expr} {t : TE} {es : List Expr} {ts : List TE} (h : PE X e t) (r : PJ X es ts) : PJ X (e :: es) (t :: ts)
theorem pj_run {pins : List (Addr × Obj)} {σ : L2.St} {es : List Expr} {ts : List TE} (h : PJ X es ts) : ∀ (acc : Str) (s : Shared) (H : Hp) (Q : Str → Hp → Prop) (R : Str → Shared → Prop) (G : Array GenState), Kept G s.gens → acc.length ≤ sizeLine → Inv X pins σ H s → tJs ts acc σ H Q →
    (∀ out s1 H1, Kept G s1.gens → out.length ≤ sizeLine → Inv X pins σ H1 s1 → Q out H1 → R out s1) → Joins (model2 X.prog X.w) X.A (KQ G X.xe) (evalEach es X.env) acc R s := by
  induction h with
  | nil =>
    intro acc s H Q R G g hz J q k
    have e0 : evalEach [] X.env = [] := by first | rfl | simp [evalEach]
    rw [e0]
    exact k acc s H g hz J q
  | @cons e t es ts he r ih =>
    intro acc s H Q R G g hz J q k
    have e0 : evalEach (e :: es) X.env = eval e X.env :: evalEach es X.env := by first | rfl | simp [evalEach]
    rw [e0]
    refine (he.run pins s σ H _ J q).th g fun v s1 g1 ⟨z, H1, J1, r1, y, ez, hy, q1⟩ => ?_
    subst ez
    obtain ⟨tk, rfl⟩ := r1
    exact ⟨y, tk, rfl, hy, ih (acc ++ y) s1 H1 Q R G g1 hy J1 q1 k⟩
theorem pe_joined {v1 v2 : Expr} {rest : List Expr} {ts : List TE} (h : PJ X (v1 :: v2 :: rest) ts) : PE X (.JoinedStr (v1 :: v2 :: rest) pos) (fun σ H Q => tJs ts Str.empty σ H fun out H1 => Q (.str out) H1) := by
  refine ⟨fun pins s σ H Q J q G g => ?_⟩
  rw [arm_eval_JoinedStr]
  show wpAny _ _ (joinParts Str.empty (evalEach (v1 :: v2 :: rest) X.env)) _ _ s
  exact wpAny_joinPartsRec _ _ _ _ (pj_run h Str.empty s H (fun out H1 => Q (.str out) H1) _ G g (Nat.zero_le _) J q fun out s1 H1 g1 hz J1 q1 => ⟨hz, g1, .str out, H1, J1.tok _, ⟨_, rfl⟩, q1⟩)
theorem pe_joined1 (he : PE X e te) : PE X (.JoinedStr [e] pos) te := ⟨fun pins s σ H Q J q G g => by rw [arm_eval_JoinedStr]; exact he.run pins s σ H Q J q G g⟩
/-! ### displays of dicts -/
structure PPs (X : Cx) (pos : Pos) (keys : List (Option Expr)) (values : List Expr) (trs : List (TE × TE)) : Prop where
  run : ∀ (pins : List (Addr × Obj)) (s : Shared) (σ : L2.St) (H : Hp) (Q : List (V × V) → Hp → Prop), Inv X pins σ H s → tPairs trs σ H Q → wq X (evalPairs (pairTrees keys values X.env pos)) (fun vs s' => ∃ ps H', Inv X pins σ H' s' ∧ VV ps vs ∧ vs.length = keys.length ∧ Q ps H') s
theorem pps_nil : PPs X pos [] [] [] := ⟨fun pins s σ H Q J q G g => wpAny_pure ⟨g, [], H, J, .nil, rfl, q⟩⟩
theorem pps_cons {k v : Expr} {ks : List (Option Expr)} {vs : List Expr} {tk tv : TE} {trs : List (TE × TE)} (hk : PE X k tk) (hv : PE X v tv) (hr : PPs X pos ks vs trs) : PPs X pos (some k :: ks) (v :: vs) ((tk, tv) :: trs) := by
  refine ⟨fun pins s σ H Q J q G g => ?_⟩
  show wpAny _ _ (evalPairs ((eval k X.env, do let x ← eval v X.env; standAt pos; pure x) :: pairTrees ks vs X.env pos)) _ _ s
  rw [evalPairs]
  refine wpAny_bind ((hk.run pins s σ H _ J q).th g fun u s1 g1 ⟨y, H1, J1, r1, q1⟩ => ?_)
  refine wpAny_bind (wpAny_holding (wpAny_bind ((hv.run pins s1 σ H1 _ J1 q1).th g1 fun u2 s2 g2 ⟨z, H2, J2, r2, q2⟩ => wpAny_bind (wpAny_standAt (wpAny_pure ?_)))))
  refine wpAny_bind (wpAny_holding ((hr.run pins s2 σ H2 _ J2 q2).th g2 fun ws s3 g3 ⟨ps, H3, J3, rel, hl, q3⟩ => wpAny_pure ⟨g3, (y, z) :: ps, H3, J3, .cons ⟨r1, r2⟩ rel, by simp [hl], q3⟩))
theorem pe_disp {keys : List (Option Expr)} {values : List Expr} {trs : List (TE × TE)} (h : PPs X pos keys values trs) (hall : keys.all (·.isSome) = true) (hl : keys.length = values.length) (h0 : keys ≠ []) (h15 : keys.length ≤ 15) : PE X (.Dict keys values pos) (tDisp trs) := by
  refine ⟨fun pins s σ H Q J q G g => ?_⟩
  have hn := J.hok.fresh (Nat.le_refl s.heap.objs.size)
  have J1 := J.laid (a := s.heap.objs.size) (o := .dK []) (h' := s.heap.push { cls := .type "dict", data := .dict #[] }) (t' := s.toks) (fun _ _ q => Heap.get?_push_of_some _ q) (Nat.le_refl _) (dk_empty s.heap J.big)
  have pl := pairTrees_length keys values X.env pos hall hl
  rw [arm_eval_Dict, zip_pairTrees keys values X.env pos hall hl, dictDisplay_pairs _ (by intro z; rw [z] at pl; exact h0 (List.length_eq_zero_iff.mp pl.symm)) (by omega)]
  refine wpAny_bind (wpAny_standAt (wpAny_bind ?_))
  unfold subDict
  refine wpAny_bind (wpAny_alloc ?_)
  refine wpAny_bind (wpAny_holding ?_)
  rw [if_pos (by rw [pl]; exact h15)]
  refine wpAny_bind ((h.run pins _ σ _ _ J1 (q _ hn)).th g fun ws s2 g2 ⟨ps, H2, J2, rel, wl, e, kvs, ep, lk, q2⟩ => ?_)
  subst ep
  obtain ⟨rs, c, rk⟩ := carries_of (P := X.prog) (w := X.w) rel
  obtain ⟨z, hd, vs0, r0, dd⟩ := dk_of J2.hok e
  cases r0
  refine wpAny_holding (wpAny_bind ?_)
  have hsz : ([] : List (Key × Value)).length + rs.length ≤ sizeLine := by
    have := c.length
    rw [sizeLine_eq, List.length_nil, this, wl]; omega
  have lf := wpAny_storeAll (knd := mixKind X.prog X.w) (prog := X.prog) (w := X.w) (A := X.A) (E := fun _ _ => False) (d := s.heap.objs.size) ws rs [] (deadS s2) (fun _ s' => s'.heap.DictOf (mixKind X.prog X.w) s.heap.objs.size (merged [] rs) ∧ Heap.SameBut s.heap.objs.size s2.heap s'.heap ∧ s'.os = s2.os ∧ AllBare s'.gens) c dd hsz
    (fun h' a b => ⟨a, b, rfl, (inv_dead J2).bare⟩)
  refine (wq.of (X := X) lf (fun _ s1 s3 al ⟨a, b, d1, d2⟩ => ⟨by rw [al.heap]; exact a, by rw [al.heap]; exact b, al.os.trans d1, al.bare d2⟩)).th g2 fun _ s3 g3 ⟨a, b, d1, d2⟩ => wpAny_pure (wpAny_pure ?_)
  have hz : (mergeK [] kvs).length ≤ sizeLine := by
    have h1 := length_mergeK kvs []
    rw [List.length_nil] at h1
    rw [sizeLine_eq]; omega
  have he : ∃ o, s3.heap.get? s.heap.objs.size = some o := let ⟨o, _, _, ho, _⟩ := a; ⟨o, ho⟩
  have J3 := d_write (t' := s2.toks) J2 (by rw [e]; exact True.intro) b he (dk_new hz hd (rk.merge .nil) a)
  exact wpAny_pure ⟨g3, .ref s.heap.objs.size, _, inv_same J3 rfl d1 d2, rfl, q2⟩
theorem pe_dnewK : PE X (.Dict [] [] pos) tDNewK := .lift L2.pe_dnewK
end
end Y

/-! Judgements over the second machine: statements, targets, loops. -/
namespace D
open PySem PyProof.Rows
section
variable {P : Program} {w : World} {A : Around}
/-- lifted where one stands: the state of the first machine is any that differs in who sleeps -/
theorem liftR {α : Type} {B : Array GenState} {t : Sem α} {Q : α → Shared → Prop} {E : Value → Shared → Prop} {s s2 : Shared} (R : RelS B s s2) (h : wpAny (model P w) A t Q E s) :
    wpAny (model2 P w) A t (fun a s' => ∃ s1, RelS B s1 s' ∧ Q a s1) (fun e s' => ∃ s1, RelS B s1 s' ∧ E e s1) s2 := fun Γ p hΓ => wp_soft t _ _ p _ _ R (h Γ p hΓ)
theorem noted2 {R : Result → Shared → Prop} {s : Shared} {E : Value → Shared → Prop} : True := trivial
/-- a loop's code -/
theorem loop2 {c : Code} {R : Result → Shared → Prop} {s : Shared} (hq : c.quiet = true) (I : Nat → Shared → Prop)
    (turn : ∀ n s, I n s → wpAny (model2 P w) (A.under c) (denote table c) (fun fin s' => match fin with
        | .done f => R (.ok f) s'
        | .again c' => (c' = c ∧ ∃ m, m < n ∧ I m s') ∨ (c'.quiet = true ∧ codeAny (model2 P w) A c' R s')) (fun e s' => R (.error e) s') s)
    (n : Nat) (h : I n s) : codeAny (model2 P w) A c R s := codeAny_loop' hq I (fun n s hI => wpAny_soft (turn n s hI)) n h
theorem whileLoop2 {R : Result → Shared → Prop} {s : Shared} {test : Expr} {body orelse : List Stmt} {env : Env} (I : Nat → Shared → Prop)
    (turn : ∀ n s, I n s → wpAny (model2 P w) A (isTrue test env (eval test env)) (fun b s2 => if b = true then wpAny (model2 P w) A (execs body env) (fun f s3 => match f with
            | .next => ∃ m, m < n ∧ I m s3
            | .cont => ∃ m, m < n ∧ I m s3
            | .brk => R (.ok .next) s3
            | .ret v => R (.ok (.ret v)) s3) (notedBy (model2 P w) A env fun e s' => R (.error e) s') s2
        else wpAny (model2 P w) A (execs orelse env) (fun f s3 => R (.ok f) s3) (notedBy (model2 P w) A env fun e s' => R (.error e) s') s2) (notedBy (model2 P w) A env fun e s' => R (.error e) s') s)
    (n : Nat) (h : I n s) : codeAny (model2 P w) A (.whileLoop test body orelse env) R s := by
  refine loop2 rfl I (fun n s hI => ?_) n h
  show wpAny _ A ((whileTurn test body orelse env).onRaise (fun x => do noteFrame x env; theTreesLotGoes x)) _ _ s
  refine wpAny_noted ?_
  simp only [whileTurn]
  refine wpAny_bind (wpAny_mono (turn n s hI) (fun b s2 h2 => ?_) fun _ _ z => z)
  cases b with
  | false =>
    simp only [Bool.false_eq_true, if_false] at h2 ⊢
    exact wpAny_bind (wpAny_mono h2 (fun f s3 h3 => wpAny_pure h3) fun _ _ z => z)
  | true =>
    simp only [if_true] at h2 ⊢
    refine wpAny_bind (wpAny_mono h2 (fun f s3 h3 => ?_) fun _ _ z => z)
    cases f with
    | next => exact wpAny_pure (.inl ⟨rfl, h3⟩)
    | cont => exact wpAny_pure (.inl ⟨rfl, h3⟩)
    | brk => exact wpAny_pure h3
    | ret v => exact wpAny_pure h3
theorem block2 {R : Result → Shared → Prop} {s : Shared} {stmts : List Stmt} {env : Env} (h : wpAny (model2 P w) A (execs stmts env) (fun f s' => R (.ok f) s') (notedBy (model2 P w) A env fun e s' => R (.error e) s') s) : codeAny (model2 P w) A (.block stmts env) R s := by
  refine codeAny2 ?_
  show wpAny _ A (do return .done (← (execs stmts env).onRaise (fun x => do noteFrame x env; theTreesLotGoes x)) : Sem PySem.Fin) _ _ s
  exact wpAny_bind (wpAny_noted (wpAny_mono h (fun f s1 q => wpAny_pure q) fun _ _ z => z))
theorem forLoop2 {R : Result → Shared → Prop} {s : Shared} {target : Expr} {it : Value} {body orelse : List Stmt} {env : Env} (I : Nat → Shared → Prop)
    (turn : ∀ n s, I n s → wpAny (model2 P w) A (pyNext it) (fun r s1 => match r with
      | none => wpAny (model2 P w) A (execs orelse env) (fun f s3 => R (.ok f) s3) (notedBy (model2 P w) A env fun e s' => R (.error e) s') s1
      | some v => wpAny (model2 P w) A (letOwnedTupleGo target it v) (fun _ s1' => wpAny (model2 P w) A (assign target env v) (fun _ s2 => wpAny (model2 P w) A (execs body env) (fun f s3 => match f with
            | .next => ∃ m, m < n ∧ I m s3
            | .cont => ∃ m, m < n ∧ I m s3
            | .brk => R (.ok .next) s3
            | .ret v => R (.ok (.ret v)) s3) (notedBy (model2 P w) A env fun e s' => R (.error e) s') s2) (notedBy (model2 P w) A env fun e s' => R (.error e) s') s1') (notedBy (model2 P w) A env fun e s' => R (.error e) s') s1) (notedBy (model2 P w) A env fun e s' => R (.error e) s') s)
    (n : Nat) (h : I n s) : codeAny (model2 P w) A (.forLoop target it body orelse env) R s := by
  refine loop2 rfl I (fun n s hI => ?_) n h
  show wpAny _ A ((forTurn target it body orelse env).onRaise (fun x => do noteFrame x env; theTreesLotGoes x)) _ _ s
  refine wpAny_noted ?_
  simp only [forTurn]
  refine wpAny_bind (wpAny_standAt (wpAny_bind (wpAny_onRaise (wpAny_mono (turn n s hI) (fun r s1 h1 => ?_) fun _ _ z => wpAny_standAt z))))
  cases r with
  | none => exact wpAny_pure (.inr ⟨rfl, block2 h1⟩)
  | some v =>
    refine wpAny_bind (wpAny_mono h1 (fun _ s1' h1' => ?_) fun _ _ z => z)
    refine wpAny_bind (wpAny_mono h1' (fun _ s2 h2 => wpAny_bind (wpAny_mono h2 (fun f s3 h3 => ?_) fun _ _ z => z)) fun _ _ z => z)
    cases f with
    | next => exact wpAny_pure (.inl ⟨rfl, h3⟩)
    | cont => exact wpAny_pure (.inl ⟨rfl, h3⟩)
    | brk => exact wpAny_pure h3
    | ret v => exact wpAny_pure h3
end
end D
namespace Y
open PySem PySem.Spec PyProof.Rows L2
open D (model2 Kept Cl Alike deadS)
structure PS (X : Cx) (st : Stmt) (t : TS) : Prop where
  run : ∀ (pins : List (Addr × Obj)) (s : Shared) (σ : L2.St) (H : Hp) (D : Ends), Inv X pins σ H s → t D σ H → wq X (exec st X.env) (SP X pins D) s
structure PSs (X : Cx) (st : List Stmt) (t : TS) : Prop where
  run : ∀ (pins : List (Addr × Obj)) (s : Shared) (σ : L2.St) (H : Hp) (D : Ends), Inv X pins σ H s → t D σ H → wq X (execs st X.env) (SP X pins D) s
structure PG (X : Cx) (target : Expr) (t : TG) : Prop where
  run : ∀ (pins : List (Addr × Obj)) (s : Shared) (σ : L2.St) (H : Hp) (v : V) (u : Value) (Q : L2.St → Hp → Prop), Inv X pins σ H s → RelV v u → t v σ H Q → wq X (assign target X.env u) (fun _ s' => ∃ σ' H', Inv X pins σ' H' s' ∧ Q σ' H') s
structure PGs (X : Cx) (ts : List Expr) (t : TGs) : Prop where
  run : ∀ (pins : List (Addr × Obj)) (s : Shared) (σ : L2.St) (H : Hp) (vs : List V) (us : List Value) (Q : L2.St → Hp → Prop), Inv X pins σ H s → Vals vs us → t vs σ H Q →
    wq X (assignInOrder ((assignEach ts X.env).map (·.2)) us) (fun _ s' => ∃ σ' H', Inv X pins σ' H' s' ∧ Q σ' H') s
/-- exceptions go through a frame of one's own -/
def PassesK (X : Cx) : Prop := ∀ G, PassesOwn (model2 X.prog X.w) X.A X.env (KQ G X.xe)
section
variable {X : Cx} {e c o i tg : Expr} {te to ti : TE} {t u : TS} {st : Stmt} {rest : List Stmt} {pos : Pos} {g : TG}
theorem PS.lift (h : L2.PS X.nox st t) : PS X st t := ⟨fun pins s σ H D J q => .of (thn (h.run pins _ σ H D (nx J) q) fun _ _ => SP.unwish) cl_SP⟩
theorem PG.lift (h : L2.PG X.nox tg g) : PG X tg g := ⟨fun pins s σ H v u Q J r q => .of (thn (h.run pins _ σ H v u Q (nx J) r q) fun _ _ ⟨σ', H', J', q'⟩ => ⟨σ', H', J'.unwish, q'⟩) cl_any⟩
theorem pss_nil : PSs X [] tNext := ⟨fun pins s σ H D J q G g => wpAny_execs_nil ⟨g, σ, H, J, q⟩⟩
theorem pss_cons (h1 : PS X st t) (h2 : PSs X rest u) : PSs X (st :: rest) (tSeq t u) := by
  refine ⟨fun pins s σ H D J q G g => wpAny_execs_cons ((h1.run pins s σ H { D with nx := u D } J q).th g fun f s1 g1 q1 => ?_)⟩
  cases f with
  | next => obtain ⟨σ', H', J', q2⟩ := q1; exact h2.run pins s1 σ' H' D J' q2 G g1
  | ret v => exact ⟨g1, q1⟩
  | brk => exact ⟨g1, q1⟩
  | cont => exact ⟨g1, q1⟩
theorem ps_pass : PS X (.Pass pos) tNext := .lift L2.ps_pass
theorem ps_break : PS X (.Break pos) tBreak := .lift L2.ps_break
theorem ps_continue : PS X (.Continue pos) tCont := .lift L2.ps_continue
theorem ps_retN : PS X (.Return none pos) tRetN := .lift L2.ps_retN
theorem ps_never : PS X st tNever := ⟨fun _ _ _ _ _ _ h => h.elim⟩
theorem pss_never : PSs X rest tNever := ⟨fun _ _ _ _ _ _ h => h.elim⟩
theorem ps_expr (he : PE X e te) (hs : swapsWith e none pos.line X.env = pure false := by rfl) : PS X (.Expr e pos) (tDrop te) :=
  ⟨fun pins s σ H D J q G g => by
    rw [exec_Expr X.env e pos J.quiet hs]
    refine wpAny_bind (wpAny_standAt (wpAny_bind ((he.run pins s σ H _ J q).th g fun v s1 g1 ⟨y, H1, J1, r1, q1⟩ => ?_)))
    exact (wq.of (X := X) (Q := SP X pins D) (wpAny_dropValue ⟨σ, H1, inv_dead J1, q1⟩) cl_SP) G g1⟩
theorem ps_ret (he : PE X e te) : PS X (.Return (some e) pos) (tRet te) :=
  ⟨fun pins s σ H D J q G g => wpAny_Return_some ((he.run pins s σ H _ J q).th g fun v s1 g1 ⟨y, H1, J1, r1, q1⟩ => ⟨g1, y, σ, H1, J1, r1, q1⟩)⟩
theorem ps_if {a b : List Stmt} {tc : TT} (hc : PT X c tc) (ha : PSs X a t) (hb : PSs X b u) : PS X (.If c a b pos) (tIfS tc t u) := by
  refine ⟨fun pins s σ H D J q G g => wpAny_If ((hc.run pins s σ H _ J q).th g fun d s1 g1 ⟨H1, J1, q1⟩ => ?_)⟩
  cases d with
  | true => exact ha.run pins s1 σ H1 D J1 q1 G g1
  | false => exact hb.run pins s1 σ H1 D J1 q1 G g1
/-! ### targets -/
theorem pg_name {k : Nat} {n : Str} (hN : X.N.Nodup) (hi : X.N[k]? = some n) (hx : Loc X.env.scope n) (hf : X.fn n = true ∨ X.env.scope.names.lookup n = some .local := by first | exact .inl rfl | exact .inr rfl | assumption) : PG X (.Name n pos) (gName k) := .lift (L2.pg_name hN hi hx hf)
theorem pgs_nil : PGs X [] gNil := by
  refine ⟨fun pins s σ H vs us Q J r q G g => ?_⟩
  obtain ⟨rfl, q⟩ := q
  cases r
  exact assignInOrder_nil ⟨g, σ, H, J, q⟩
theorem pgs_cons {es : List Expr} {g : TG} {gs : TGs} (h1 : PG X e g) (h2 : PGs X es gs) (hs : (assignEach (e :: es) X.env).map (·.2) = assign e X.env :: (assignEach es X.env).map (·.2) := by rfl) : PGs X (e :: es) (gCons g gs) := by
  refine ⟨fun pins s σ H vs us Q J r q G g => ?_⟩
  obtain ⟨v, vr, rfl, q⟩ := q
  cases r with
  | cons r rr =>
    rw [hs]
    exact assignInOrder_cons ((h1.run pins s σ H _ _ _ J r q).th g fun _ s1 g1 ⟨σ1, H1, J1, q1⟩ => h2.run pins s1 σ1 H1 _ _ Q J1 rr q1 G g1)
theorem pg_tup {es : List Expr} {k : Nat} {gs : TGs} {n : Nat} (hc : X.calm = true) (h : PGs X es gs) (hn : (assignEach es X.env).length = n := by rfl) (hst : (assignEach es X.env).findIdx? (·.1) = none := by rfl) : PG X (.Tuple es k pos) (gTup X.K n gs) := by
  refine ⟨fun pins s σ H v u Q J r q G g => ?_⟩
  obtain ⟨a, xs, rfl, hq, hl, q⟩ := q
  cases r
  obtain ⟨its, rv, ht, hz⟩ := J.tuple hq
  rw [assign_Tuple]
  refine wpAny_bind (wpAny_standAt ?_)
  unfold unpack
  have lf : wpAny (model X.prog X.w) X.A (unpackItems (.ref a) its.toArray.size none) (fun us s' => us = its ∧ Inv X pins σ H s') (fun _ _ => False) (deadS s) := by
    refine unpackItems_tuple (J.ok.hd hc) ht fun h' hx => ⟨by simp, ?_⟩
    exact (inv_dead J).kept (t' := s.toks) fun b o e => hx b o (Nat.ne_of_lt (Heap.lt_size e)) e
  have hl2 : its.toArray.size = n := by rw [List.size_toArray, ← rv.length, hl]
  rw [hn, hst]
  rw [hl2] at lf
  refine wpAny_bind (wpAny_holding ((wq.of (X := X) lf (fun _ _ _ al ⟨e, j⟩ => ⟨e, inv_alike j al⟩)).th g fun us s1 g1 ⟨e, J1⟩ => ?_))
  subst e
  exact h.run pins s1 σ H xs _ Q J1 rv q G g1
/-- o[i] = v over values: as on the first machine -/
theorem setQ {t : TSet} (h : PSet X.nox t) {pins : List (Addr × Obj)} {s : Shared} {σ : L2.St} {H : Hp} {a b v : V} {ov iv u : Value} {Q : Hp → Prop} (J : Inv X pins σ H s) (r1 : RelV a ov) (r2 : RelV b iv) (r3 : RelV v u) (q : t a b v H Q) :
    wq X (PySem.setItem ov iv u) (fun _ s' => ∃ H', Inv X pins σ H' s' ∧ Q H') s := .of (thn (h pins _ σ H a b v ov iv u Q (nx J) r1 r2 r3 q) fun _ _ ⟨H', J', q'⟩ => ⟨H', J'.unwish, q'⟩) cl_anyH
theorem ipQ {op : Operator} {t : TIp} (h : PIp X.nox op t) {pins : List (Addr × Obj)} {s : Shared} {σ : L2.St} {H : Hp} {y z : V} {v u : Value} {Q : VK} (J : Inv X pins σ H s) (r1 : RelV y v) (r2 : RelV z u) (q : t y z H Q) : wq X (inplaceOp op v u) (EP X pins σ Q) s :=
  .of (thn (h pins _ σ H y z v u Q (nx J) r1 r2 q) fun _ _ => un_EP) cl_EP
theorem storeQ {pins : List (Addr × Obj)} {s : Shared} {σ : L2.St} {H : Hp} {k : Nat} {n : Str} {v : V} {u : Value} (J : Inv X pins σ H s) (hN : X.N.Nodup) (hi : X.N[k]? = some n) (hx : Loc X.env.scope n) (r : RelV v u) (hf : X.fn n = true ∨ X.env.scope.names.lookup n = some .local) :
    wq X (storeName X.env n u) (fun _ s' => Inv X pins (σ.set k (some v)) H s') s := .of (store_ok (inv_dead J) hN hi hx r (fun _ J => J) hf) (fun _ _ _ a J => inv_alike J a)
theorem pg_sub {t : TSet} (ho : PE X o to) (hi : PE X i ti) (hs : PSet X.nox t)
    (ha : ∀ v, assign (.Subscript o i pos) X.env v = (do
      let ov ← holding [v] (eval o X.env)
      let iv ← holding [v, ov] (eval i X.env)
      standAt pos
      holding [v, ov, iv] (PySem.setItem ov iv v)
      release [v, ov, iv] []) := by intro _; rfl) : PG X (.Subscript o i pos) (gSub to ti t) := by
  refine ⟨fun pins s σ H v u Q J r q G g => ?_⟩
  rw [ha]
  refine wpAny_bind (wpAny_holding ((ho.run pins s σ H _ J q).th g fun ov s1 g1 ⟨y, H1, J1, r1, q1⟩ => ?_))
  refine wpAny_bind (wpAny_holding ((hi.run pins s1 σ H1 _ J1 q1).th g1 fun iv s2 g2 ⟨z, H2, J2, r2, q2⟩ => ?_))
  refine wpAny_bind (wpAny_standAt (wpAny_bind (wpAny_holding ((setQ hs J2 r1 r2 r q2).th g2 fun _ s3 g3 ⟨H3, J3, q3⟩ => ?_))))
  exact wpAny_release ⟨g3, σ, H3, J3, q3⟩
theorem ps_asg {g : TG} (he : PE X e te) (hg : PG X tg g) (hs : swapsWithSole [tg] e pos.line X.env = pure false := by rfl) (hw : swappedStores [tg] e X.env = pure none := by rfl) (h1 : (assignEach [tg] X.env).map (·.2) = [assign tg X.env] := by rfl) : PS X (.Assign [tg] e pos) (tAsg te g) := by
  refine ⟨fun pins s σ H D J q G g => wpAny_Assign_stores ((he.run pins s σ H _ J q).th g fun v s1 g1 ⟨y, H1, J1, r1, q1⟩ => ?_) hs hw⟩
  rw [h1]
  exact (hg.run pins s1 σ H1 y v _ J1 r1 q1).th g1 fun _ s2 g2 q2 => ⟨g2, q2⟩
theorem ps_aug {k : Nat} {n : Str} {op : Operator} {ti : TIp} {pos' : Pos} (hN : X.N.Nodup) (hi : X.N[k]? = some n) (hx : Loc X.env.scope n) (he : PE X e te) (ho : PIp X.nox op ti) (hf : X.fn n = true ∨ X.env.scope.names.lookup n = some .local := by first | exact .inl rfl | exact .inr rfl | assumption) :
    PS X (.AugAssign (.Name n pos') op e pos) (tAug k te ti) := by
  refine ⟨fun pins s σ H D J q G g => ?_⟩
  obtain ⟨v, e1, q⟩ := q
  obtain ⟨m, hn, hl⟩ := J.loc
  have vis : Vis X.env.scope n := by rcases hx with k | k; exact .inl k; exact .inr (.inl k)
  obtain ⟨u, r, l⟩ := hl k n v hi e1 vis
  refine wpAny_AugAssign_Name ?_
  have go : wpAny (model2 X.prog X.w) X.A (eval e X.env) (fun w s2 => wpAny (model2 X.prog X.w) X.A (inplaceOp op u w) (fun r s3 => wpAny (model2 X.prog X.w) X.A (storeName X.env n r) (fun _ => KQ G (SP X pins D) .next) (KQ G X.xe) s3) (KQ G X.xe) s2) (KQ G X.xe) s := by
    refine (he.run pins s σ H _ J q).th g fun w s1 g1 ⟨y, H1, J1, r1, q1⟩ => ?_
    refine (ipQ ho J1 r r1 q1).th g1 fun z s2 g2 ⟨zv, H2, J2, r2, q2⟩ => ?_
    exact (storeQ J2 hN hi hx r2 hf).th g2 fun _ s3 g3 J3 => ⟨g3, _, H2, J3, q2⟩
  rcases l with ⟨hk, hm⟩ | ⟨hk, c, hc, hcell⟩
  · exact wpAny_loadName_local J.ok.kind hk hn hm go
  · rcases hk with hk | hk
    · exact wpAny_loadName_cell J.ok.kind hk hc hcell go
    · rcases hx with k | k
      · rw [show X.env.kindOf n = some .local from k] at hk; cases hk
      · rw [show X.env.kindOf n = some .cell from k] at hk; cases hk
/-! ### what is walked -/
theorem cl_PIE {pins : List (Addr × Obj)} {σ : L2.St} {R : It → Hp → Prop} : Cl (PIE X pins σ tg R) := fun v s s2 a ⟨it, fp, tn, I, H, e, J, T, t0, f, r⟩ => ⟨it, fp, tn, I, H, e, inv_alike J a, T, by rw [a.heap]; exact t0, f, r⟩
structure PI (X : Cx) (tg iter : Expr) (wi : TI) : Prop where
  run : ∀ (pins : List (Addr × Obj)) (s : Shared) (σ : L2.St) (H : Hp) (R : It → Hp → Prop), Inv X pins σ H s → wi σ H R → ∀ G, Kept G s.gens →
    wpAny (model2 X.prog X.w) X.A (eval iter X.env) (fun v s1 => wpAny (model2 X.prog X.w) X.A (pyIter v) (KQ G (PIE X pins σ tg R)) (KQ G X.xe) s1) (KQ G X.xe) s
theorem iter_list {pins : List (Addr × Obj)} {σ : L2.St} {H : Hp} {s : Shared} {R : It → Hp → Prop} {a : Addr} {xs : List V} (J : Inv X pins σ H s) (h : SqL X.K H a xs) (r : R (Itl X.K a) H) : wq X (pyIter (.ref a)) (PIE X pins σ tg R) s := by
  obtain ⟨its, rv, p, hz⟩ := (inv_dead J).list h
  refine .of (wpAny_pyIter_list p.isList ?_) cl_PIE
  refine ⟨s.heap.objs.size, [s.heap.objs.size], _, _, H, rfl, (inv_dead J).kept (t' := s.toks) fun b o e => Heap.get?_push_of_some _ e, turn_list a _, ⟨_, Heap.get?_push_size _ rfl, rfl, rfl⟩, fun b hb => ?_, r⟩
  obtain rfl : b = s.heap.objs.size := by simpa using hb
  exact J.fpOk (Nat.le_refl _) (J.hok.fresh (Nat.le_refl _))
theorem iter_tup {pins : List (Addr × Obj)} {σ : L2.St} {H : Hp} {s : Shared} {R : It → Hp → Prop} {a : Addr} {xs : List V} (J : Inv X pins σ H s) (h : SqT X.K H a xs) (r : R (Itt X.K a) H) : wq X (pyIter (.ref a)) (PIE X pins σ tg R) s := by
  obtain ⟨its, rv, p, hz⟩ := (inv_dead J).tuple h
  refine .of (wpAny_pyIter_tuple (show (deadS s).heap.IsTuple a its.toArray from p) ?_) cl_PIE
  refine ⟨s.heap.objs.size, [s.heap.objs.size], _, _, H, rfl, (inv_dead J).kept (t' := s.toks) fun b o e => Heap.get?_push_of_some _ e, turn_tuple a _, ⟨_, Heap.get?_push_size _ rfl, rfl, rfl⟩, fun b hb => ?_, r⟩
  obtain rfl : b = s.heap.objs.size := by simpa using hb
  exact J.fpOk (Nat.le_refl _) (J.hok.fresh (Nat.le_refl _))
theorem pi_list (he : PE X e te) : PI X tg e (iList X.K te) :=
  ⟨fun pins s σ H R J q G g => (he.run pins s σ H _ J q).th g fun v s1 g1 ⟨y, H1, J1, r1, a, ey, ⟨xs, hq⟩, q1⟩ => by
    subst ey
    cases r1
    exact iter_list J1 hq q1 G g1⟩
theorem pi_tup (he : PE X e te) : PI X tg e (iTup X.K te) :=
  ⟨fun pins s σ H R J q G g => (he.run pins s σ H _ J q).th g fun v s1 g1 ⟨y, H1, J1, r1, a, ey, ⟨xs, hq⟩, q1⟩ => by
    subst ey
    cases r1
    exact iter_tup J1 hq q1 G g1⟩
theorem pi_str (he : PE X e te) : PI X tg e (iStr te) := by
  refine ⟨fun pins s σ H R J q G g => (he.run pins s σ H _ J q).th g fun v s1 g1 ⟨y, H1, J1, r1, z, ey, q1⟩ => ?_⟩
  subst ey
  obtain ⟨t, rfl⟩ := r1
  refine (wq.of (X := X) (Q := PIE X pins σ tg R) ?_ cl_PIE) G g1
  cases ha : z.cps.all (· < 128)
  · exact wpAny_pyIter_wide ha (pi_one (tk := s1.toks) (inv_dead J1) _ (turn_str _ z t "str_iterator" (.inr rfl)) ⟨_, Heap.get?_push_size _ rfl, rfl, rfl⟩ q1)
  · exact wpAny_pyIter_ascii ha (pi_one (tk := s1.toks) (inv_dead J1) _ (turn_str _ z t "str_ascii_iterator" (.inl rfl)) ⟨_, Heap.get?_push_size _ rfl, rfl, rfl⟩ q1)
/-- nested, lifted at once -/
theorem nestQ {t : Sem Value} {pins : List (Addr × Obj)} {σ : L2.St} {R : It → Hp → Prop} {s : Shared} (h : wpAny (model X.prog X.w) X.A t (fun v s1 => wpAny (model X.prog X.w) X.A (pyIter v) (PIE X pins σ tg R) (fun _ _ => False) s1) (fun _ _ => False) (deadS s)) {G : Array GenState} (g : Kept G s.gens) :
    wpAny (model2 X.prog X.w) X.A t (fun v s1 => wpAny (model2 X.prog X.w) X.A (pyIter v) (KQ G (PIE X pins σ tg R)) (KQ G X.xe) s1) (KQ G X.xe) s :=
  wpAny_mono (D.liftR (D.relS_dead s) h) (fun v s1 ⟨s0, R0, h1⟩ => wpAny_mono (D.liftR R0 h1) (fun v2 s2 ⟨s3, R3, q⟩ => ⟨g.trans R3.kept, cl_PIE _ _ _ R3.alike q⟩) fun e s2 ⟨s3, R3, q⟩ => q.elim) fun e s1 ⟨s0, R0, q⟩ => q.elim
theorem pi_range1 {a : Expr} {ta : TA} {p pos : Pos} (hg : Gl X "range") (hm : X.mg "range" = none) (ha : PA X [a] ta) (hs : starEach [a] X.env = [(false, eval a X.env)] := by rfl) : PI X tg (.Call (.Name "range" p) [a] [] pos) (iRng1 ta) := by
  refine ⟨fun pins s σ H R J q G g => Call_ (ldB J hg hm boot_range (PyProof.Rows.callWith_type1 ((ha.run pos pins s σ H _ J q).th g fun us s1 g1 ⟨vs, H1, J1, r1, j, e, z1, z2, q1⟩ => ?_) hs rfl))⟩
  subst e
  cases r1 with
  | cons r rr =>
    cases rr
    obtain ⟨t, rfl⟩ := r
    exact nestQ (call_range_1 (range_it (inv_dead J1) (by omega) (by omega) z1 z2 (by simpa using q1))) g1
theorem pi_range2 {a b : Expr} {ta : TA} {p pos : Pos} (hg : Gl X "range") (hm : X.mg "range" = none) (ha : PA X [a, b] ta) (hs : starEach [a, b] X.env = [(false, eval a X.env), (false, eval b X.env)] := by rfl) (hs2 : starEach [b] X.env = [(false, eval b X.env)] := by rfl) :
    PI X tg (.Call (.Name "range" p) [a, b] [] pos) (iRng2 ta) := by
  refine ⟨fun pins s σ H R J q G g => Call_ (ldB J hg hm boot_range (PyProof.Rows.callWith_type1 ((ha.run pos pins s σ H _ J q).th g fun us s1 g1 ⟨vs, H1, J1, r1, i, j, e, ⟨z1, z2, z3, z4⟩, q1⟩ => ?_) (by rw [hs, hs2]) (by rw [hs2]; rfl)))⟩
  subst e
  cases r1 with
  | cons r rr =>
    cases rr with
    | cons r' rr =>
      cases rr
      obtain ⟨t, rfl⟩ := r
      obtain ⟨t', rfl⟩ := r'
      exact nestQ (call_range_2 (range_it (inv_dead J1) z1 z2 z3 z4 q1)) g1
theorem pi_enum {e : Expr} {ta : TA} {p pos tpos : Pos} {elts : List Expr} {kk : Nat} (hg : Gl X "enumerate") (hm : X.mg "enumerate" = none) (ha : PA X [e] ta) (hs : starEach [e] X.env = [(false, eval e X.env)] := by rfl) :
    PI X (.Tuple elts kk tpos) (.Call (.Name "enumerate" p) [e] [] pos) (iEnum X.K ta) := by
  refine ⟨fun pins s σ H R J q G g => Call_ (ldB J hg hm boot_enumerate (PyProof.Rows.callWith_type1 ((ha.run pos pins s σ H _ J q).th g fun us s1 g1 ⟨vs, H1, J1, r1, a, xs, ex, hq, q1⟩ => ?_) hs rfl))⟩
  subst ex
  cases r1 with
  | cons r rr =>
    cases rr
    cases r
    obtain ⟨its, rv, p', hz⟩ := (inv_dead J1).list hq
    refine nestQ (call_enumerate_list p'.isList fun h' he hit hsz hk => wpAny_pyIter_enum he ?_) g1
    have I2 : Inv X pins σ H1 { deadS s1 with heap := h' } := (inv_dead J1).kept (t' := s1.toks) hk
    refine ⟨s1.heap.objs.size + 1, [s1.heap.objs.size + 1, s1.heap.objs.size], _, _, H1, rfl, I2, turn_enum a (s1.heap.objs.size + 1) s1.heap.objs.size, ⟨⟨.none, he⟩, hit, Nat.succ_ne_self _⟩, fun b hb => ?_, q1⟩
    have e' : b = s1.heap.objs.size + 1 ∨ b = s1.heap.objs.size := by simpa using hb
    have hle : s1.heap.objs.size ≤ b := by rcases e' with z | z <;> rw [z] <;> first | exact Nat.le_add_right _ _ | exact Nat.le_refl _
    exact J1.fpOk hle (J1.hok.fresh hle)
/-! ### loops -/
theorem ps_while {body : List Stmt} {tc : TT} {tb : TS} (hp : PassesK X) (hc : PT X c tc) (hb : PSs X body tb) : PS X (.While c body [] pos) (tWhile tc tb) := by
  refine ⟨fun pins s σ H En J q G g => ?_⟩
  obtain ⟨W, ⟨m0, w0⟩, turn⟩ := q
  refine wpAny_While (D.whileLoop2 (fun n s' => Kept G s'.gens ∧ ∃ σ' H', Inv X pins σ' H' s' ∧ W n σ' H') ?_ m0 ⟨g, σ, H, J, w0⟩)
  rintro n s1 ⟨g1, σ1, H1, J1, w1⟩
  refine wpAny_passesOwn (hp G) ((hc.run pins s1 σ1 H1 _ J1 (turn n σ1 H1 w1)).th g1 fun b s2 g2 ⟨H2, J2, q2⟩ => ?_)
  cases b with
  | true =>
    obtain ⟨N, hN, q2⟩ := q2
    rw [if_pos rfl]
    refine wpAny_passesOwn (hp G) ((hb.run pins s2 σ1 H2 _ J2 q2).th g2 fun f s3 g3 q3 => ?_)
    have again : ∀ {σ3 H3}, Inv X pins σ3 H3 s3 → N σ3 H3 → ∃ m, m < n ∧ Kept G s3.gens ∧ ∃ σ' H', Inv X pins σ' H' s3 ∧ W m σ' H' := fun {σ3 H3} J3 n3 => by
      obtain ⟨m, hm, w3⟩ := hN σ3 H3 n3
      exact ⟨m, hm, g3, σ3, H3, J3, w3⟩
    cases f with
    | next => obtain ⟨σ3, H3, J3, n3⟩ := q3; exact again J3 n3
    | cont => obtain ⟨σ3, H3, J3, n3⟩ := q3; exact again J3 n3
    | brk => exact ⟨g3, q3⟩
    | ret v => exact ⟨g3, q3⟩
  | false =>
    rw [if_neg Bool.false_ne_true]
    exact wpAny_execs_nil ⟨g2, σ1, H2, J2, q2⟩
theorem ps_forE {iter : Expr} {body orelse : List Stmt} {wi : TI} {g : TG} {tb u : TS} (hp : PassesK X) (hc : X.calm = true) (hi : PI X tg iter wi) (hg : PG X tg g) (hb : PSs X body tb) (ho : PSs X orelse u)
    (hs : ∀ x, foldedSetIterable iter X.env x = pure x := by intro _; rfl) : PS X (.For tg iter body orelse pos) (tForE wi g tb u) := by
  refine ⟨fun pins s σ H En J q G gg => wpAny_For (wpAny_mono (hi.run pins s σ H _ J q G gg) (fun v s1 h1 => wpAny_mono h1 (fun itv s2 h2 => ?_) fun _ _ z => z) fun _ _ z => z) hs⟩
  obtain ⟨g2, it, fp, tn, I, H2, rfl, J2, T, st2, f2, W, ⟨m0, w0⟩, turn⟩ := h2
  have stat : ∀ {H' : Hp}, (∀ b ∈ fp, H' b = none) → ∀ b ∈ fp, FpOk X pins H' b := fun hn b hb => ⟨hn b hb, (f2 b hb).2⟩
  refine D.forLoop2 (fun n s' => Kept G s'.gens ∧ ∃ i σ' H', Inv X pins σ' H' s' ∧ tn i s'.heap ∧ (∀ b ∈ fp, H' b = none) ∧ W i n σ' H') ?_ m0 ⟨g2, 0, σ, H2, J2, st2, fun b hb => (f2 b hb).1, w0⟩
  rintro n s3 ⟨g3, i, σ3, H3, J3, st3, fr3, w3⟩
  rcases turn i n σ3 H3 w3 with ⟨stop, qn⟩ | ⟨go, N, hN, step⟩
  · have td := T.done X rfl rfl rfl hc i pins _ σ3 H3 (fun _ _ => False) (inv_dead J3) (stat fr3) st3 stop
    refine wpAny_passesOwn (hp G) ((wq.of (X := X) td (fun _ _ _ a ⟨e, j⟩ => ⟨e, inv_alike j a⟩)).th g3 fun r s4 g4 ⟨hr, J4⟩ => ?_)
    subst hr
    exact wpAny_passesOwn (hp G) ((ho.run pins s4 σ3 H3 En J4 qn).th g4 fun f s5 g5 q5 => ⟨g5, q5⟩)
  · have ti := T.item X rfl rfl rfl hc i pins _ σ3 H3 (fun _ _ => False) (inv_dead J3) (stat fr3) st3 go
    refine wpAny_passesOwn (hp G) (wpAny_mono (D.liftR (D.relS_dead s3) ti) (fun r s4 ⟨s4', R4, u, hr, h4⟩ => ?_) fun e s' ⟨s1, R1, z⟩ => z.elim)
    subst hr
    refine wpAny_passesOwn (hp G) (wpAny_mono (D.liftR R4 h4) (fun _ s5 ⟨s5', R5, y, H5, J5, r5, y5, st5, fr5⟩ => ?_) fun e s' ⟨s1, R1, z⟩ => z.elim)
    have g5 := g3.trans R5.kept
    have J5 := inv_alike J5 R5.alike
    have st5 : tn (i + 1) s5.heap := by rw [R5.heap]; exact st5
    have J5' := J5.pinned (stat fr5) (T.obj _ _ st5)
    refine wpAny_passesOwn (hp G) ((hg.run _ s5 σ3 H5 y u _ J5' r5 (step y H5 y5)).th g5 fun _ s6 g6 ⟨σ6, H6, J6, q6⟩ => ?_)
    refine wpAny_passesOwn (hp G) ((hb.run _ s6 σ6 H6 _ J6 q6).th g6 fun f s7 g7 q7 => ?_)
    have again : ∀ {σ7 : L2.St} {H7 : Hp}, Inv X (pins ++ pinsAt fp s5.heap) σ7 H7 s7 → N σ7 H7 → ∃ m, m < n ∧ Kept G s7.gens ∧ ∃ i σ' H', Inv X pins σ' H' s7 ∧ tn i s7.heap ∧ (∀ b ∈ fp, H' b = none) ∧ W i m σ' H' := fun {σ7 H7} J7 n7 => by
      obtain ⟨m', hm, w7⟩ := hN σ7 H7 n7
      refine ⟨m', hm, g7, i + 1, σ7, H7, J7.unpinned, T.keep _ _ _ st5 fun b hb o e => (J7.pin (b, o) (List.mem_append_right _ (List.mem_append_right _ (mem_pinsAt hb e)))).1, fun b hb => ?_, w7⟩
      obtain ⟨o, e, d⟩ := T.obj _ _ st5 b hb
      exact (J7.pin (b, o) (List.mem_append_right _ (List.mem_append_right _ (mem_pinsAt hb e)))).2.1
    cases f with
    | next => obtain ⟨σ7, H7, J7, n7⟩ := q7; exact again J7 n7
    | cont => obtain ⟨σ7, H7, J7, n7⟩ := q7; exact again J7 n7
    | brk => obtain ⟨σ7, H7, J7, q7⟩ := q7; exact ⟨g7, σ7, H7, J7.unpinned, q7⟩
    | ret v => obtain ⟨x7, σ7, H7, J7, r7, q7⟩ := q7; exact ⟨g7, x7, σ7, H7, J7.unpinned, r7, q7⟩
/-! ### two or three names stored at once -/
theorem unpackQ {pins : List (Addr × Obj)} {s : Shared} {σ : L2.St} {H : Hp} (J : Inv X pins σ H s) {us : List Value} (hc : X.calm = true) : wq X (unpackItems (.ref s.heap.objs.size) us.length none) (fun ws s' => ws = us ∧ Inv X pins σ H s') { s with heap := s.heap.push { cls := .type "tuple", data := .seq us.toArray } } := by
  have J1 : Inv X pins σ H { s with heap := s.heap.push { cls := .type "tuple", data := .seq us.toArray } } := J.kept (t' := s.toks) fun b o e => Heap.get?_push_of_some _ e
  have lf : wpAny (model X.prog X.w) X.A (unpackItems (.ref s.heap.objs.size) us.toArray.size none) (fun ws s' => ws = us ∧ Inv X pins σ H s') (fun _ _ => False) (deadS { s with heap := s.heap.push { cls := .type "tuple", data := .seq us.toArray } }) := by
    refine unpackItems_tuple (items := us.toArray) (J.ok.hd hc) (IsTup.new s.heap _) fun h' hx => ⟨by simp, ?_⟩
    exact (inv_dead J1).kept (h' := h') (t' := s.toks) fun b o e => hx b o (Nat.ne_of_lt (Heap.lt_size e)) e
  rw [List.size_toArray] at lf
  exact .of lf (fun _ _ _ a ⟨e, j⟩ => ⟨e, inv_alike j a⟩)
theorem ps_par {i j : Nat} {n m : Str} {a b : Expr} {ta : TA} {px py pt : Pos} {kt k2 pt2} (hc : X.calm = true) (hN : X.N.Nodup) (hi : X.N[i]? = some n) (hj : X.N[j]? = some m) (hij : i ≠ j)
    (hx : X.env.scope.names.lookup n = some .local) (hy : X.env.scope.names.lookup m = some .local) (ha : PA X [a, b] ta)
    (hw : swappedStores [.Tuple [.Name n px, .Name m py] kt pt] (.Tuple [a, b] k2 pt2) X.env = pure (some [n, m]))
    (hs : swapsWithSole [.Tuple [.Name n px, .Name m py] kt pt] (.Tuple [a, b] k2 pt2) pos.line X.env = pure false := by rfl) : PS X (.Assign [.Tuple [.Name n px, .Name m py] kt pt] (.Tuple [a, b] k2 pt2) pos) (tPar i j ta) := by
  refine ⟨fun pins s σ H D J q G g => ?_⟩
  rw [exec_Assign_arm]
  refine wpAny_bind (wpAny_standAt ?_)
  rw [hs]
  refine wpAny_bind (wpAny_pure ?_)
  rw [if_neg (by decide)]
  refine wpAny_bind (Tuple_ ((ha.run _ pins s σ H _ J q).th g fun us s1 g1 ⟨vs, H1, J1, r1, v, w, e1, q1⟩ => ?_))
  subst e1
  obtain ⟨u1, u2, rfl, rv, rw'⟩ : ∃ u1 u2, us = [u1, u2] ∧ RelV v u1 ∧ RelV w u2 := by
    cases r1 with
    | cons p q => cases q with
      | cons p' q' => cases q'; exact ⟨_, _, rfl, p, p'⟩
  refine wpAny_newTuple ?_ (by show 2 ≤ sizeLine; decide)
  rw [hw]
  refine wpAny_bind (wpAny_pure ?_)
  show wpAny (model2 X.prog X.w) X.A (do rule "assign.swapped-stores"; let items ← unpackItems (.ref s1.heap.objs.size) 2 none; assignInOrder [fun v => bindName X.env m v, fun v => bindName X.env n v] items.reverse; pure Flow.next) _ _ _
  refine wpAny_bind (wpAny_rule (wpAny_bind ((unpackQ (us := [u1, u2]) J1 hc).th g1 fun ws s2 g2 ⟨e2, J2⟩ => ?_)))
  subst e2
  show wpAny _ _ (assignInOrder [fun v => bindName X.env m v, fun v => bindName X.env n v] [u2, u1] >>= fun _ => pure Flow.next) _ _ _
  refine wpAny_bind (assignInOrder_cons (wpAny_bindName ((storeQ J2 hN hj (.inl hy) rw' (.inr hy)).th g2 fun _ s3 g3 J3 => ?_)))
  refine assignInOrder_cons (wpAny_bindName ((storeQ J3 hN hi (.inl hx) rv (.inr hx)).th g3 fun _ s4 g4 J4 => assignInOrder_nil (wpAny_pure ?_)))
  rw [List.set_comm _ _ (Ne.symm hij)] at J4
  exact ⟨g4, _, H1, J4, q1⟩
theorem ps_par3 {i j l : Nat} {n m k : Str} {a b c : Expr} {ta : TA} {px py pz pt pos : Pos} {kt k2 pt2} (hc : X.calm = true) (hN : X.N.Nodup) (hi : X.N[i]? = some n) (hj : X.N[j]? = some m) (hl : X.N[l]? = some k) (hij : i ≠ j) (hil : i ≠ l) (hjl : j ≠ l)
    (hx : X.env.scope.names.lookup n = some .local) (hy : X.env.scope.names.lookup m = some .local) (hz : X.env.scope.names.lookup k = some .local) (ha : PA X [a, b, c] ta)
    (hw : swappedStores [.Tuple [.Name n px, .Name m py, .Name k pz] kt pt] (.Tuple [a, b, c] k2 pt2) X.env = pure (some [n, m, k]))
    (hs : swapsWithSole [.Tuple [.Name n px, .Name m py, .Name k pz] kt pt] (.Tuple [a, b, c] k2 pt2) pos.line X.env = pure false := by rfl) :
    PS X (.Assign [.Tuple [.Name n px, .Name m py, .Name k pz] kt pt] (.Tuple [a, b, c] k2 pt2) pos) (tPar3 i j l ta) := by
  refine ⟨fun pins s σ H D J q G g => ?_⟩
  rw [exec_Assign_arm]
  refine wpAny_bind (wpAny_standAt ?_)
  rw [hs]
  refine wpAny_bind (wpAny_pure ?_)
  rw [if_neg (by decide)]
  refine wpAny_bind (Tuple_ ((ha.run _ pins s σ H _ J q).th g fun us s1 g1 ⟨vs, H1, J1, r1, v1, v2, v3, e1, q1⟩ => ?_))
  subst e1
  obtain ⟨u1, u2, u3, rfl, z1, z2, z3⟩ : ∃ u1 u2 u3, us = [u1, u2, u3] ∧ RelV v1 u1 ∧ RelV v2 u2 ∧ RelV v3 u3 := by
    cases r1 with
    | cons p q => cases q with
      | cons p' q' => cases q' with
        | cons p2 q2 => cases q2; exact ⟨_, _, _, rfl, p, p', p2⟩
  refine wpAny_newTuple ?_ (by show 3 ≤ sizeLine; decide)
  rw [hw]
  refine wpAny_bind (wpAny_pure ?_)
  show wpAny (model2 X.prog X.w) X.A (do rule "assign.swapped-stores"; let items ← unpackItems (.ref s1.heap.objs.size) 3 none; assignInOrder [fun v => bindName X.env k v, fun v => bindName X.env m v, fun v => bindName X.env n v] items.reverse; pure Flow.next) _ _ _
  refine wpAny_bind (wpAny_rule (wpAny_bind ((unpackQ (us := [u1, u2, u3]) J1 hc).th g1 fun ws s2 g2 ⟨e2, J2⟩ => ?_)))
  subst e2
  show wpAny _ _ (assignInOrder [fun v => bindName X.env k v, fun v => bindName X.env m v, fun v => bindName X.env n v] [u3, u2, u1] >>= fun _ => pure Flow.next) _ _ _
  refine wpAny_bind (assignInOrder_cons (wpAny_bindName ((storeQ J2 hN hl (.inl hz) z3 (.inr hz)).th g2 fun _ s3 g3 J3 => ?_)))
  refine assignInOrder_cons (wpAny_bindName ((storeQ J3 hN hj (.inl hy) z2 (.inr hy)).th g3 fun _ s4 g4 J4 => ?_))
  refine assignInOrder_cons (wpAny_bindName ((storeQ J4 hN hi (.inl hx) z1 (.inr hx)).th g4 fun _ s5 g5 J5 => assignInOrder_nil (wpAny_pure ?_)))
  rw [List.set_comm _ _ (Ne.symm hjl), List.set_comm _ _ (Ne.symm hil), List.set_comm _ _ (Ne.symm hij)] at J5
  exact ⟨g5, _, H1, J5, q1⟩
end
end Y

/-! Judgements over the second machine: comprehensions. -/
namespace D
open PySem PyProof.Rows
section
variable {P : Program} {w : World} {A : Around} {R : Result → Shared → Prop} {s : Shared} {elt tg iter : Expr} {ifs : List Expr} {rest : List Comprehension} {scope : Scope} {pos : Pos} {it acc : Value} {env : Env}
/-- the tests of a clause -/
abbrev tests (ifs : List Expr) (env : Env) : Sem Bool := forIn ifs true fun c r => if r = true then do let ok ← isTrue c env (eval c env); pure (ForInStep.yield ok) else pure (ForInStep.yield r)
theorem compLoopD (I : Nat → Shared → Prop)
    (turn : ∀ n s, I n s → wpAny (model2 P w) A (pyNext it) (fun r s1 => match r with
      | none => R (.ok .next) s1
      | some v => wpAny (model2 P w) A (letOwnedTupleGo tg it v) (fun _ s2 => wpAny (model2 P w) A (assign tg env v) (fun _ s3 => wpAny (model2 P w) A (tests ifs env) (fun ok s4 =>
            if ok = true then wpAny (model2 P w) A (eval elt env) (fun x s5 => wpAny (model2 P w) A (call (.builtin "list.append") [acc, x]) (fun _ s6 => ∃ m, m < n ∧ I m s6) (notedBy (model2 P w) A env fun e s' => R (.error e) s') s5) (notedBy (model2 P w) A env fun e s' => R (.error e) s') s4
            else ∃ m, m < n ∧ I m s4) (notedBy (model2 P w) A env fun e s' => R (.error e) s') s3) (notedBy (model2 P w) A env fun e s' => R (.error e) s') s2) (notedBy (model2 P w) A env fun e s' => R (.error e) s') s1) (notedBy (model2 P w) A env fun e s' => R (.error e) s') s)
    (n : Nat) (h : I n s) : codeAny (model2 P w) A (.compLoop (.ListComp elt [⟨tg, iter, ifs, 0⟩] scope pos) 0 it acc env) R s := by
  refine loop2 rfl I (fun n s hI => ?_) n h
  show wpAny _ A ((compTurn (.ListComp elt [⟨tg, iter, ifs, 0⟩] scope pos) 0 it acc env).onRaise (fun x => do noteFrame x env; theTreesLotGoes x)) _ _ s
  refine wpAny_noted ?_
  rw [compTurn_list]
  refine wpAny_bind (wpAny_standAt (wpAny_bind (wpAny_mono (turn n s hI) (fun r s1 h1 => ?_) fun _ _ z => z)))
  cases r with
  | none => exact wpAny_pure h1
  | some v =>
    refine wpAny_bind (wpAny_mono h1 (fun _ s2 h2 => ?_) fun _ _ z => z)
    refine wpAny_bind (wpAny_mono h2 (fun _ s3 h3 => wpAny_bind (wpAny_mono h3 (fun ok s4 h4 => ?_) fun _ _ z => z)) fun _ _ z => z)
    cases ok with
    | false => exact wpAny_pure (.inl ⟨rfl, h4⟩)
    | true => exact wpAny_bind (wpAny_bind (wpAny_mono h4 (fun x s5 h5 => wpAny_bind (wpAny_mono h5 (fun _ s6 h6 => wpAny_pure (wpAny_pure (.inl ⟨rfl, h6⟩))) fun _ _ z => z)) fun _ _ z => z))
theorem compStartD (h0 : codeAny (model2 P w) A (.compLoop (.ListComp elt (⟨tg, iter, ifs, 0⟩ :: rest) scope pos) 0 it acc env) R s)
    (h : wpAny (model2 P w) A (pyIter it) (fun it' s' => codeAny (model2 P w) A (.compLoop (.ListComp elt (⟨tg, iter, ifs, 0⟩ :: rest) scope pos) 0 it' acc env) R s') (notedBy (model2 P w) A env fun x s' => R (.error x) s') s) :
    codeAny (model2 P w) A (.compStart (.ListComp elt (⟨tg, iter, ifs, 0⟩ :: rest) scope pos) 0 it acc env) R s := by
  refine codeAny2 ?_
  show wpAny _ _ ((compStart (.ListComp elt (⟨tg, iter, ifs, 0⟩ :: rest) scope pos) 0 it acc env).onRaise (fun x => do noteFrame x env; standAt theWindowsPlace)) _ _ s
  refine wpAny_notedAt ?_
  unfold compStart
  show wpAny _ _ (ask >>= _) _ _ s
  refine wpAny_bind (wpAny_askSetting (wpAny_ite ?_))
  split
  · first
      | exact wpAny_bind (wpAny_pure (wpAny_pure ⟨rfl, h0⟩))
      | exact wpAny_pure ⟨rfl, h0⟩
  · refine wpAny_bind (wpAny_rule ?_)
    show wpAny _ _ (standAt iter.pos >>= _) _ _ s
    exact wpAny_bind (wpAny_standAt (wpAny_bind (wpAny_mono h (fun it' s' h' => wpAny_pure ⟨rfl, h'⟩) fun _ _ z => z)))
end
end D
namespace Y
open PySem PySem.Spec PyProof.Rows L2
open D (model2 Kept Cl Alike deadS)
structure PTs (X : Cx) (ifs : List Expr) (t : TT) : Prop where
  run : ∀ (pins : List (Addr × Obj)) (s : Shared) (σ : L2.St) (H : Hp) (Q : Bool → Hp → Prop), Inv X pins σ H s → t σ H Q → wq X (D.tests ifs X.env) (TP X pins σ Q) s
section
variable {X : Cx}
theorem pts_nil : PTs X [] tYes := ⟨fun pins s σ H Q J q G g => wpAny_pure ⟨g, H, J, q⟩⟩
theorem pts_one {c : Expr} {t : TT} (h : PT X c t) : PTs X [c] t := ⟨fun pins s σ H Q J q G g => by
  show wpAny _ _ (forIn [c] true fun c r => if r = true then do let ok ← isTrue c X.env (eval c X.env); pure (ForInStep.yield ok) else pure (ForInStep.yield r)) _ _ s
  simp only [List.forIn_cons, List.forIn_nil, if_true]
  exact wpAny_bind (wpAny_bind ((h.run pins s σ H Q J q).th g fun b s1 g1 q1 => wpAny_pure (wpAny_pure ⟨g1, q1⟩)))⟩
/-- where no exception is -/
theorem wq.thF {α : Type} {t : Sem α} {Q Q' : α → Shared → Prop} {E : Value → Shared → Prop} {s : Shared} (h : wq X t Q s) (hx : ∀ e s, X.xe e s → False) {G : Array GenState} (g : Kept G s.gens) (f : ∀ a s', Kept G s'.gens → Q a s' → Q' a s') : wpAny (model2 X.prog X.w) X.A t Q' E s :=
  wpAny_mono (h G g) (fun a s' q => f a s' q.1 q.2) fun e s' z => (hx e s' z.2).elim
theorem appQ {L : Addr} {xs : List V} {y : V} {v : Value} {pins : List (Addr × Obj)} {σ : L2.St} {H : Hp} {s : Shared} (J : Inv X pins σ H s) (hD : H L = some (.lst xs)) (hz : xs.length < sizeLine) (r : RelV y v) :
    wq X (PySem.call (.builtin "list.append") [.ref L, v]) (fun _ s' => Inv X pins σ (upd H L (.lst (xs ++ [y]))) s') s :=
  .of (app_ok (inv_dead J) hD hz r fun _ J => J) (fun _ _ _ a J => inv_alike J a)
theorem lc_core {pins : List (Addr × Obj)} {s : Shared} {σ : L2.St} {H : Hp} {Q : VK} {elt tg iter : Expr} {ifs : List Expr} {scope : Scope} {own : List (Str × Nat)} {pos pos' : Pos} {wi : TI} {g : TG} {tt : TT} {te : TE} {use : Option (Value → Sem Unit)} {Qf : Value → Shared → Prop} {G : Array GenState}
    (gg : Kept G s.gens) (hc : X.calm = true) (hN : X.N.Nodup) (J : Inv X pins σ H s) (hi : PI X tg iter wi) (ok : BlkOk X.N X.env.scope scope own)
    (hg : ∀ (s : Shared) (H : Hp) (C : Addr) (cl : List (Str × Addr)) (fp : List Addr), PG (X.blk s H scope (compEnvC scope cl C X.env) fp) tg g)
    (ht : ∀ (s : Shared) (H : Hp) (C : Addr) (cl : List (Str × Addr)) (fp : List Addr), PTs (X.blk s H scope (compEnvC scope cl C X.env) fp) ifs tt)
    (he : ∀ (s : Shared) (H : Hp) (C : Addr) (cl : List (Str × Addr)) (fp : List Addr), PE (X.blk s H scope (compEnvC scope cl C X.env) fp) elt te) (hs : ∀ x, foldedSetIterable iter X.env x = pure x)
    (h : tLc wi g tt te (own.map (·.2)) σ H Q)
    (hRR : ∀ L C s' m H', Kept G s'.gens → Inv X pins σ H' s' → Q (.ref L) H' → s'.heap.Ns C m → FpOk X pins H' C → compPost (model2 X.prog X.w) X.A (KQ G X.xe) use Qf (.ref L) C (.ok .next) s') :
    wpAny (model2 X.prog X.w) X.A (comprehension (.ListComp elt [⟨tg, iter, ifs, 0⟩] scope pos) scope X.env pos' (newList []) false (eval iter X.env) use) Qf (KQ G X.xe) s := by
  have hfree : ∀ y ∈ scope.names, y.2 = .free → ∃ c, X.env.cells.lookup y.1 = some c := fun y hy e => (ok.free y hy e).elim (fun k => J.ok.has _ (.inl k)) fun k => J.ok.has _ (.inr k)
  refine wpAny_comprehension_free (use := use) rfl hs (closure_ok hfree) ok.kind (fun y hy e => by rw [ok.uniq y hy, e])
    (wpAny_mono (hi.run pins s σ H _ J h G gg) (fun xv s1 h1 => wpAny_mono h1 (fun itv s2 h2 => ?_) fun _ _ z => z) fun _ _ z => z)
  obtain ⟨g2, it, fp, tn, I, H2, rfl, J2, T, st2, f2, q⟩ := h2
  refine wpAny_newObj_type (newEnv_comp ?_) (by show 0 ≤ sizeLine; decide)
  generalize hL : s2.heap.objs.size = L
  have hLn : H2 L = none := J2.hok.fresh (Nat.le_of_eq hL)
  obtain ⟨W, ⟨m0, w0⟩, turn⟩ := q L hLn
  generalize hs3 : ({ s2 with heap := s2.heap.push { cls := .type "list", data := .seq ([] : List Value).toArray } } : Shared) = s3
  have J3 : Inv X pins σ (upd H2 L (.lst [])) s3 := by
    rw [← hs3]
    refine J2.laid (t' := s2.toks) (fun b o e => Heap.get?_push_of_some _ e) (Nat.le_of_eq hL) ⟨Nat.zero_le _, [], 0, .nil, ?_⟩
    rw [← hL]; exact Heap.get?_push_size _ rfl
  have g3 : Kept G s3.gens := by rw [← hs3]; exact g2
  have h3 : s3.heap = s2.heap.push { cls := .type "list", data := .seq ([] : List Value).toArray } := by rw [← hs3]
  have f3 : ∀ b ∈ fp, FpOk X pins (upd H2 L (.lst [])) b ∧ b < s3.heap.objs.size := fun b hb => by
    obtain ⟨o, e, _⟩ := T.obj _ _ st2 b hb
    have hlt := Heap.lt_size e
    refine ⟨⟨?_, (f2 b hb).2⟩, by rw [h3, Heap.size_push]; exact Nat.lt_succ_of_lt hlt⟩
    rw [upd_ne (by rw [← hL]; exact Nat.ne_of_lt hlt)]
    exact (f2 b hb).1
  have st3 : tn 0 s3.heap := T.keep _ _ _ st2 fun b _ o e => by rw [h3]; exact Heap.get?_push_of_some _ e
  have J4 := block_start J3 ok hN f3
  have pg := hg s3 (upd H2 L (.lst [])) s3.heap.objs.size (cellsFrom (s3.heap.objs.size + 1) scope.names (cloFrom X.env.cells scope.names [])) fp
  have pt := ht s3 (upd H2 L (.lst [])) s3.heap.objs.size (cellsFrom (s3.heap.objs.size + 1) scope.names (cloFrom X.env.cells scope.names [])) fp
  have pe := he s3 (upd H2 L (.lst [])) s3.heap.objs.size (cellsFrom (s3.heap.objs.size + 1) scope.names (cloFrom X.env.cells scope.names [])) fp
  show codeAny _ _ (.compStart (.ListComp elt [⟨tg, iter, ifs, 0⟩] scope pos) 0 (.ref it) (.ref L) (compEnvC scope (cellsFrom (s3.heap.objs.size + 1) scope.names (cloFrom X.env.cells scope.names [])) s3.heap.objs.size X.env))
    (compPost (model2 X.prog X.w) X.A (KQ G X.xe) use Qf (.ref L) s3.heap.objs.size) { s3 with heap := pushCells (s3.heap.push { cls := .type "dict", data := .dict #[] }) scope.names }
  have nfp : ∀ b ∈ fp, (upd H2 L (.lst [])) b = none := fun b hb => (f3 b hb).1.1
  generalize hce : compEnvC scope (cellsFrom (s3.heap.objs.size + 1) scope.names (cloFrom X.env.cells scope.names [])) s3.heap.objs.size X.env = ce at J4 pg pt pe ⊢
  have cL : ce.locals = s3.heap.objs.size := by subst hce; rfl
  generalize hH3 : upd H2 L (.lst []) = H3 at J3 J4 pg pt pe w0 nfp f3
  generalize hs4 : ({ s3 with heap := pushCells (s3.heap.push { cls := .type "dict", data := .dict #[] }) scope.names } : Shared) = s4 at J4 ⊢
  have g4 : Kept G s4.gens := by rw [← hs4]; exact g3
  have st4 : tn 0 s4.heap := T.keep _ _ _ st3 fun b _ o e => by rw [← hs4]; exact pushCells_keeps _ _ _ _ (Heap.get?_push_of_some _ e)
  have nxe : ∀ e s, (X.blk s3 H3 scope ce fp).xe e s → False := fun _ _ z => z
  have stat : ∀ {σ' : L2.St} {H' : Hp} {s' : Shared}, Inv (X.blk s3 H3 scope ce fp) [] σ' H' s' → (∀ b ∈ fp, H' b = none) → ∀ b ∈ fp, FpOk (X.blk s3 H3 scope ce fp) [] H' b := fun {σ' H' s'} J' hn b hb =>
    ⟨hn b hb, (J'.ok.exf b hb).1, J'.ok.exfs b hb, .inl hb, fun y c e => (J'.ok.exf b hb).2 y c e, fun p hp => absurd (show p ∈ ([] : List (Addr × Obj)) ++ [] from hp) (by simp)⟩
  have loop : codeAny (model2 X.prog X.w) X.A (.compLoop (.ListComp elt [⟨tg, iter, ifs, 0⟩] scope pos) 0 (.ref it) (.ref L) ce) (compPost (model2 X.prog X.w) X.A (KQ G X.xe) use Qf (.ref L) s3.heap.objs.size) s4 := by
    refine D.compLoopD (fun n s' => Kept G s'.gens ∧ ∃ i H', Inv (X.blk s3 H3 scope ce fp) [] (wipe σ (own.map (·.2))) H' s' ∧ tn i s'.heap ∧ (∀ b ∈ fp, H' b = none) ∧ W i n H') ?_ m0 ⟨g4, 0, H3, J4, st4, nfp, w0⟩
    rintro n s5 ⟨g5, i, H5, J5, st5, n5, w5⟩
    rcases turn i n H5 w5 with ⟨stop, qq⟩ | ⟨go, Nx, hNx, step⟩
    · have td := T.done (X.blk s3 H3 scope ce fp) rfl rfl rfl hc i [] _ _ H5 (fun _ _ => False) (inv_dead J5) (stat J5 n5) st5 stop
      refine (wq.of (X := X.blk s3 H3 scope ce fp) td (fun _ _ _ a ⟨e, j⟩ => ⟨e, inv_alike j a⟩)).thF nxe g5 fun r s6 g6 ⟨hr, J6⟩ => ?_
      subst hr
      have J7 : Inv X pins σ H5 s6 := J3.call' (ch := fp) J6.os J6.base J6.hok J6.bare fun b hb => ⟨(f3 b hb).1.2.2.2.1, (f3 b hb).1.2.1, (f3 b hb).1.2.2.2.2.1, (f3 b hb).1.2.2.2.2.2⟩
      have nC : H5 s3.heap.objs.size = none := by
        have z : H5 ce.locals = none := J6.free
        rw [cL] at z; exact z
      obtain ⟨m, hn, _⟩ := J6.loc
      have hn : s6.heap.Ns ce.locals m := hn
      rw [cL] at hn
      exact hRR L s3.heap.objs.size s6 m H5 g6 J7 qq hn (J3.fpOk (Nat.le_refl _) nC)
    · have ti := T.item (X.blk s3 H3 scope ce fp) rfl rfl rfl hc i [] _ _ H5 (fun _ _ => False) (inv_dead J5) (stat J5 n5) st5 go
      refine wpAny_mono (D.liftR (D.relS_dead s5) ti) (fun r s6 ⟨s6', R6, u, hr, h6⟩ => ?_) fun e s' ⟨_, _, z⟩ => z.elim
      subst hr
      refine wpAny_mono (D.liftR R6 h6) (fun _ s7 ⟨s7', R7, y, H7, J7, r7, y7, st7, n7⟩ => ?_) fun e s' ⟨_, _, z⟩ => z.elim
      have g7 := g5.trans R7.kept
      have J7 := inv_alike J7 R7.alike
      have st7 : tn (i + 1) s7.heap := by rw [R7.heap]; exact st7
      have J7' := J7.pinned (stat J7 n7) (T.obj _ _ st7)
      refine (pg.run _ s7 _ H7 y u _ J7' r7 (step y H7 y7)).thF nxe g7 fun _ s8 g8 ⟨σ8, H8, J8, hw8, q8⟩ => ?_
      refine (pt.run _ s8 σ8 H8 _ J8 q8).thF nxe g8 fun b s9 g9 ⟨H9, J9, q9⟩ => ?_
      have fin : ∀ {s' : Shared} {H' : Hp}, Kept G s'.gens → Inv (X.blk s3 H3 scope ce fp) ([] ++ pinsAt fp s7.heap) σ8 H' s' → Nx H' → ∃ m, m < n ∧ Kept G s'.gens ∧ ∃ i H', Inv (X.blk s3 H3 scope ce fp) [] (wipe σ (own.map (·.2))) H' s' ∧ tn i s'.heap ∧ (∀ b ∈ fp, H' b = none) ∧ W i m H' := fun {s' H'} g' J' nx => by
        obtain ⟨m', hm, w'⟩ := hNx H' nx
        have pin' : ∀ b ∈ fp, ∀ o, s7.heap.get? b = some o → s'.heap.get? b = some o ∧ H' b = none := fun b hb o e =>
          let z := J'.pin (b, o) (List.mem_append_right _ (List.mem_append_right _ (mem_pinsAt hb e)))
          ⟨z.1, z.2.1⟩
        have hl : (wipe σ (own.map (·.2))).length = σ8.length := by rw [← hw8, wipe_length]
        refine ⟨m', hm, g', i + 1, H', (J'.unpinned (pins := [])).weak hl (fun j v e => ?_), T.keep _ _ _ st7 fun b hb o e => (pin' b hb o e).1, fun b hb => ?_, w'⟩
        · rw [← hw8] at e
          exact (wipe_some e).1
        · obtain ⟨o, e, _⟩ := T.obj _ _ st7 b hb
          exact (pin' b hb o e).2
      cases b with
      | false =>
        simp only [Bool.false_eq_true, if_false] at q9 ⊢
        exact fin g9 J9 q9
      | true =>
        simp only [if_true] at q9 ⊢
        refine (pe.run _ s9 σ8 H9 _ J9 q9).thF nxe g9 fun z s10 g10 ⟨yv, H10, J10, r10, acc, hD10, hz10, nxt⟩ => ?_
        exact (appQ (X := X.blk s3 H3 scope ce fp) J10 hD10 hz10 r10).thF nxe g10 fun _ s11 g11 J11 => fin g11 J11 nxt
  refine D.compStartD loop (D.exact (u := Value.ref it) (T.self X.A 0 _ _ _ ?_ ⟨rfl, rfl⟩) loop)
  exact st4
theorem pe_lc {elt tg iter : Expr} {ifs : List Expr} {scope : Scope} {own : List (Str × Nat)} {pos : Pos} {wi : TI} {g : TG} {tt : TT} {te : TE} (hc : X.calm = true) (hN : X.N.Nodup) (hi : PI X tg iter wi) (ok : BlkOk X.N X.env.scope scope own)
    (hg : ∀ (s : Shared) (H : Hp) (C : Addr) (cl : List (Str × Addr)) (fp : List Addr), PG (X.blk s H scope (compEnvC scope cl C X.env) fp) tg g)
    (ht : ∀ (s : Shared) (H : Hp) (C : Addr) (cl : List (Str × Addr)) (fp : List Addr), PTs (X.blk s H scope (compEnvC scope cl C X.env) fp) ifs tt)
    (he : ∀ (s : Shared) (H : Hp) (C : Addr) (cl : List (Str × Addr)) (fp : List Addr), PE (X.blk s H scope (compEnvC scope cl C X.env) fp) elt te) (hs : ∀ x, foldedSetIterable iter X.env x = pure x := by intro _; rfl) :
    PE X (.ListComp elt [⟨tg, iter, ifs, 0⟩] scope pos) (tLc wi g tt te (own.map (·.2))) := by
  refine ⟨fun pins s σ H Q J h G gg => ?_⟩
  rw [eval_ListComp]
  refine lc_core gg hc hN J hi ok hg ht he hs h fun L C s' m H' g' J' q hn f => ⟨m, hn, fun h'' sb => ?_⟩
  obtain ⟨f0, f1, f2, f3, f4, f5⟩ := f
  exact ⟨g', .ref L, H', J'.turned (t' := s'.toks) (fun b o hb e => (sb.2 b hb).trans e) f0 f1 f3 f4 f5, rfl, q⟩
theorem ps_setLc {i : Nat} {y : Str} {py : Pos} {elt tg iter : Expr} {ifs : List Expr} {scope : Scope} {own : List (Str × Nat)} {pos spos : Pos} {wi : TI} {g : TG} {tt : TT} {te : TE} (hc : X.calm = true) (hN : X.N.Nodup) (hy : X.N[i]? = some y) (hyl : X.env.scope.names.lookup y = some .local)
    (hsw : swapsWith (.ListComp elt [⟨tg, iter, ifs, 0⟩] scope pos) (some (.Name y py)) spos.line X.env = pure true) (hi : PI X tg iter wi) (ok : BlkOk X.N X.env.scope scope own)
    (hg : ∀ (s : Shared) (H : Hp) (C : Addr) (cl : List (Str × Addr)) (fp : List Addr), PG (X.blk s H scope (compEnvC scope cl C X.env) fp) tg g)
    (ht : ∀ (s : Shared) (H : Hp) (C : Addr) (cl : List (Str × Addr)) (fp : List Addr), PTs (X.blk s H scope (compEnvC scope cl C X.env) fp) ifs tt)
    (he : ∀ (s : Shared) (H : Hp) (C : Addr) (cl : List (Str × Addr)) (fp : List Addr), PE (X.blk s H scope (compEnvC scope cl C X.env) fp) elt te) (hs : ∀ x, foldedSetIterable iter X.env x = pure x := by intro _; rfl) :
    PS X (.Assign [.Name y py] (.ListComp elt [⟨tg, iter, ifs, 0⟩] scope pos) spos) (tAsg (tLc wi g tt te (own.map (·.2))) (gName i)) := by
  refine ⟨fun pins s σ H En J h G gg => ?_⟩
  rw [exec_Assign_Name_used _ _ _ _ hsw]
  refine wpAny_bind (wpAny_standAt (wpAny_bind ?_))
  show wpAny _ X.A (do let _ ← comprehension (.ListComp elt [⟨tg, iter, ifs, 0⟩] scope pos) scope X.env (firstIterPos [⟨tg, iter, ifs, 0⟩] pos) (newList []) false (eval iter X.env) (some (assign (.Name y py) X.env))) _ _ s
  have h : tLc wi g tt te (own.map (·.2)) σ H (fun z H1 => gName i z σ H1 En.nx) := h
  refine wpAny_bind (wpAny_mono (lc_core (Qf := fun _ => KQ G (SP X pins En) .next) gg hc hN J hi ok hg ht he hs h fun L C s' m H' g' J' q hn f => ?_) (fun _ s' hq => wpAny_pure (wpAny_pure hq)) fun _ _ z => z)
  show wpAny _ _ (assign (.Name y py) X.env (.ref L)) _ _ _
  have lf : wpAny (model X.prog X.w) X.A (storeName X.env y (.ref L)) (fun _ s2 => Inv X pins (σ.set i (some (V.ref L))) H' s2 ∧ ∃ a, Heap.SameBut a s'.heap s2.heap ∧ (a = X.env.locals ∨ X.env.cells.lookup y = some a)) (fun _ _ => False) (deadS s') :=
    store_ok2 (v := V.ref L) (inv_dead J') hN hy (.inl hyl) rfl (fun s2 J2 z => ⟨J2, z⟩) (.inr hyl)
  refine wpAny_assign_Name ((wq.of lf (fun _ _ _ al ⟨j, a, sb, ha⟩ => ⟨inv_alike j al, a, by rw [al.heap]; exact sb, ha⟩)).th g' fun _ s2 g2 ⟨J2, a, sb, ha⟩ => ?_)
  obtain ⟨f0, f1, f2, f3, f4, f5⟩ := f
  have haC : C ≠ a := by
    rcases ha with z | z
    · rw [z]; exact f1
    · exact fun e => f4 y a z e.symm
  refine ⟨m, hn.sameBut sb haC, fun h3 sb3 => ⟨g2, _, H', J2.turned (t' := s2.toks) (fun b o hb e => (sb3.2 b hb).trans e) f0 f1 f3 f4 f5, q⟩⟩
end
end Y

/-! The heap never gets smaller. -/
namespace D
open PySem
abbrev hz (s : Shared) : Nat := s.heap.objs.size
theorem runs_hz {M : Model} {Γ : Ctx} {p : Pos} {t : Sem PySem.Fin} {fs : List Frame} {s s' : Shared} {e : End} (h : Runs M Γ p t fs s e s') : hz s ≤ hz s' := by
  induction h <;> (try simp only [hz, Shared.setGen, Heap.size_push, Heap.size_update] at *) <;> omega
theorem wakes_hz {M : Model} {Γ : Ctx} {p : Pos} {g : Nat} {r : Resume} {s s' : Shared} {x : GenResult} (h : Wakes M Γ p g r s x s') : hz s ≤ hz s' := by
  unfold Wakes at h
  split at h
  · exact h.elim
  · split at h
    · obtain ⟨e, s1, q, _, _, rfl⟩ := h; exact (runs_hz q : hz (s.setGen g .running) ≤ hz s1)
    · rw [h.2]; exact Nat.le_refl _
    · rw [h.2]; exact Nat.le_refl _
  · obtain ⟨e, s1, q, _, _, rfl⟩ := h; exact (runs_hz q : hz (s.setGen g .running) ≤ hz s1)
  · rw [h.2]; exact Nat.le_refl _
  · rw [h.2]; exact Nat.le_refl _
theorem wp_hz {α : Type} (M : Model) (Γ : Ctx) (m : Nat) (t : Sem α) : ∀ (Q : α → Pos → Shared → Prop) (E : Value → Pos → Shared → Prop) (p : Pos) (s : Shared), m ≤ hz s → Sem.wp M Γ t Q E p s →
    Sem.wp M Γ t (fun a q z => m ≤ hz z ∧ Q a q z) (fun e q z => m ≤ hz z ∧ E e q z) p s := by
  induction t with
  | pure a => exact fun Q E p s n h => ⟨n, h⟩
  | raise e => exact fun Q E p s n h => ⟨n, h⟩
  | unsupported _ => exact fun Q E p s _ h => h
  | finish _ => exact fun Q E p s _ h => h
  | rule _ k f => exact fun Q E p s n h => f () Q E p s n h
  | «at» r k f => exact fun Q E p s n h => f () Q E r s n h
  | load a _ k f => exact fun Q E p s n ⟨o, ho, h⟩ => ⟨o, ho, f o Q E p s n h⟩
  | update a _ g k f => exact fun Q E p s n h => ⟨h.1, f () Q E p _ (by rw [hz, Heap.size_update]; exact n) h.2⟩
  | loadIfAlive a k f => exact fun Q E p s n h => f _ Q E p s n h
  | point _ k f => exact fun Q E p s n h => f () Q E p s n h
  | register _ _ => exact fun Q E p s _ h => h
  | alloc o k f => exact fun Q E p s n h => f _ Q E p _ (by rw [hz, Heap.size_push]; exact Nat.le_succ_of_le n) h
  | fresh k f => exact fun Q E p s n h => f _ Q E p _ n h
  | ask k f => exact fun Q E p s n h => f _ Q E p s n h
  | choose src _ k f => exact fun Q E p s n h => ⟨h.1, f _ Q E p _ n h.2⟩
  | os q _ k f => exact fun Q E p s n h => f _ Q E p _ n h
  | call c _ _ _ k f => exact fun Q E p s n ⟨r, z, b, h⟩ => ⟨r, z, b, f r Q E p z (Nat.le_trans n (runs_hz b)) h⟩
  | handled own k f => exact fun Q E p s n h => f _ Q E p s n h
  | genState g k f => exact fun Q E p s n ⟨st, b, h⟩ => ⟨st, b, f _ Q E p s n h⟩
  | newGen c k f => exact fun Q E p s n h => f _ Q E p _ n h
  | resume g r _ k f => exact fun Q E p s n ⟨x, z, b, h⟩ => ⟨x, z, b, f x Q E p z (Nat.le_trans n (wakes_hz b)) h⟩
  | yield _ _ _ _ => exact fun Q E p s _ h => h
  | stack k f => exact fun Q E p s n h => f _ Q E p s n h
  | fork _ _ => exact fun Q E p s _ h => h
  | thread k f => exact fun Q E p s n h => f _ Q E p s n h
  | await _ _ _ _ _ => exact fun Q E p s _ h => h
theorem with_hz {α : Type} {M : Model} {A : Around} {s : Shared} {t : Sem α} {Q : α → Shared → Prop} {E : Value → Shared → Prop} (h : wpAny M A t (fun a z => hz s ≤ hz z → Q a z) (fun e z => hz s ≤ hz z → E e z) s) : wpAny M A t Q E s :=
  fun Γ p g => Sem.wp_mono M Γ t (fun _ _ _ x => x.2 x.1) (fun _ _ _ x => x.2 x.1) p s (wp_hz M Γ (hz s) t _ _ p s (Nat.le_refl _) (h Γ p g))
end D

/-! A generator's run on the second machine, piece by piece. -/
namespace D
open PySem PyProof.Rows
open Sem (wp)
section
variable {P : Program} {w : World} {M : Model}
theorem runs_wrap_soft {α : Type} {Γ : Ctx} {fs : List Frame} {Φ : End → Shared → Prop} {x : Option Addr} (K : α → Sem PySem.Fin) (H : Value → Sem PySem.Fin) (gd lv) (m : Sem α) :
    ∀ {Q : α → Pos → Shared → Prop} {E : Value → Pos → Shared → Prop} {p : Pos} {s : Shared}, wp M (Γ.over fs) m Q E p s →
      (∀ a p' s', Q a p' s' → ∃ e s'', Runs M Γ p' (soft x (K a)) fs s' e s'' ∧ Φ e s'') →
      (∀ y p' s', E y p' s' → ∃ e s'', Runs M Γ p' (soft x (H y)) fs s' e s'' ∧ Φ e s'') →
      ∃ e s'', Runs M Γ p (soft x (m.wrap K H gd lv)) fs s e s'' ∧ Φ e s'' := by
  induction m with
  | pure a => intro Q E p s h hQ _; exact hQ a p s h
  | raise x => intro Q E p s h _ hE; exact hE x p s h
  | unsupported what => intro Q E p s h; exact h.elim
  | finish x => intro Q E p s h; exact h.elim
  | register a k => intro Q E p s h; exact h.elim
  | yield v g l k => intro Q E p s h; exact h.elim
  | fork c k => intro Q E p s h; exact h.elim
  | await a f d l k => intro Q E p s h; exact h.elim
  | rule tag k ih => intro Q E p s h hQ hE; obtain ⟨e, s'', hr, z⟩ := ih () h hQ hE; exact ⟨e, s'', Runs.head' (fun _ _ q => .rule q) hr, z⟩
  | «at» p' k ih => intro Q E p s h hQ hE; obtain ⟨e, s'', hr, z⟩ := ih () h hQ hE; exact ⟨e, s'', Runs.head' (fun _ _ q => .at q) hr, z⟩
  | load a part k ih =>
    intro Q E p s h hQ hE; obtain ⟨o, ho, h⟩ := h
    obtain ⟨e, s'', hr, z⟩ := ih o h hQ hE; exact ⟨e, s'', Runs.head' (fun _ _ q => .load ho q) hr, z⟩
  | update a part f k ih =>
    intro Q E p s h hQ hE; obtain ⟨ha, h⟩ := h
    obtain ⟨e, s'', hr, z⟩ := ih () h hQ hE; exact ⟨e, s'', Runs.head' (fun _ _ q => .update ha q) hr, z⟩
  | alloc o k ih => intro Q E p s h hQ hE; obtain ⟨e, s'', hr, z⟩ := ih _ h hQ hE; exact ⟨e, s'', Runs.head' (fun _ _ q => .alloc q) hr, z⟩
  | loadIfAlive a k ih => intro Q E p s h hQ hE; obtain ⟨e, s'', hr, z⟩ := ih _ h hQ hE; exact ⟨e, s'', Runs.head' (fun _ _ q => .loadIfAlive q) hr, z⟩
  | point l k ih => intro Q E p s h hQ hE; obtain ⟨e, s'', hr, z⟩ := ih () h hQ hE; exact ⟨e, s'', Runs.head' (fun _ _ q => .point q) hr, z⟩
  | fresh k ih => intro Q E p s h hQ hE; obtain ⟨e, s'', hr, z⟩ := ih _ h hQ hE; exact ⟨e, s'', Runs.head' (fun _ _ q => .fresh q) hr, z⟩
  | ask k ih => intro Q E p s h hQ hE; obtain ⟨e, s'', hr, z⟩ := ih _ h hQ hE; exact ⟨e, s'', Runs.head' (fun _ _ q => .ask q) hr, z⟩
  | choose src n k ih =>
    intro Q E p s h hQ hE; obtain ⟨hn, h⟩ := h
    obtain ⟨e, s'', hr, z⟩ := ih _ h hQ hE; exact ⟨e, s'', Runs.head' (fun _ _ q => .choose hn q) hr, z⟩
  | os q l k ih => intro Q E p s h hQ hE; obtain ⟨e, s'', hr, z⟩ := ih _ h hQ hE; exact ⟨e, s'', Runs.head' (fun _ _ q => .os q) hr, z⟩
  | call c h g l k ih =>
    intro Q E p s hw hQ hE; obtain ⟨r, s₁, hret, hw⟩ := hw
    obtain ⟨e, s'', hr, z⟩ := ih r hw hQ hE; exact ⟨e, s'', Runs.head' (fun _ _ q => .call hret q) hr, z⟩
  | handled own k ih => intro Q E p s h hQ hE; obtain ⟨e, s'', hr, z⟩ := ih _ h hQ hE; exact ⟨e, s'', Runs.head' (fun _ _ q => .handled q) hr, z⟩
  | newGen c k ih => intro Q E p s h hQ hE; obtain ⟨e, s'', hr, z⟩ := ih _ h hQ hE; exact ⟨e, s'', Runs.head' (fun _ _ q => .newGen q) hr, z⟩
  | genState g k ih =>
    intro Q E p s h hQ hE; obtain ⟨st, hg, h⟩ := h
    obtain ⟨e, s'', hr, z⟩ := ih _ h hQ hE; exact ⟨e, s'', Runs.head' (fun _ _ q => .genState hg q) hr, z⟩
  | resume g r l k ih =>
    intro Q E p s h hQ hE; obtain ⟨res, s₁, hwk, h⟩ := h
    obtain ⟨e, s'', hr, z⟩ := ih res h hQ hE
    exact ⟨e, s'', Runs.head' (fun _ _ q => (Sem.runs_resume_iff M _).mpr ⟨res, s₁, hwk, q⟩) hr, z⟩
  | stack k ih => intro Q E p s h hQ hE; obtain ⟨e, s'', hr, z⟩ := ih _ h hQ hE; exact ⟨e, s'', Runs.head' (fun _ _ q => .stack q) hr, z⟩
  | thread k ih => intro Q E p s h hQ hE; obtain ⟨e, s'', hr, z⟩ := ih _ h hQ hE; exact ⟨e, s'', Runs.head' (fun _ _ q => .thread q) hr, z⟩
/-- a piece of a generator's run: up to its next yield or its end -/
def Sg (P : Program) (w : World) (A : Around) (c : Code) (t : Sem PySem.Fin) (fs : List Frame) (s : Shared) (Φ : End → Shared → Prop) : Prop :=
  ∀ Γ p, Γ.code = c → Γ.Woken A → ∃ e s', Runs (model2 P w) Γ p (soft (yf c) t) (fs.map sF) s e s' ∧ Φ e s'
variable {A : Around} {c : Code} {fs : List Frame} {s : Shared} {Φ : End → Shared → Prop}
theorem aover_map (A : Around) (c : Code) (fs : List Frame) : A.over c (fs.map sF) = A.over c fs := by
  unfold Around.over
  rw [where_map, marks_map]
theorem sg_wrap {α : Type} {m : Sem α} {K : α → Sem PySem.Fin} {H : Value → Sem PySem.Fin} {gd lv}
    (h : wpAny (model2 P w) (A.over c fs) m (fun a s' => Sg P w A c (K a) fs s' Φ) (fun x s' => Sg P w A c (H x) fs s' Φ) s) : Sg P w A c (m.wrap K H gd lv) fs s Φ := by
  rintro Γ p rfl hΓ
  refine runs_wrap_soft K H gd lv m (h (Γ.over (fs.map sF)) p ?_) (fun a p' s' h' => h' Γ p' rfl hΓ) (fun x p' s' h' => h' Γ p' rfl hΓ)
  have := hΓ.over (fs.map sF)
  rw [aover_map] at this
  exact this
theorem sg_bind {α : Type} {m : Sem α} {K : α → Sem PySem.Fin}
    (h : wpAny (model2 P w) (A.over c fs) m (fun a s' => Sg P w A c (K a) fs s' Φ) (fun x s' => Sg P w A c (.raise x) fs s' Φ) s) : Sg P w A c (m >>= K) fs s Φ := by
  rw [Sem.bind_eq_wrap']; exact sg_wrap h
theorem sg_bind_wrap {α β : Type} {m : Sem α} {f : α → Sem β} {K : β → Sem PySem.Fin} {H : Value → Sem PySem.Fin} {gd lv}
    (h : wpAny (model2 P w) (A.over c fs) m (fun a s' => Sg P w A c ((f a).wrap K H gd lv) fs s' Φ) (fun x s' => Sg P w A c (H x) fs s' Φ) s) : Sg P w A c ((m >>= f).wrap K H gd lv) fs s Φ := by
  rw [Sem.bind_eq_wrap', Sem.wrap_wrap]
  exact sg_wrap h
theorem sg_at {p' : Pos} {k : Unit → Sem PySem.Fin} (h : Sg P w A c (k ()) fs s Φ) : Sg P w A c (.at p' k) fs s Φ :=
  sg_wrap (m := standAt p') (K := k) (H := .raise) (gd := id) (lv := id) (wpAny_standAt h)
theorem sg_point {l : List Value} {k : Unit → Sem PySem.Fin} (h : Sg P w A c (k ()) fs s Φ) : Sg P w A c (.point l k) fs s Φ :=
  sg_wrap (m := point) (K := k) (H := .raise) (gd := id) (lv := fun _ => l) (wpAny_point h)
theorem sg_call {c' : Code} {h g l} {k : Result → Sem PySem.Fin} (hc : ∀ p, Sg P w A c' (denote table c') (.ret k h g l c p [] :: fs) s Φ) : Sg P w A c (.call c' h g l k) fs s Φ := by
  rintro Γ p rfl hΓ
  obtain ⟨e, s', hr, he⟩ := hc p (Γ.goto c') p rfl (hΓ.goto c')
  exact ⟨e, s', runs_call_seg hr, he⟩
theorem soft_leaf {x : Option Addr} (r : Result) : soft x (leafOf r) = leafOf r := by cases r <;> rfl
theorem sg_leaf {k h g l c₁ p₁ kp} (r : Result) (hk : Sg P w A c₁ (k r) fs s Φ) : Sg P w A c (leafOf r) (.ret k h g l c₁ p₁ kp :: fs) s Φ := by
  rintro Γ p rfl hΓ
  obtain ⟨e, s', hr, he⟩ := hk (Γ.goto c₁) p₁ rfl (hΓ.goto c₁)
  refine ⟨e, s', ?_, he⟩
  rw [soft_leaf]
  exact Runs.pop r hr
theorem sg_again {c' : Code} (hq : c'.quiet = true) (hc : Sg P w A c' (denote table c') fs s Φ) : Sg P w A c (.pure (.again c')) fs s Φ := by
  rintro Γ p rfl hΓ
  obtain ⟨e, s', hr, he⟩ := hc (Γ.goto c') p rfl (hΓ.goto c')
  exact ⟨e, s', Runs.head (c₁ := c') (fun _ _ x => .again hq x) hr, he⟩
theorem sg_end (r : Result) (h : Φ (.ret r) s) : Sg P w A c (leafOf r) [] s Φ := by
  rintro Γ p rfl _
  refine ⟨.ret r, s, ?_, h⟩
  rw [soft_leaf]
  exact Runs.leaf r
/-- how a sleeper stands -/
def Asleep (c : Code) (k : Resume → Sem PySem.Fin) (fs : List Frame) (l : List Value) (p : Pos) : GenState := .suspended (fun u => soft (yf c) (k u)) l c p (fs.map sF) false
theorem split_map_none {fs : List Frame} (h : splitAtGen fs = none) : splitAtGen (fs.map sF) = none := by
  rw [split_map, h]; rfl
theorem sg_yield {v : Value} {l : List Value} {k : Resume → Sem PySem.Fin} (hfs : splitAtGen fs = none) (hfg : fs.any Frame.guarded = false)
    (h : ∀ e p, e.quiet = true → e.result = .yielded v → e.genState = Asleep c k fs [] p → Φ e s) : Sg P w A c (.yield v false l k) fs s Φ := by
  rintro Γ p rfl _
  refine ⟨_, s, Runs.yield' (fs.map sF) (split_map_none hfs), h _ p ?_ rfl ?_⟩
  · show (!(false || (fs.map sF).any Frame.guarded)) = true
    rw [guard_map, hfg]; rfl
  · show GenState.suspended _ _ _ _ _ (false || (fs.map sF).any Frame.guarded) = _
    rw [guard_map, hfg]; rfl
/-- .. over a generator -/
theorem sg_yieldG {v : Value} {l : List Value} {k : Resume → Sem PySem.Fin} {a : Addr} (hc : yf c = some a) (hg : isG (s.heap.get? a) = true) (hfs : splitAtGen fs = none) (hfg : fs.any Frame.guarded = false)
    (h : ∀ e p, e.quiet = true → e.result = .yielded v → e.genState = Asleep c k fs [.none] p → Φ e s) : Sg P w A c (.yield v true l k) fs s Φ := by
  rintro Γ p rfl _
  refine ⟨.susp v false [.none] (fun u => soft (yf Γ.code) (k u)) Γ.code p (fs.map sF), s, ?_, h _ p ?_ rfl ?_⟩
  · show Runs _ Γ p (softY (yf Γ.code) v true fun u => soft (yf Γ.code) (k u)) _ _ _ _
    rw [hc]
    show Runs _ Γ p (.loadIfAlive a fun o => if isG o = true then .yield v false [.none] _ else .yield v true [] _) _ _ _ _
    refine Runs.head' (fun _ _ q => .loadIfAlive q) ?_
    rw [if_pos hg]
    exact Runs.yield' (fs.map sF) (split_map_none hfs)
  · show (!(false || (fs.map sF).any Frame.guarded)) = true
    rw [guard_map, hfg]; rfl
  · show GenState.suspended _ _ _ _ _ (false || (fs.map sF).any Frame.guarded) = _
    rw [guard_map, hfg]; rfl
/-- woken -/
def Woke (P : Program) (w : World) (A : Around) (z : GenState) (s : Shared) (Φ : End → Shared → Prop) : Prop :=
  (∃ c, z = .fresh c ∧ Sg P w A c (denote table c) [] s Φ) ∨ ∃ c k fs l p, z = Asleep c k fs l p ∧ Sg P w A c (k (.send .none)) fs s Φ
theorem resume2 {α : Type} {g : Nat} {z : GenState} {l : List Value} {k : GenResult → Sem α} {Q : α → Shared → Prop} {E : Value → Shared → Prop} (hg : s.gens[g]? = some z)
    (h : Woke P w A z (s.setGen g .running) fun e s1 => e.quiet = true ∧ wpAny (model2 P w) A (k e.result) Q E (s1.setGen g e.genState)) : wpAny (model2 P w) A (.resume g (.send .none) l k) Q E s := by
  intro Γ p hΓ
  rw [Sem.wp_resume]
  rcases h with ⟨c, rfl, hs⟩ | ⟨c, k0, fs, l0, p0, rfl, hs⟩
  · obtain ⟨e, s1, hr, hq, hk⟩ := hs (Γ.wake c p) p rfl (hΓ.wake c p)
    exact ⟨_, _, by unfold Wakes; rw [hg]; exact ⟨e, s1, hr, hq, rfl, rfl⟩, hk Γ p hΓ⟩
  · obtain ⟨e, s1, hr, hq, hk⟩ := hs (Γ.wake c p) p0 rfl (hΓ.wake c p)
    exact ⟨_, _, by unfold Wakes; rw [hg]; exact ⟨e, s1, hr, hq, rfl, rfl⟩, hk Γ p hΓ⟩
theorem Woke.mono {z : GenState} {Ψ : End → Shared → Prop} (h : Woke P w A z s Φ) (f : ∀ e s, Φ e s → Ψ e s) : Woke P w A z s Ψ :=
  h.imp (fun ⟨c, e, q⟩ => ⟨c, e, fun Γ p a b => let ⟨e, s', r, z⟩ := q Γ p a b; ⟨e, s', r, f _ _ z⟩⟩) fun ⟨c, k, fs, l, p, e, q⟩ => ⟨c, k, fs, l, p, e, fun Γ p a b => let ⟨e, s', r, z⟩ := q Γ p a b; ⟨e, s', r, f _ _ z⟩⟩
theorem Sg.mono {t : Sem PySem.Fin} {Ψ : End → Shared → Prop} (h : Sg P w A c t fs s Φ) (f : ∀ e s, Φ e s → Ψ e s) : Sg P w A c t fs s Ψ :=
  fun Γ p a b => let ⟨e, s', r, z⟩ := h Γ p a b; ⟨e, s', r, f _ _ z⟩
/-- a tree of the first machine that leaves the generators as they are -/
theorem exactly {α : Type} {t : Sem α} {Q : α → Shared → Prop} {E : Value → Shared → Prop} (h : wpAny (model P w) A t (fun a s' => (∃ h' tk, s' = { deadS s with heap := h', toks := tk } ∧ Q a { s with heap := h', toks := tk })) (fun e s' => (∃ h' tk, s' = { deadS s with heap := h', toks := tk } ∧ E e { s with heap := h', toks := tk })) (deadS s)) :
    wpAny (model2 P w) A t Q E s := by
  have key : ∀ h' tk s2, RelS s.gens { deadS s with heap := h', toks := tk } s2 → s2 = { s with heap := h', toks := tk } := fun h' tk s2 R => by
    have R2 : RelS s.gens (deadS s) { s2 with heap := s.heap, toks := s.toks } := ⟨rfl, R.drawn, rfl, R.os, R.size, R.le, R.old, R.new, R.nog⟩
    have e := relS_eq R2
    obtain ⟨h2, g2, d2, t2, o2⟩ := s2
    obtain ⟨h, g, d, t, o⟩ := s
    obtain rfl : h2 = h' := R.heap
    obtain rfl : t2 = tk := R.toks
    injection e with _ e1 e2 _ e3
    subst e1 e2 e3
    rfl
  exact fun Γ p hΓ => Sem.wp_mono _ Γ t (fun a p' s' ⟨s1, R, h', tk, e, q⟩ => by subst e; rw [key _ _ _ R]; exact q) (fun a p' s' ⟨s1, R, h', tk, e, q⟩ => by subst e; rw [key _ _ _ R]; exact q) p s (wp_soft t _ _ p _ _ (relS_dead s) (h Γ p hΓ))
end
end D

/-! Next of a generator, and yield from over one, on the second machine. -/
namespace PySem
theorem slot_gen_close : Slot "generator" "close" "generator.close" :=
  .of (owner := "generator") (n := "close") (by rw [typeLookup_type, builtinLookup_eq_fast]; kernel_rfl) (by decide +kernel) (by decide +kernel) (by decide +kernel)
    (by first | exact .inl (by decide +kernel) | exact .inr (by decide +kernel)) (by rw [isSubtype_type]; kernel_rfl)
end PySem
namespace D
open PySem PyProof.Rows
open Sem (wp)
section
variable {P : Program} {w : World} {A : Around} {E : Value → Shared → Prop} {s : Shared}
theorem call_entry2 {T : String} {name : Str} {id : String} {b : Builtin} {self : Value} {rest : List Value} {Q : Value → Shared → Prop} (h : Slot T name id) (hT : s.TypeIs self T)
    (hb : entryFor table id = some b) (hc : wpAny (model2 P w) A.in1 (b ⟨self :: rest, []⟩) (fun fin s' => ∃ v, fin = .done (.ret v) ∧ Q v s') E s) (ha : argsOk id ⟨self :: rest, []⟩) :
    wpAny (model2 P w) A (call (.builtin id) (self :: rest)) Q E s := by
  refine wpAny_call (codeAny2 ?_)
  show wpAny _ A.in1 (do checkBuiltinCall id ⟨self :: rest, []⟩; again (.builtin id ⟨self :: rest, []⟩)) _ _ s
  refine wpAny_bind (h.check _ _ _ _ _ _ _ _ hT ha (wpAny_pure (And.intro (plainId_quiet h.plain _) (codeAny2 ?_))))
  show wpAny _ _ (match entryFor table id with | some b => b ⟨self :: rest, []⟩ | none => unsupported ((withoutEnding? id "#data").getD id)) _ _ s
  rw [hb, Around.under_plainId h.plain]
  exact wpAny_mono hc (fun fin s' ⟨v, e, q⟩ => by subst e; exact q) fun _ _ z => z
/-- a generator's object; n: who sleeps over it -/
structure GObj (o : Obj) (g : Nat) (n : Int) : Prop where
  cls : o.cls = .type "generator"
  data : ∃ nm qn, o.data = .fields #[.int g 0, nm, qn]
  slots : (o.slots = #[] ∧ n = 0) ∨ o.slots = #[some (rawInt n)]
theorem gobj_ty {a : Addr} {o : Obj} {g : Nat} {n : Int} (ho : s.heap.get? a = some o) (h : GObj o g n) : s.TypeIs (.ref a) "generator" := ⟨o, ho, h.cls⟩
theorem genNumber2 {M : Model} {a : Addr} {o : Obj} {g : Nat} {Q : Nat → Shared → Prop} (ho : s.heap.get? a = some o) (h : GObj o g 0) (hQ : Q g s) : wpAny M A (Builtin.Generator.genNumber (.ref a)) Q E s := by
  obtain ⟨hc, ⟨nm, qn, hd⟩, hs⟩ := h
  unfold Builtin.Generator.genNumber
  refine wpAny_bind (wpAny_load ho ?_)
  rcases hs with ⟨hs, _⟩ | hs
  · rw [hs, hd]
    show wpAny M A (pure ((g : Int).toNat)) Q E s
    rw [Int.toNat_natCast]; exact wpAny_pure hQ
  · rw [hs, hd]
    show wpAny M A (pure ((g : Int).toNat)) Q E s
    rw [Int.toNat_natCast]; exact wpAny_pure hQ
/-- next of a generator -/
theorem next2 {a : Addr} {g : Nat} {z : GenState} {o : Obj} {Q : Option Value → Shared → Prop} (ho : s.heap.get? a = some o) (hO : GObj o g 0) (hl : s.heap.NoLimit) (hroom : A.depth < recursionLimit) (hh : A.handled = none) (hz : s.gens[g]? = some z)
    (h : Woke P w A.in1 z (s.setGen g .running) fun e s1 => e.quiet = true ∧ match e.result with
      | .yielded v => Q (some v) (s1.setGen g e.genState)
      | .returned .none => ∀ h' e', L2.StopX e' h' → (∀ b o, s1.heap.get? b = some o → h'.get? b = some o) → s1.heap.objs.size ≤ h'.objs.size → E e' { s1.setGen g e.genState with heap := h' }
      | _ => False) : wpAny (model2 P w) A (callSpecial? (.ref a) "__next__") Q E s := by
  refine wpAny_callSpecial?_slot (name := Str.ofString "__next__") (gobj_ty ho hO) slot_gen_next (call_entry2 slot_gen_next (gobj_ty ho hO) entry_gen_next ?_ (args_gen_next _))
  show wpAny _ A.in1 (Builtin.Generator.genWake (.ref a) (.send .none)) _ _ s
  unfold Builtin.Generator.genWake
  refine wpAny_bind (wpAny_holding (genNumber2 ho hO (wpAny_bind (wpAny_genState hz ?_))))
  have fin : wpAny (model2 P w) A.in1 (.resume g (.send .none) [] fun x => Sem.bind (.pure x) fun res => match res with
      | .yielded v => ret v
      | .returned v => (do
        if v == .none then raiseNew (← newExc (.type "StopIteration") [])
        rule "generator.return-value"; throw (← newExc (.type "StopIteration") [v]) : Sem PySem.Fin)
      | .raised e => Builtin.Generator.genLeft (.ref a) e
      | .running => (do rule "generator.already-executing"; raiseError "ValueError" "generator already executing")
      | .justStarted => (do rule "generator.send-to-fresh"; raiseError "TypeError" "can't send non-None value to a just-started generator")
      | .finished => (do raiseNew (← newExc (.type "StopIteration") []))) (fun fin s' => ∃ v, fin = .done (.ret v) ∧ Q (some v) s') E s := by
    refine resume2 hz (h.mono fun e s1 ⟨hq, h1⟩ => ⟨hq, ?_⟩)
    show wpAny _ _ (match e.result with | .yielded v => _ | .returned v => _ | .raised e => _ | .running => _ | .justStarted => _ | .finished => _) _ _ _
    cases er : e.result with
    | yielded v =>
      rw [er] at h1
      exact wpAny_pure ⟨v, rfl, h1⟩
    | returned v =>
      rw [er] at h1
      cases v with
      | none =>
        show wpAny _ A.in1 (newExc (.type "StopIteration") [] >>= _) _ _ _
        refine wpAny_bind ?_
        simp only [newExc, newTuple]
        refine wpAny_bind (wpAny_newObj_type ?_ (by size_fits))
        refine wpAny_bind (m := firstArgMember _ _) (wpAny_of_eq (a := Value.none) (by first | rfl | (simp only [firstArgMember]; rfl)) ?_)
        refine wpAny_newObj_type ?_ (by size_fits)
        simp only [raiseNew]
        refine wpAny_bind (wpAny_bind (wpAny_handled ?_))
        first | rw [show A.in1.handled = none from hh] | rw [hh]
        refine wpAny_throw ?_
        refine h1 _ _ ⟨_, _, _, rfl, Heap.get?_push_size _ rfl, rfl, rfl, rfl⟩ (fun b o hb => Heap.get?_push_of_some _ (Heap.get?_push_of_some _ hb)) (by rw [Heap.size_push, Heap.size_push]; exact Nat.le_trans (Nat.le_succ _) (Nat.le_succ _))
      | _ => exact h1.elim
    | raised e => rw [er] at h1; exact h1.elim
    | running => rw [er] at h1; exact h1.elim
    | justStarted => rw [er] at h1; exact h1.elim
    | finished => rw [er] at h1; exact h1.elim
  have room : ∀ {t : Sem PySem.Fin} {Q' : PySem.Fin → Shared → Prop}, wpAny (model2 P w) A.in1 t Q' E s → wpAny (model2 P w) A.in1 (roomToWake >>= fun _ => t) Q' E s := fun q => wpAny_bind (wpAny_roomToWake hl hroom q)
  rcases h with ⟨c, rfl, _⟩ | ⟨c, k, fs, l, p, rfl, _⟩
  · exact room fin
  · exact room fin
end
end D

/-! Yield from over a generator: one turn. -/
namespace D
open PySem PyProof.Rows L2
open Sem (wp)
section
variable {P : Program} {w : World} {A : Around} {E : Value → Shared → Prop} {s : Shared} {Φ : End → Shared → Prop}
def yfc (a : Addr) : Code := .builtin "proto.yield_from" ⟨[.ref a, .bool false, .none], []⟩
theorem yf_yfc (a : Addr) : yf (yfc a) = some a := rfl
def slotF (n : Int) (o : Obj) : Obj := { o with slots := (o.slots ++ Array.replicate (0 + 1 - o.slots.size) none).setIfInBounds 0 (some (rawInt n)) }
theorem slotF_obj {o : Obj} {g : Nat} {n m : Int} (h : GObj o g n) : GObj (slotF m o) g m := by
  refine ⟨h.cls, h.data, .inr ?_⟩
  rcases h.slots with ⟨q, _⟩ | q
  · show (o.slots ++ _).setIfInBounds 0 _ = _
    rw [q]; rfl
  · show (o.slots ++ _).setIfInBounds 0 _ = _
    rw [q]; rfl
theorem slotF_isFreed {o : Obj} {g : Nat} {n m : Int} (h : GObj o g n) : (slotF m o).isFreed = false := by
  obtain ⟨_, ⟨nm, qn, hd⟩, _⟩ := h
  obtain ⟨c, d, dt, sl⟩ := o
  obtain rfl : dt = _ := hd
  rfl
theorem setSlot0 {M : Model} {a : Addr} {o : Obj} {n : Int} {Q : Unit → Shared → Prop} (ho : s.heap.get? a = some o) (h : Q () { s with heap := s.heap.update a (slotF n) }) : wpAny M A (setSlotAt a 0 (some (rawInt n))) Q E s := by
  unfold setSlotAt
  have hz : ¬ (0 ≥ sizeLine) := by rw [sizeLine_eq]; omega
  dsimp only
  rw [if_neg hz]
  exact wpAny_updatePart ho h
theorem slept2 {M : Model} {a : Addr} {o : Obj} {g : Nat} {n : Int} {b : Bool} {Q : Unit → Shared → Prop} (ho : s.heap.get? a = some o) (hO : GObj o g n) (h : Q () { s with heap := s.heap.update a (slotF (if b then n + 1 else n - 1)) }) : wpAny M A (Builtin.Generator.sleptOver (.ref a) b) Q E s := by
  unfold Builtin.Generator.sleptOver
  refine wpAny_bind (wpAny_load ho ?_)
  rw [hO.cls]
  show wpAny _ _ (if (Value.type "generator" != Value.type "generator") = true then _ else _) _ _ _
  rw [if_neg (by decide)]
  rcases hO.slots with ⟨q, rfl⟩ | q
  · rw [q]
    exact setSlot0 ho h
  · rw [q]
    exact setSlot0 ho h
theorem den_yfc (X : Cx) (a : Addr) : denote table (yfc a) = Builtin.«proto.yield_from» ⟨[.ref a, .bool false, .none], []⟩ := den_yf (X := X) (it := .ref a)
/-- what a sleeper's waking does -/
def KY (P : Program) (w : World) (a : Addr) (k : Resume → Sem PySem.Fin) (fs : List Frame) : Prop := ∀ (A : Around) (s : Shared) (o : Obj) (g : Nat) (Φ : End → Shared → Prop), s.heap.get? a = some o → GObj o g 1 →
  Sg P w A (yfc a) (denote table (yfc a)) fs { s with heap := s.heap.update a (slotF 0) } Φ → Sg P w A (yfc a) (k (.send .none)) fs s Φ
theorem isG_of {h : Heap} {a : Addr} {o : Obj} {g : Nat} {n : Int} (ho : h.get? a = some o) (hO : GObj o g n) : isG (h.get? a) = true := by
  rw [ho]
  obtain ⟨hc, ⟨nm, qn, hd⟩, _⟩ := hO
  obtain ⟨c, d, dt, sl⟩ := o
  obtain rfl : c = _ := hc
  obtain rfl : dt = _ := hd
  rfl
/-- one turn -/
theorem sg_yfTurn (X : Cx) {a : Addr} {fs : List Frame} (hsp : splitAtGen fs = none) (hgd : fs.any Frame.guarded = false)
    (h : wpAny (model2 P w) (A.over (yfc a) fs) (callSpecial? (.ref a) "__next__")
      (fun r s1 => ∃ v o g, r = some v ∧ s1.heap.get? a = some o ∧ GObj o g 0 ∧ ∀ e p k, e.quiet = true → e.result = .yielded v → e.genState = Asleep (yfc a) k fs [.none] p → KY P w a k fs → Φ e { s1 with heap := s1.heap.update a (slotF 1) })
      (fun e s1 => StopX e s1.heap ∧ Sg P w A (yfc a) (leafOf (.ok (.ret .none))) fs s1 Φ) s) : Sg P w A (yfc a) (denote table (yfc a)) fs s Φ := by
  rw [den_yfc X]
  unfold Builtin.«proto.yield_from»
  try dsimp only
  refine sg_bind (wpAny_pure ?_)
  try dsimp only
  refine sg_bind (wpAny_attempt (wpAny_holding ?_))
  rw [if_neg Bool.false_ne_true, if_pos (show (Value.none == Value.none) = true from rfl)]
  refine wpAny_bind (wpAny_rule (wpAny_bind (wpAny_mono h (fun r s1 hr => ?_) fun e s1 he => ?_)))
  · obtain ⟨v, o, g, rfl, ho, hO, hΦ⟩ := hr
    refine wpAny_pure ?_
    try dsimp only
    refine sg_bind (wpAny_typeOf (gobj_ty ho hO) ?_)
    try dsimp only
    first
      | (refine sg_bind (wpAny_of_eq slot_gen_close.lookup ?_); refine sg_bind (wpAny_pure ?_))
      | refine sg_bind (wpAny_bind (wpAny_of_eq slot_gen_close.lookup (wpAny_pure ?_)))
      | refine sg_bind (wpAny_of_eq slot_gen_close.lookup ?_)
    try dsimp only
    refine sg_bind (slept2 ho hO ?_)
    have g1 : ({ s1 with heap := s1.heap.update a (slotF 1) } : Shared).heap.get? a = some (slotF 1 o) := Heap.get?_update_self _ ho (slotF_isFreed hO)
    refine sg_yieldG (yf_yfc a) (isG_of g1 (slotF_obj hO)) hsp hgd fun e p q1 q2 q3 => hΦ e p _ q1 q2 q3 ?_
    intro A' s' o' g' Φ' ho' hO' hs
    show Sg P w A' (yfc a) (Builtin.Generator.sleptOver (.ref a) false >>= fun _ => _) fs s' Φ'
    refine sg_bind (slept2 ho' hO' ?_)
    try dsimp only
    refine sg_bind (wpAny_pure ?_)
    exact sg_again (plainId_quiet plain_yf _) hs
  · obtain ⟨⟨b, o, vs, rfl, hob, hcls, hdat, h5⟩, hs⟩ := he
    try dsimp only
    refine sg_bind (wpAny_endsTurn hob hcls ?_)
    try dsimp only
    rw [if_pos rfl]
    first
      | refine sg_bind (wpAny_rule ?_)
      | (rw [if_neg Bool.false_ne_true]; refine sg_bind (wpAny_rule ?_))
      | (rw [if_neg Bool.false_ne_true]; refine sg_bind (wpAny_pure ?_); refine sg_bind (wpAny_rule ?_))
    refine sg_bind (wpAny_field hob hdat h5 ?_)
    exact hs
end
end D

/-! The pieces of `parts`, as they stand. -/
namespace D
open PySem PyProof.Rows L2
def pSc : Scope := { kind := .function, names := [("rule", .local), ("part", .local), ("isinstance", .globalImplicit), ("tuple", .globalImplicit), ("parts", .globalImplicit)], isGenerator := true, isCoroutine := false, more := [] }
abbrev pEnv (L fa : Addr) (cd : Value) : Env := envOfC "parts" pSc L fa cd
structure Gp (K : PySem.W.Frag) (mg : Str → Option Value) (base : Heap) (fa : Addr) (cd : Value) : Prop where
  mod : Mod K mg base
  p : mg "parts" = some (.ref fa)
  i : mg "isinstance" = none
  t : mg "tuple" = none
  kp : PySem.W.keepIn K (.ref fa) = true
  cd : PySem.W.codeIn K cd "parts" = true
section
variable {P : Program} {w : World} {K : PySem.W.Frag} {mg : Str → Option Value} {base : Heap} {fa L : Addr} {cd : Value} {A : Around} {E : Value → Shared → Prop} {s : Shared} {m : Str → Option Value} {p : Pos}
theorem ev_var {M : Model} {x : Str} {v : Value} {Q : Value → Shared → Prop} (hx : x = "rule" ∨ x = "part") (hn : s.heap.Ns L m) (hm : m x = some v) (h : Q v s) : wpAny M A (eval (.Name x p) (pEnv L fa cd)) Q E s := by
  rcases hx with rfl | rfl
  · exact wpAny_Name (wpAny_loadName_local rfl (by rfl) hn hm h) (by decide)
  · exact wpAny_Name (wpAny_loadName_local rfl (by rfl) hn hm h) (by decide)
theorem ev_parts {Q : Value → Shared → Prop} (g : Gp K mg base fa cd) (kb : ∀ b o, base.get? b = some o → s.heap.get? b = some o) (h : Q (.ref fa) s) : wpAny (model2 P w) A (eval (.Name "parts" p) (pEnv L fa cd)) Q E s :=
  Calls.Name_function_global rfl (by rfl) (Calls.loadGlobal_global (g.mod.glob.keeps kb) g.p h) (by decide)
theorem ev_blt {x : Str} {v : Value} {Q : Value → Shared → Prop} (hx : (x = "isinstance" ∧ v = .builtin "isinstance") ∨ (x = "tuple" ∧ v = .type "tuple")) (g : Gp K mg base fa cd) (kb : ∀ b o, base.get? b = some o → s.heap.get? b = some o) (h : Q v s) : wpAny (model2 P w) A (eval (.Name x p) (pEnv L fa cd)) Q E s := by
  obtain ⟨mb, h1, h2⟩ := g.mod.blt
  rcases hx with ⟨rfl, rfl⟩ | ⟨rfl, rfl⟩
  · exact Calls.Name_function_global rfl (by rfl) (Calls.loadGlobal_builtin (g.mod.glob.keeps kb) g.i (h1.keeps kb) ((h2 _ (by decide)).trans (by decide +kernel)) h) (by decide)
  · exact Calls.Name_function_global rfl (by rfl) (Calls.loadGlobal_builtin (g.mod.glob.keeps kb) g.t (h1.keeps kb) ((h2 _ (by decide)).trans (by decide +kernel)) h) (by decide)
/-- what `part` is: a text or a tuple -/
def PartOf (h : Heap) (v : Value) : Bool → Prop
  | true => ∃ a, v = .ref a ∧ ∃ o, h.get? a = some o ∧ o.cls = .type "tuple"
  | false => ∃ x t, v = .str x t
theorem ev_test {v : Value} {b : Bool} {p1 p2 p3 p4 : Pos} {Q : Bool → Shared → Prop} (g : Gp K mg base fa cd) (kb : ∀ b o, base.get? b = some o → s.heap.get? b = some o) (hn : s.heap.Ns L m) (hm : m "part" = some v) (hp : PartOf s.heap v b) (h : ∀ tk, Q b { s with toks := tk }) :
    wpAny (model2 P w) A (isTrue (.Call (.Name "isinstance" p1) [.Name "part" p2, .Name "tuple" p3] [] p4) (pEnv L fa cd) (eval (.Call (.Name "isinstance" p1) [.Name "part" p2, .Name "tuple" p3] [] p4) (pEnv L fa cd))) Q E s := by
  refine isTrue_plain (wpAny_Call_Name_kw (ev_blt (.inl ⟨rfl, rfl⟩) g kb (PyProof.Rows.callWith_builtin1 (Calls.spliced_cons (ev_var (.inr rfl) hn hm (Calls.spliced_cons (ev_blt (.inr ⟨rfl, rfl⟩) g kb (Calls.spliced_nil ?_)))) ) (by rfl) (by rfl))))
  have kin : K.In s.heap := g.mod.kin.keeps kb
  refine exactly (P := P) (w := w) ?_
  cases b with
  | true =>
    obtain ⟨a, rfl, ho⟩ := hp
    exact PySem.W.kia_one (K := K) (PySem.W.kitx_tuple (a := a)) (s := deadS s) kin ho (b := true) (by rfl) (fun z => nomatch z) fun tk => ⟨_, _, rfl, wpAny_truthy_bool (h tk)⟩
  | false =>
    obtain ⟨x, t, rfl⟩ := hp
    exact PySem.W.kia_one (K := K) (PySem.W.kitx_str (y := x) (u := t)) (s := deadS s) kin trivial (b := false) (by rfl) (fun z => nomatch z) fun tk => ⟨_, _, rfl, wpAny_truthy_bool (h tk)⟩
/-- rule[1:] -/
theorem ev_rest {a : Addr} {its : List Value} {p1 p2 p3 p4 : Pos} {j : Nat} {Q : Value → Shared → Prop} (hn : s.heap.Ns L m) (hm : m "rule" = some (.ref a)) (ht : IsTup s.heap a its.toArray) (hz : its.length ≤ sizeLine) (h0 : its ≠ [])
    (h : ∀ h' tk T, (∀ b o, s.heap.get? b = some o → h'.get? b = some o) → s.heap.objs.size ≤ T → s.heap.objs.size ≤ h'.objs.size → (∃ o, h'.get? T = some o ∧ o.cls = .type "tuple" ∧ ∃ n, o.data = .seq (its.drop 1).toArray n) → Q (.ref T) { s with heap := h', toks := tk }) :
    wpAny (model2 P w) A (eval (.Subscript (.Name "rule" p1) (.Slice (some (.Constant (.int 1) j p2)) none none p3) p4) (pEnv L fa cd)) Q E s := by
  refine exactly (P := P) (w := w) (Subscript_ (ev_var (.inl rfl) hn hm (wpAny_Slice ?_)))
  show wpAny _ _ (eval (.Constant (.int 1) j p2) (pEnv L fa cd)) _ _ _
  refine wpAny_Constant_int ?_
  rw [evalPart_none]
  refine wpAny_pure (wpAny_pure ?_)
  have kp : ∀ b o, s.heap.get? b = some o → (s.heap.push { cls := .type "slice", data := .fields #[.int 1 s.toks, .none, .none] }).get? b = some o := fun b o e => Heap.get?_push_of_some _ e
  have ht2 : IsTup (s.heap.push { cls := .type "slice", data := .fields #[.int 1 s.toks, .none, .none] }) a its.toArray := ht.keeps kp
  refine tail_any (ops := [.ref s.heap.objs.size, .ref a]) (T := "tuple") (s := { deadS s with heap := s.heap.push { cls := .type "slice", data := .fields #[.int 1 s.toks, .none, .none] }, toks := s.toks + 1 }) ?_ PyProof.Rows.slot_tuple_getitem.lookup ?_ (by with_unfolding_all rfl)
  · obtain ⟨o, e, c, _⟩ := ht2
    exact ⟨o, e, c⟩
  have hs : its.toArray.size = its.length := List.size_toArray
  obtain ⟨n, hn⟩ : ∃ n, its.length = n + 1 := by
    cases its with
    | nil => exact absurd rfl h0
    | cons x r => exact ⟨r.length, rfl⟩
  have lo : HT.sIx its.toArray.size 0 (some 1) = 1 := by
    rw [hs, hn]
    unfold HT.sIx
    first | rfl | (simp; omega)
  have hi : HT.sIx its.toArray.size its.toArray.size none = its.length := by
    rw [hs]
    unfold HT.sIx
    rfl
  refine HT.getItem_tuple_cut (lo := some 1) (hi := none) ht2 (Heap.IsSliceOf.new ..) ?_ ?_ ?_ ?_ (by rw [hs]; exact hz)
  · exact .int _ _
  · exact .none
  · rw [lo]; omega
  · rw [lo, hi]
    refine ⟨_, _, rfl, h _ _ _ (fun b o e => Heap.get?_push_of_some _ (kp b o e)) ?_ ?_ ⟨_, Heap.get?_push_size _ rfl, rfl, ?_⟩⟩
    · show s.heap.objs.size ≤ (s.heap.push _).objs.size
      rw [Heap.size_push]; omega
    · rw [Heap.size_push, Heap.size_push]; omega
    · have e : List.take (its.length - 1) (List.drop 1 its) = its.drop 1 := List.take_of_length_le (by rw [List.length_drop]; exact Nat.le_refl _)
      rw [e]
      exact ⟨_, rfl⟩
end
end D

/-! The call of `parts`: a generator that has not begun. -/
namespace D
open PySem PyProof.Rows L2
section
variable {prog : Program} {w : World} {A : Around} {R : Result → Shared → Prop} {s : Shared}
theorem codeAny_call_generator2 {a : Addr} {args : Args} {o : Obj} {fd : FuncData} {body : List Stmt}
    (hroom : A.depth < recursionLimit) (ho : s.heap.get? a = some o) (hd' : o.data = .func fd) (hco : fd.scope.isCoroutine = false)
    (hgen : fd.scope.isGenerator = true) (hbody : fd.body = .stmts body) (hcd : s.heap.CodeRec fd.code fd.qualname)
    (h : wpAny (model2 prog w) A.in1 (bindArgs fd args) (fun binds s₁ =>
      wpAny (model2 prog w) A.in1 (newFunctionEnv fd.scope fd.globals fd.closure binds (fd.qualname ++ ".<locals>.") (some a) fd.code none fd.builtins)
        (fun env s₂ => s₂.heap.NoLimit ∧ R (.ok (.ret (.ref s₂.heap.objs.size)))
          { s₂ with gens := s₂.gens.push (.fresh (.func body env)), toks := s₂.toks + 1 + 1,
                    heap := s₂.heap.push { cls := .type "generator",
                                           data := .fields #[.int s₂.gens.size 0, .str fd.name s₂.toks, .str fd.qualname (s₂.toks + 1)] } })
        (fun e s' => R (.error e) s') s₁) (fun e s' => R (.error e) s') s) :
    codeAny (model2 prog w) A (.call (.ref a) args) R s := by
  refine codeAny2 ?_
  show wpAny _ _ (callAny (.ref a) args) _ _ s
  simp only [callAny]
  refine wpAny_bind (wpAny_load ho ?_)
  obtain ⟨c, oc, vs, tq, hc, hoc, hdc, hq⟩ := hcd
  simp only [hd', callFunction, hco, hgen, hbody, hc]
  rw [hc] at h
  refine wpAny_bind (m := field (.ref c) 1) (wpAny_field hoc hdc hq (wpAny_bind (wpAny_pure ?_)))
  refine wpAny_bind (wpAny_mono h (fun binds s₁ h₁ => wpAny_bind (wpAny_mono h₁ (fun env s₂ h₂ => wpAny_bind (wpAny_enterFrame h₂.1 hroom ?_))
    fun _ _ h' => h')) fun _ _ h' => h')
  simp only [newGenerator, newFields]
  exact wpAny_bind (wpAny_bind (wpAny_newGen (wpAny_bind (wpAny_mkText (wpAny_bind (wpAny_mkText (wpAny_newObj_type (wpAny_pure h₂.2) (by size_fits))))))))
end
def pArgs (q : Pos) : Arguments := { posonlyargs := [], args := [{ arg := "rule", annotation := none, pos := q : Arg }], vararg := none, kwonlyargs := [], kw_defaults := [], kwarg := none, defaults := [] }
/-- the def stands -/
structure Gd2 (K : PySem.W.Frag) (fa : Addr) (cd : Value) (body : List Stmt) : Prop where
  lk : ∃ (q : Pos) (kV doc pm ct oc : Value) (an od : Option Addr) (osl : Array (Option Value)), K.lookup fa = some ⟨oc, od, .func (PySem.W.fnOf "parts" "parts" (pArgs q) body pSc .none kV doc pm an cd ct), osl⟩
/-- a generator that has not begun: its frame at L, its object at a -/
structure Made (s s' : Shared) (fa : Addr) (cd : Value) (body : List Stmt) (v : Value) (L a : Addr) : Prop where
  gens : s'.gens = s.gens.push (.fresh (.func body (pEnv L fa cd)))
  os : s'.os = s.os
  keep : ∀ b o, s.heap.get? b = some o → s'.heap.get? b = some o
  ns : ∃ m, s'.heap.Ns L m ∧ m "rule" = some v
  obj : ∃ o, s'.heap.get? a = some o ∧ GObj o s.gens.size 0 ∧ o.slots = #[]
  Lge : s.heap.objs.size ≤ L
  La : L < a
  sz : a < s'.heap.objs.size
  le : s.heap.objs.size ≤ s'.heap.objs.size
section
variable {P : Program} {w : World} {K : PySem.W.Frag} {mg : Str → Option Value} {base : Heap} {fa L : Addr} {cd : Value} {A : Around} {E : Value → Shared → Prop} {s : Shared} {body : List Stmt}
theorem call_parts {v : Value} {Q : Value → Shared → Prop} (g : Gp K mg base fa cd) (g2 : Gd2 K fa cd body) (kb : ∀ b o, base.get? b = some o → s.heap.get? b = some o) (hroom : A.depth < recursionLimit)
    (h : ∀ s' L' a, Made s s' fa cd body v L' a → Q (.ref a) s') : wpAny (model2 P w) A (PySem.call (.ref fa) [v]) Q E s := by
  obtain ⟨q, kV, doc, pm, ct, oc, an, od, osl, lk⟩ := g2.lk
  have kin : K.In s.heap := g.mod.kin.keeps kb
  have lim : s.heap.NoLimit := g.mod.nolimit.keeps kb
  refine wpAny_call (codeAny_call_generator2 hroom (kin _ _ lk) rfl rfl rfl rfl (PySem.W.codeRec_of kin g.cd) ?_)
  have hb : BindsTo s (PySem.W.fnOf "parts" "parts" (pArgs q) body pSc .none kV doc pm an cd ct) ⟨[v], []⟩ [(Str.ofString "rule", v)] := .of_eq rfl
  refine hb _ _ _ _ (wpAny_newFunctionEnv_cells rfl (fun y hy => ?_) fun env he s1 x => ?_)
  · obtain rfl : y = (Str.ofString "rule", v) := List.mem_singleton.mp hy
    exact .inl rfl
  · subst he
    obtain ⟨h1, tk, rfl, hk⟩ := x.done
    have hns := x.toInCall.ns
    have lt := hns.lt
    refine ⟨lim.keeps hk, h _ s.heap.objs.size _ ⟨rfl, rfl, fun b o e => Heap.get?_push_of_some _ (hk b o e), ⟨_, hns.push _, rfl⟩, ⟨_, Heap.get?_push_size _ rfl, ⟨rfl, ⟨_, _, rfl⟩, .inl ⟨rfl, rfl⟩⟩, rfl⟩, Nat.le_refl _, lt, ?_, ?_⟩⟩
    · show _ < (Heap.push _ _).objs.size
      rw [Heap.size_push]
      exact Nat.lt_succ_self _
    · show _ ≤ (Heap.push _ _).objs.size
      rw [Heap.size_push]
      exact Nat.le_succ_of_le (Nat.le_of_lt lt)
theorem ev_made {v : Value} {m : Str → Option Value} {p1 p2 p3 : Pos} {Q : Value → Shared → Prop} (g : Gp K mg base fa cd) (g2 : Gd2 K fa cd body) (kb : ∀ b o, base.get? b = some o → s.heap.get? b = some o) (hroom : A.depth < recursionLimit) (hn : s.heap.Ns L m) (hm : m "part" = some v)
    (h : ∀ s' L' a, Made s s' fa cd body v L' a → Q (.ref a) s') : wpAny (model2 P w) A (eval (.Call (.Name "parts" p1) [.Name "part" p2] [] p3) (pEnv L fa cd)) Q E s := by
  refine wpAny_Call_Name_kw (ev_parts g kb ?_)
  exact PySem.W.callWith_K (h₀ := base) g.mod.kin g.kp (Calls.spliced_cons (ev_var (.inr rfl) hn hm (Calls.spliced_nil ⟨g.mod.kin.keeps kb, call_parts g g2 kb hroom h⟩))) (by rfl) (by rfl)
end
end D

/-! Statements in a generator's run on the second machine. -/
namespace D
open PySem PyProof.Rows L2
section
variable {P : Program} {w : World} {A : Around} {c : Code} {fs : List Frame} {s : Shared} {Φ : End → Shared → Prop} {env : Env} {K : Flow → Sem PySem.Fin} {H : Value → Sem PySem.Fin} {gd : Bool → Bool} {lv : List Value → List Value}
theorem sg_execs_cons {st : Stmt} {rest : List Stmt} (h : Sg P w A c ((exec st env).wrap (fun f => match f with | .next => (execs rest env).wrap K H gd lv | f => K f) H gd lv) fs s Φ) : Sg P w A c ((execs (st :: rest) env).wrap K H gd lv) fs s Φ := by
  rw [execs_cons_wrap]; exact h
theorem sg_func {body : List Stmt} (h : Sg P w A (.func body env) ((execs body env).wrap (fun f => .pure (.done (.ret (match f with | .ret v => v | _ => .none)))) (fun e => (leaving env e).wrap (fun _ => .raise e) .raise id id) id id) fs s Φ) :
    Sg P w A (.func body env) (denote table (.func body env)) fs s Φ := by
  show Sg _ _ A _ (.point [] fun _ => ((execs body env).onRaise (leaving env)) >>= _) fs s Φ
  refine sg_point ?_
  rw [Sem.onRaise_eq_wrap, Sem.bind_eq_wrap', Sem.wrap_wrap]
  rw [Sem.wrap_congr (execs body env) _ _ (K' := fun f => .pure (.done (.ret (match f with | .ret v => v | _ => .none))))
    (H' := fun e => (leaving env e).wrap (fun _ => .raise e) .raise id id) (fun f => by cases f <;> rfl)
    (fun e => by rw [Sem.bind_eq_wrap, Sem.wrap_wrap]; rfl)]
  exact h
theorem sg_Yield {e : Expr} {ypos pos : Pos} (hfs : splitAtGen fs = none) (hgd : gd false = false) (hfg : fs.any Frame.guarded = false)
    (h : wpAny (model2 P w) (A.over c fs) (eval e env) (fun v s' => ∀ e p k, e.quiet = true → e.result = .yielded v → e.genState = Asleep c k fs [] p → (∀ A' s'' Ψ, Sg P w A' c (K .next) fs s'' Ψ → Sg P w A' c (k (.send .none)) fs s'' Ψ) → Φ e s') (fun x s' => Sg P w A c (H x) fs s' Φ) s)
    (hco : env.scope.isCoroutine = false := by rfl) (hi : interactive env = false := by rfl) : Sg P w A c ((exec (.Expr (.Yield (some e) ypos) pos) env).wrap K H gd lv) fs s Φ := by
  rw [exec_Expr env _ pos hi rfl]
  show Sg P w A c (.at pos fun _ => ((eval e env >>= fun v => (standAt ypos >>= fun _ => yieldOut env v)) >>= fun x => dropValue (.Yield (some e) ypos) pos x).wrap K H gd lv) fs s Φ
  have hy : ∀ v, yieldOut env v = yieldValue v := fun v => by simp only [yieldOut, hco, Bool.false_eq_true, if_false]
  simp only [hy]
  refine sg_at ?_
  rw [Sem.bind_eq_wrap', Sem.bind_eq_wrap', Sem.wrap_wrap, Sem.wrap_wrap]
  refine sg_wrap (wpAny_mono h (fun v s' h' => ?_) fun _ _ x => x)
  refine sg_at ?_
  show Sg P w A c (.yield v (gd false) _ _) fs s' Φ
  rw [hgd]
  exact sg_yield hfs hfg fun e p q1 q2 q3 => h' e p _ q1 q2 q3 fun A' s'' Ψ z => z
theorem sg_If {t : Expr} {a b : List Stmt} {pos : Pos} (h : wpAny (model2 P w) (A.over c fs) (isTrue t env (eval t env)) (fun x s' => if x = true then Sg P w A c ((execs a env).wrap K H gd lv) fs s' Φ else Sg P w A c ((execs b env).wrap K H gd lv) fs s' Φ) (fun x s' => Sg P w A c (H x) fs s' Φ) s) :
    Sg P w A c ((exec (.If t a b pos) env).wrap K H gd lv) fs s Φ := by
  rw [arm_exec_If]
  refine sg_bind_wrap (wpAny_standAt ?_)
  refine sg_bind_wrap (wpAny_mono h (fun x s' q => ?_) fun _ _ z => z)
  cases x with
  | true => rw [if_pos rfl] at q; exact q
  | false => rw [if_neg Bool.false_ne_true] at q; exact q
/-- what a loop's caller makes of its end -/
def backK (env : Env) (K : Flow → Sem PySem.Fin) (H : Value → Sem PySem.Fin) (gd : Bool → Bool) (lv : List Value → List Value) : Result → Sem PySem.Fin := fun r => ((match r with | .ok f => (.pure f : Sem Flow) | .error e => .raise e).onRaise fun (x : Value) => do
        if (← field x 1) == Value.none then unsupported "frame.own-activation:exception-without-traceback"
        setFlight x env.frame).wrap K H gd lv
theorem sg_For {tg iter : Expr} {body orelse : List Stmt} {pos : Pos} (h : wpAny (model2 P w) (A.over c fs) (eval iter env) (fun x s1 => wpAny (model2 P w) (A.over c fs) (pyIter x) (fun it s2 =>
      ∀ p, Sg P w A (.forLoop tg it body orelse env) (denote table (.forLoop tg it body orelse env)) (.ret (backK env K H gd lv) none (gd false) (lv []) c p [] :: fs) s2 Φ) (fun x s' => Sg P w A c (H x) fs s' Φ) s1) (fun x s' => Sg P w A c (H x) fs s' Φ) s)
    (hs : ∀ x, foldedSetIterable iter env x = pure x := by intro _; rfl) : Sg P w A c ((exec (.For tg iter body orelse pos) env).wrap K H gd lv) fs s Φ := by
  rw [arm_exec_For]
  refine sg_bind_wrap (wpAny_standAt ?_)
  refine sg_bind_wrap (wpAny_mono h (fun x s1 h1 => ?_) fun _ _ z => z)
  rw [hs]
  refine sg_bind_wrap (wpAny_pure ?_)
  refine sg_bind_wrap (wpAny_standAt ?_)
  refine sg_bind_wrap (wpAny_holding (wpAny_mono h1 (fun it s2 h2 => ?_) fun _ _ z => z))
  exact sg_call h2
theorem sg_forLoop {tg : Expr} {it : Value} {body : List Stmt} (h : wpAny (model2 P w) (A.over (.forLoop tg it body [] env) fs) (pyNext it) (fun r s1 => match r with
      | none => Sg P w A (.block [] env) (leafOf (.ok .next)) fs s1 Φ
      | some v => wpAny (model2 P w) (A.over (.forLoop tg it body [] env) fs) (letOwnedTupleGo tg it v) (fun _ s1' => wpAny (model2 P w) (A.over (.forLoop tg it body [] env) fs) (assign tg env v) (fun _ s2 =>
          Sg P w A (.forLoop tg it body [] env) ((execs body env).wrap (fun f => match f with
            | .next | .cont => .pure (.again (.forLoop tg it body [] env))
            | .brk => .pure (.done .next)
            | .ret v => .pure (.done (.ret v))) (fun e => (do noteFrame e env; theTreesLotGoes e : Sem Unit).wrap (fun _ => .raise e) .raise id id) id id) fs s2 Φ) (fun _ _ => False) s1') (fun _ _ => False) s1) (fun _ _ => False) s) :
    Sg P w A (.forLoop tg it body [] env) (denote table (.forLoop tg it body [] env)) fs s Φ := by
  show Sg P w A _ ((forTurn tg it body [] env).onRaise (fun x => do noteFrame x env; theTreesLotGoes x)) fs s Φ
  unfold forTurn
  rw [Sem.onRaise_eq_wrap]
  refine sg_bind_wrap (wpAny_standAt ?_)
  refine sg_bind_wrap (wpAny_onRaise (wpAny_mono h (fun r s1 h1 => ?_) fun _ _ z => z.elim))
  cases r with
  | none =>
    refine sg_again rfl ?_
    exact h1
  | some v =>
    refine sg_bind_wrap (wpAny_mono h1 (fun _ s1' h1' => ?_) fun _ _ z => z.elim)
    refine sg_bind_wrap (wpAny_mono h1' (fun _ s2 h2 => ?_) fun _ _ z => z.elim)
    rw [Sem.bind_eq_wrap', Sem.wrap_wrap]
    rw [Sem.wrap_congr (execs body env) _ _ (K' := fun f => match f with
            | .next | .cont => .pure (.again (.forLoop tg it body [] env))
            | .brk => .pure (.done .next)
            | .ret v => .pure (.done (.ret v))) (H' := (fun e => (do noteFrame e env; theTreesLotGoes e : Sem Unit).wrap (fun _ => .raise e) .raise id id))
        (fun f => by cases f <;> rfl)
        (fun e => by first | exact Sem.bind_eq_wrap _ _ | (show (do noteFrame e env; theTreesLotGoes e : Sem Unit).bind (fun _ => .raise e) = _; rw [Sem.bind_eq_wrap]))]
    exact h2
def backY (e : Expr) (yp pos : Pos) (K : Flow → Sem PySem.Fin) (H : Value → Sem PySem.Fin) (gd : Bool → Bool) (lv : List Value → List Value) : Result → Sem PySem.Fin := fun r =>
  ((match r with | .ok f => (.pure f : Sem Flow) | .error e => .raise e).bind fun f => match f with | .ret v => pure v | _ => unsupported "internal:call-without-return-value").wrap (fun x => (dropValue (.YieldFrom e yp) pos x).wrap K H gd lv) H gd lv
/-- yield from a generator that was just made -/
theorem sg_YieldFrom {e : Expr} {yp pos : Pos} (h : wpAny (model2 P w) (A.over c fs) (eval e env) (fun v s1 => ∃ a o g n, v = .ref a ∧ s1.heap.get? a = some o ∧ GObj o g n ∧ n = 0 ∧ o.slots = #[] ∧
      ∀ p, Sg P w A (yfc a) (denote table (yfc a)) (.ret (backY e yp pos K H gd lv) none (gd false) (lv []) c p [] :: fs) s1 Φ) (fun x s' => Sg P w A c (H x) fs s' Φ) s)
    (hi : interactive env = false := by rfl) : Sg P w A c ((exec (.Expr (.YieldFrom e yp) pos) env).wrap K H gd lv) fs s Φ := by
  rw [exec_Expr env _ pos hi rfl]
  show Sg P w A c (.at pos fun _ => ((eval e env >>= fun v => (standAt yp >>= fun _ => yieldFrom env v)) >>= fun x => dropValue (.YieldFrom e yp) pos x).wrap K H gd lv) fs s Φ
  refine sg_at ?_
  rw [Sem.bind_eq_wrap' (eval e env >>= _), Sem.wrap_wrap]
  refine sg_bind_wrap (wpAny_mono h (fun v s1 hv => ?_) fun _ _ z => z)
  obtain ⟨a, o, g, n, rfl, ho, hO, rfl, hsl, hp⟩ := hv
  have hT : s1.TypeIs (.ref a) "generator" := ⟨o, ho, hO.cls⟩
  refine sg_at ?_
  show Sg P w A c ((yieldFrom env (.ref a)).wrap (fun b => (dropValue (.YieldFrom e yp) pos b).wrap K H gd lv) H gd lv) fs s1 Φ
  unfold yieldFrom
  refine sg_bind_wrap (wpAny_typeOf hT ?_)
  rw [if_neg (show ¬ ((Value.type "generator" == Value.type "coroutine") = true) by decide)]
  refine sg_bind_wrap (wpAny_holding ?_)
  obtain ⟨nm, qn, hd⟩ := hO.data
  refine exactly (P := P) (w := w) (wpAny_pyIter_gen (s := deadS s1) (g := g) ⟨o, nm, qn, ho, hO.cls, hd, hsl⟩ ⟨s1.heap, s1.toks, rfl, ?_⟩)
  exact sg_call hp
end
end D

/-! What a generator has still to hand out, whatever its consumer does. -/
namespace D
open PySem PyProof.Rows L2
abbrev Pv := List (Addr × Obj)
abbrev Gv := List (Nat × GenState)
/-- from s to s': pv, gp were the generator's own, pv', gp' are -/
structure Stp (pv : Pv) (gp : Gv) (pv' : Pv) (gp' : Gv) (s s' : Shared) : Prop where
  os : s'.os = s.os
  keep : ∀ b o, s.heap.get? b = some o → b ∉ pv.map (·.1) → s'.heap.get? b = some o
  tup : ∀ b o xs n, s.heap.get? b = some o → o.data = .seq xs n → s'.heap.get? b = some o
  size : s.heap.objs.size ≤ s'.heap.objs.size
  gsize : s.gens.size ≤ s'.gens.size
  gkeep : ∀ (i : Nat) (z : GenState), s.gens[i]? = some z → i ∉ gp.map (·.1) → s'.gens[i]? = some z
  gnew : ∀ (i : Nat) (z : GenState), s'.gens[i]? = some z → (s.gens[i]? = some z ∧ i ∉ gp.map (·.1)) ∨ i ∈ gp'.map (·.1) ∨ z = .finished
  bare : AllBare s'.gens
  pnew : ∀ a ∈ pv'.map (·.1), a ∈ pv.map (·.1) ∨ s.heap.objs.size ≤ a
  gpnew : ∀ i ∈ gp'.map (·.1), i ∈ gp.map (·.1) ∨ s.gens.size ≤ i
theorem gens_lt {s : Shared} {i : Nat} {z : GenState} (h : s.gens[i]? = some z) : i < s.gens.size := (Array.getElem?_eq_some_iff.mp h).1
theorem Stp.trans {pv pv1 pv2 : Pv} {gp gp1 gp2 : Gv} {s s1 s2 : Shared} (a : Stp pv gp pv1 gp1 s s1) (b : Stp pv1 gp1 pv2 gp2 s1 s2) : Stp pv gp pv2 gp2 s s2 where
  os := b.os.trans a.os
  keep := fun x o e n => b.keep x o (a.keep x o e n) fun h => (a.pnew x h).elim n fun q => absurd (Heap.lt_size e) (Nat.not_lt.mpr q)
  tup := fun x o xs n e c => b.tup x o xs n (a.tup x o xs n e c) c
  size := Nat.le_trans a.size b.size
  gsize := Nat.le_trans a.gsize b.gsize
  gkeep := fun i z e n => b.gkeep i z (a.gkeep i z e n) fun h => (a.gpnew i h).elim n fun q => absurd (gens_lt e) (Nat.not_lt.mpr q)
  gnew := fun i z e => by
    rcases b.gnew i z e with ⟨q, n⟩ | q | q
    · rcases a.gnew i z q with q | q | q
      · exact .inl q
      · exact absurd q n
      · exact .inr (.inr q)
    · exact .inr (.inl q)
    · exact .inr (.inr q)
  bare := b.bare
  pnew := fun x h => (b.pnew x h).elim (a.pnew x) fun q => .inr (Nat.le_trans a.size q)
  gpnew := fun i h => (b.gpnew i h).elim (a.gpnew i) fun q => .inr (Nat.le_trans a.gsize q)
/-- only the heap moves -/
theorem Stp.heap {pv pv' : Pv} {gp : Gv} {s : Shared} {h' : Heap} {tk : Nat} (hb : AllBare s.gens) (k : ∀ b o, s.heap.get? b = some o → b ∉ pv.map (·.1) → h'.get? b = some o) (t : ∀ b o xs n, s.heap.get? b = some o → o.data = .seq xs n → h'.get? b = some o)
    (z : s.heap.objs.size ≤ h'.objs.size) (n : ∀ a ∈ pv'.map (·.1), a ∈ pv.map (·.1) ∨ s.heap.objs.size ≤ a) : Stp pv gp pv' gp s { s with heap := h', toks := tk } where
  os := rfl
  keep := k
  tup := t
  size := z
  gsize := Nat.le_refl _
  gkeep := fun _ _ e _ => e
  gnew := fun i z e => by
    by_cases h : i ∈ gp.map (·.1)
    · exact .inr (.inl h)
    · exact .inl ⟨e, h⟩
  bare := hb
  pnew := n
  gpnew := fun i h => .inl h
/-- they stand -/
structure On (lo : Nat) (pv : Pv) (gp : Gv) (s : Shared) : Prop where
  lo : ∀ p ∈ pv, lo ≤ p.1
  p : ∀ p ∈ pv, s.heap.get? p.1 = some p.2
  nc : ∀ p ∈ pv, ∀ v, p.2.data ≠ .cell v
  g : ∀ q ∈ gp, s.gens[q.1]? = some q.2
/-- a rule as it lies -/
inductive Dt where
  | at (x : Str)
  | nd (a : Addr) (ks : List Dt)
def Dt.v : Dt → V
  | .at x => .str x
  | .nd a _ => .ref a
mutual
def Dt.ys : Dt → List V
  | .at _ => []
  | .nd a [] => [.ref a]
  | .nd a (_ :: r) => .ref a :: ysL r
def ysL : List Dt → List V
  | [] => []
  | k :: r => k.ys ++ ysL r
end
inductive TD (h : Heap) : Dt → Prop where
  | at (x : Str) : TD h (.at x)
  | nd (a : Addr) (ks : List Dt) (its : List Value) : IsTup h a its.toArray → its.length ≤ sizeLine → Vals (ks.map Dt.v) its → ks ≠ [] → (∀ k ∈ ks, TD h k) → TD h (.nd a ks)
inductive Fit : Nat → Dt → Prop where
  | at (n : Nat) (x : Str) : Fit n (.at x)
  | nd (n : Nat) (a : Addr) (ks : List Dt) : (∀ k ∈ ks, Fit n k) → Fit (n + 1) (.nd a ks)
theorem TD.keeps {h h' : Heap} {d : Dt} (x : TD h d) (k : ∀ b o xs n, h.get? b = some o → o.data = .seq xs n → h'.get? b = some o) : TD h' d := by
  induction x with
  | «at» x => exact .at x
  | nd a ks its t z r n _ ih =>
    obtain ⟨o, e, c, n', q⟩ := t
    exact .nd a ks its ⟨o, k a o _ _ e q, c, n', q⟩ z r n ih
/-- what a generator's run may lean on -/
structure Gr (base : Heap) (d : Dt) (s : Shared) : Prop where
  kb : ∀ b o, base.get? b = some o → s.heap.get? b = some o
  sz : base.objs.size ≤ s.heap.objs.size
  bare : AllBare s.gens
  td : TD s.heap d
theorem Gr.step {base : Heap} {d : Dt} {pv pv' : Pv} {gp gp' : Gv} {s s' : Shared} (g : Gr base d s) (o : On base.objs.size pv gp s) (t : Stp pv gp pv' gp' s s') : Gr base d s' where
  kb := fun b ob e => t.keep b ob (g.kb b ob e) fun h => by
    obtain ⟨p, hp, rfl⟩ := List.mem_map.mp h
    exact absurd (Heap.lt_size e) (Nat.not_lt.mpr (o.lo p hp))
  sz := Nat.le_trans g.sz t.size
  bare := t.bare
  td := g.td.keeps t.tup
theorem Gr.sub {base : Heap} {d d' : Dt} {s : Shared} (g : Gr base d s) (h : TD s.heap d') : Gr base d' s := ⟨g.kb, g.sz, g.bare, h⟩
section
variable (P : Program) (w : World) (base : Heap) (d : Dt) (k : Nat)
/-- ys is still to come -/
def Strm : List V → GenState → Pv → Gv → Prop
  | [], z, pv, gp => ∀ (A : Around) (s : Shared), Room k A → Gr base d s → On base.objs.size pv gp s → Woke P w A z s fun e s1 => e.quiet = true ∧ e.result = .returned .none ∧ e.genState = .finished ∧ ∃ pv', Stp pv gp pv' [] s s1
  | y :: r, z, pv, gp => ∀ (A : Around) (s : Shared), Room k A → Gr base d s → On base.objs.size pv gp s → Woke P w A z s fun e s1 => e.quiet = true ∧ ∃ v pv' gp', e.result = .yielded v ∧ RelV y v ∧ On base.objs.size pv' gp' s1 ∧ Stp pv gp pv' gp' s s1 ∧ ((∀ q ∈ gp', susp q.2 = true) ∧ susp e.genState = true) ∧ Strm r e.genState pv' gp'
/-- the end of a piece -/
def Pz (ys : List V) (pv : Pv) (gp : Gv) (s : Shared) (e : End) (s1 : Shared) : Prop := e.quiet = true ∧ match ys with
  | [] => e.result = .returned .none ∧ e.genState = .finished ∧ ∃ pv', Stp pv gp pv' [] s s1
  | y :: r => ∃ v pv' gp', e.result = .yielded v ∧ RelV y v ∧ On base.objs.size pv' gp' s1 ∧ Stp pv gp pv' gp' s s1 ∧ ((∀ q ∈ gp', susp q.2 = true) ∧ susp e.genState = true) ∧ Strm P w base d k r e.genState pv' gp'
variable {P w base d k}
theorem Strm.woke {ys : List V} {z : GenState} {pv : Pv} {gp : Gv} (h : Strm P w base d k ys z pv gp) {A : Around} {s : Shared} (hr : Room k A) (g : Gr base d s) (o : On base.objs.size pv gp s) : Woke P w A z s (Pz P w base d k ys pv gp s) := by
  cases ys with
  | nil => unfold Strm at h; exact h A s hr g o
  | cons y r => unfold Strm at h; exact h A s hr g o
theorem Strm.of {ys : List V} {z : GenState} {pv : Pv} {gp : Gv} (h : ∀ (A : Around) (s : Shared), Room k A → Gr base d s → On base.objs.size pv gp s → Woke P w A z s (Pz P w base d k ys pv gp s)) : Strm P w base d k ys z pv gp := by
  cases ys with
  | nil => unfold Strm; exact h
  | cons y r => unfold Strm; exact h
theorem Pz.back {ys : List V} {pv pv1 : Pv} {gp gp1 : Gv} {s s1 : Shared} {e : End} {s2 : Shared} (t : Stp pv gp pv1 gp1 s s1) (h : Pz P w base d k ys pv1 gp1 s1 e s2) : Pz P w base d k ys pv gp s e s2 := by
  obtain ⟨q, h⟩ := h
  refine ⟨q, ?_⟩
  cases ys with
  | nil => obtain ⟨a, b, pv', c⟩ := h; exact ⟨a, b, pv', t.trans c⟩
  | cons y r => obtain ⟨v, pv', gp', a, b, c, d, f⟩ := h; exact ⟨v, pv', gp', a, b, c, t.trans d, f⟩
end
end D

/-! Yield from over a generator of which we know what is still to come. -/
namespace D
open PySem PyProof.Rows L2
theorem setGen_get (s : Shared) (g : Nat) (z : GenState) (i : Nat) : (s.setGen g z).gens[i]? = if i = g then (s.gens[i]?).map (fun _ => z) else s.gens[i]? := by
  show (s.gens.set! g z)[i]? = _
  rw [Array.set!_eq_setIfInBounds, Array.getElem?_setIfInBounds]
  by_cases h : i = g
  · subst h
    simp only [if_true]
    by_cases hi : i < s.gens.size
    · rw [if_pos hi, Array.getElem?_eq_getElem hi]; rfl
    · rw [if_neg hi, Array.getElem?_eq_none (Nat.le_of_not_lt hi)]; rfl
  · rw [if_neg (Ne.symm h), if_neg h]
theorem setGen_size' (s : Shared) (g : Nat) (z : GenState) : (s.setGen g z).gens.size = s.gens.size := by
  show (s.gens.set! g z).size = _
  simp
theorem Stp.wake {pv pv' : Pv} {gp gp' : Gv} {s s1 : Shared} {g : Nat} {z z' : GenState} (hz : s.gens[g]? = some z) (hb : z'.bare = true) (t : Stp pv gp pv' gp' (s.setGen g .running) s1) : Stp pv ((g, z) :: gp) pv' ((g, z') :: gp') s (s1.setGen g z') where
  os := t.os
  keep := t.keep
  tup := t.tup
  size := t.size
  gsize := by rw [setGen_size']; have := t.gsize; rw [setGen_size'] at this; exact this
  gkeep := fun i y e n => by
    have ng : i ≠ g := fun q => n (by rw [q]; exact List.mem_cons_self)
    have n2 : i ∉ gp.map (·.1) := fun q => n (List.mem_cons_of_mem _ q)
    rw [setGen_get, if_neg ng]
    exact t.gkeep i y (by rw [setGen_get, if_neg ng]; exact e) n2
  gnew := fun i y e => by
    by_cases ng : i = g
    · exact .inr (.inl (by rw [ng]; exact List.mem_cons_self))
    · rw [setGen_get, if_neg ng] at e
      rcases t.gnew i y e with ⟨q, n⟩ | q | q
      · rw [setGen_get, if_neg ng] at q
        exact .inl ⟨q, fun h => (List.mem_cons.mp h).elim ng n⟩
      · exact .inr (.inl (List.mem_cons_of_mem _ q))
      · exact .inr (.inr q)
  bare := allBare_setGen t.bare hb
  pnew := t.pnew
  gpnew := fun i h => by
    rcases List.mem_cons.mp h with rfl | h
    · exact .inl List.mem_cons_self
    · rcases t.gpnew i h with q | q
      · exact .inl (List.mem_cons_of_mem _ q)
      · rw [setGen_size'] at q; exact .inr q
theorem Stp.wakeEnd {pv pv' : Pv} {gp : Gv} {s s1 : Shared} {g : Nat} {z : GenState} (hz : s.gens[g]? = some z) (t : Stp pv gp pv' [] (s.setGen g .running) s1) : Stp pv ((g, z) :: gp) pv' [] s (s1.setGen g .finished) := by
  have q := Stp.wake (z' := .finished) hz rfl t
  refine ⟨q.os, q.keep, q.tup, q.size, q.gsize, q.gkeep, fun i y e => ?_, q.bare, q.pnew, fun i h => by cases h⟩
  rcases q.gnew i y e with h | h | h
  · exact .inl h
  · obtain rfl : i = g := by simpa using h
    rw [setGen_get, if_pos rfl] at e
    cases q : s1.gens[i]? with
    | none => rw [q] at e; cases e
    | some x => rw [q] at e; cases e; exact .inr (.inr rfl)
  · exact .inr (.inr h)
theorem Stp.wide {pv pv' : Pv} {gp gp' : Gv} {s s' : Shared} (ow ow' : Pv) (t : Stp pv gp pv' gp' s s') (e : ow'.map (·.1) = ow.map (·.1)) : Stp (ow ++ pv) gp (ow' ++ pv') gp' s s' :=
  ⟨t.os, fun b o q n => t.keep b o q fun h => n (by rw [List.map_append]; exact List.mem_append_right _ h), t.tup, t.size, t.gsize, t.gkeep, t.gnew, t.bare, fun a h => by
    rw [List.map_append] at h ⊢
    rcases List.mem_append.mp h with h | h
    · rw [e] at h; exact .inl (List.mem_append_left _ h)
    · exact (t.pnew a h).imp (List.mem_append_right _) id, t.gpnew⟩
theorem Stp.drop {pv pv' pv2 : Pv} {gp gp' : Gv} {s s' : Shared} (t : Stp pv gp pv' gp' s s') (h : ∀ a ∈ pv2.map (·.1), a ∈ pv'.map (·.1)) : Stp pv gp pv2 gp' s s' :=
  ⟨t.os, t.keep, t.tup, t.size, t.gsize, t.gkeep, t.gnew, t.bare, fun a q => t.pnew a (h a q), t.gpnew⟩
/-- one object of one's own is written -/
theorem Stp.upd {pv pv' : Pv} {gp : Gv} {s : Shared} {a : Addr} {o : Obj} {f : Obj → Obj} {tk : Nat} (hb : AllBare s.gens) (ho : s.heap.get? a = some o) (hc : ∀ xs n, o.data ≠ .seq xs n) (ha : a ∈ pv.map (·.1)) (hp : pv'.map (·.1) = pv.map (·.1)) : Stp pv gp pv' gp s { s with heap := s.heap.update a f, toks := tk } :=
  .heap hb (fun b ob e n => (Heap.get?_update_other _ _ (fun q => n (by rw [← q]; exact ha))).trans e) (fun b ob xs n e c => (Heap.get?_update_other _ _ (fun q => by subst q; rw [ho] at e; cases e; exact hc _ _ c)).trans e) (by rw [Heap.size_update]; exact Nat.le_refl _) fun x h => .inl (by rw [hp] at h; exact h)
theorem push_bare {G : Array GenState} {z : GenState} (h : AllBare G) (hz : z.bare = true) : AllBare (G.push z) := AllBare.push h hz
theorem gcell {o : Obj} {g : Nat} {n : Int} (h : GObj o g n) : ∀ v, o.data ≠ .cell v := fun v e => by obtain ⟨_, _, q⟩ := h.data; rw [q] at e; cases e
section
variable {P : Program} {w : World} {base : Heap} {K : PySem.W.Frag} {mg : Str → Option Value} {d dC : Dt} {k : Nat} {fs : List Frame} {aC : Addr} {gC : Nat} {ow : Pv} {REST : List V}
theorem yf_seg (X : Cx) (md : Mod K mg base) (hsp : splitAtGen fs = none) (hgd : fs.any Frame.guarded = false) (hroom : ∀ A : Around, Room (k + 1) A → ((A.over (yfc aC) fs).handled = none ∧ (A.over (yfc aC) fs).depth < recursionLimit) ∧ Room k (A.over (yfc aC) fs).in1)
    (hdC : ∀ h, TD h d → TD h dC) (hdis : ∀ p ∈ ow, p.1 ≠ aC)
    (hend : ∀ (A : Around) (s : Shared), Room (k + 1) A → Gr base d s → On base.objs.size ow [] s → Sg P w A (yfc aC) (leafOf (.ok (.ret .none))) fs s (Pz P w base d (k + 1) REST ow [] s)) :
    ∀ (ysC : List V) (zC : GenState) (pvC : Pv) (gpC : Gv), Strm P w base dC k ysC zC pvC gpC → gC ∉ gpC.map (·.1) → (∀ p ∈ ow, p.1 ∉ pvC.map (·.1)) → aC ∉ pvC.map (·.1) → ∀ (A : Around) (s : Shared) (oC : Obj), Room (k + 1) A → Gr base d s → On base.objs.size (ow ++ (aC, oC) :: pvC) ((gC, zC) :: gpC) s → GObj oC gC 0 →
      Sg P w A (yfc aC) (denote table (yfc aC)) fs s (Pz P w base d (k + 1) (ysC ++ REST) (ow ++ (aC, oC) :: pvC) ((gC, zC) :: gpC) s) := by
  have pre : ∀ (ysC : List V) (zC : GenState) (pvC : Pv) (gpC : Gv), Strm P w base dC k ysC zC pvC gpC → gC ∉ gpC.map (·.1) → ∀ (A : Around) (s : Shared) (oC : Obj), Room (k + 1) A → Gr base d s → On base.objs.size (ow ++ (aC, oC) :: pvC) ((gC, zC) :: gpC) s → GObj oC gC 0 → ∀ {Q : Option Value → Shared → Prop} {E : Value → Shared → Prop},
      (∀ e s1, Pz P w base dC k ysC pvC gpC (s.setGen gC .running) e s1 → match e.result with
        | .yielded v => Q (some v) (s1.setGen gC e.genState)
        | .returned .none => ∀ h' e', StopX e' h' → (∀ b o, s1.heap.get? b = some o → h'.get? b = some o) → s1.heap.objs.size ≤ h'.objs.size → E e' { s1.setGen gC e.genState with heap := h' }
        | _ => False) → wpAny (model2 P w) (A.over (yfc aC) fs) (callSpecial? (.ref aC) "__next__") Q E s := by
    intro ysC zC pvC gpC h ng A s oC hr gr on hO Q E f
    obtain ⟨r1, r2⟩ := hroom A hr
    have ho : s.heap.get? aC = some oC := on.p (aC, oC) (List.mem_append_right _ List.mem_cons_self)
    have hz : s.gens[gC]? = some zC := on.g (gC, zC) List.mem_cons_self
    have gr2 : Gr base dC (s.setGen gC .running) := ⟨gr.kb, gr.sz, allBare_setGen gr.bare rfl, hdC _ gr.td⟩
    have on2 : On base.objs.size pvC gpC (s.setGen gC .running) := ⟨fun p hp => on.lo p (List.mem_append_right _ (List.mem_cons_of_mem _ hp)), fun p hp => on.p p (List.mem_append_right _ (List.mem_cons_of_mem _ hp)), fun p hp => on.nc p (List.mem_append_right _ (List.mem_cons_of_mem _ hp)), fun q hq => by
      have nq : q.1 ≠ gC := fun e => ng (by rw [← e]; exact List.mem_map_of_mem (f := (·.1)) hq)
      rw [setGen_get, if_neg nq]
      exact on.g q (List.mem_cons_of_mem _ hq)⟩
    exact next2 ho hO (md.nolimit.keeps gr.kb) r1.2 r1.1 hz ((h.woke r2 gr2 on2).mono fun e s1 q => ⟨q.1, f e s1 q⟩)
  intro ysC
  induction ysC with
  | nil =>
    intro zC pvC gpC h ng how haC A s oC hr gr on hO
    refine sg_yfTurn X hsp hgd (pre [] zC pvC gpC h ng A s oC hr gr on hO fun e s1 q => ?_)
    obtain ⟨_, q1, q2, pv', t⟩ := q
    rw [q1]
    intro h' e' hS hk hsz
    rw [q2]
    have hz : s.gens[gC]? = some zC := on.g (gC, zC) List.mem_cons_self
    have t1 : Stp (ow ++ (aC, oC) :: pvC) ((gC, zC) :: gpC) (ow ++ (aC, oC) :: pv') [] s (s1.setGen gC .finished) := by
      have q := (Stp.wakeEnd hz t).wide (ow ++ [(aC, oC)]) (ow ++ [(aC, oC)]) rfl
      rw [List.append_assoc, List.append_assoc] at q
      exact q
    have t2 : Stp (ow ++ (aC, oC) :: pv') [] ow [] (s1.setGen gC .finished) { s1.setGen gC .finished with heap := h' } :=
      .heap t1.bare (fun b o e _ => hk b o e) (fun b o _ _ e _ => hk b o e) hsz fun a h => .inl (by rw [List.map_append]; exact List.mem_append_left _ h)
    have t3 := t1.trans t2
    refine ⟨hS, (hend A _ hr (gr.step on t3) ⟨fun p hp => on.lo p (List.mem_append_left _ hp), fun p hp => ?_, fun p hp => on.nc p (List.mem_append_left _ hp), fun q hq => by cases hq⟩).mono fun e s3 z => Pz.back t3 z⟩
    refine hk _ _ (t.keep p.1 p.2 (on.p p (List.mem_append_left _ hp)) (how p hp))
  | cons y r ih =>
    intro zC pvC gpC h ng how haC A s oC hr gr on hO
    refine sg_yfTurn X hsp hgd (pre (y :: r) zC pvC gpC h ng A s oC hr gr on hO fun e s1 q => ?_)
    obtain ⟨q0, v, pv', gp', q1, rv, on1, t, ⟨sg1, sg2⟩, st⟩ := q
    rw [q1]
    have hz : s.gens[gC]? = some zC := on.g (gC, zC) List.mem_cons_self
    have ho : s.heap.get? aC = some oC := on.p (aC, oC) (List.mem_append_right _ List.mem_cons_self)
    have ho1 : s1.heap.get? aC = some oC := t.keep aC oC ho haC
    refine ⟨v, oC, gC, rfl, ho1, hO, fun e' p k' r1 r2 r3 hKY => ?_⟩
    have t1 : Stp (ow ++ (aC, oC) :: pvC) ((gC, zC) :: gpC) (ow ++ (aC, oC) :: pv') ((gC, e.genState) :: gp') s (s1.setGen gC e.genState) := by
      have q := (Stp.wake hz (End.bare_of_quiet q0) t).wide (ow ++ [(aC, oC)]) (ow ++ [(aC, oC)]) rfl
      rw [List.append_assoc, List.append_assoc] at q
      exact q
    have nt : ∀ {n : Int} {o : Obj}, GObj o gC n → ∀ xs m, o.data ≠ .seq xs m := fun h xs m e => by obtain ⟨_, _, q⟩ := h.data; rw [q] at e; cases e
    have t2 : Stp (ow ++ (aC, oC) :: pv') ((gC, e.genState) :: gp') (ow ++ (aC, slotF 1 oC) :: pv') ((gC, e.genState) :: gp') (s1.setGen gC e.genState) { s1.setGen gC e.genState with heap := s1.heap.update aC (slotF 1) } :=
      .upd t1.bare (s := s1.setGen gC e.genState) ho1 (nt hO) (by simp) (by simp)
    have lt : ∀ {b : Addr} {o : Obj}, s.heap.get? b = some o → b ∉ pvC.map (·.1) → b ∉ pv'.map (·.1) := fun {b o} q n h => (t.pnew b h).elim n fun z => absurd (Heap.lt_size q) (Nat.not_lt.mpr z)
    have how' : ∀ p ∈ ow, p.1 ∉ pv'.map (·.1) := fun p hp => lt (on.p p (List.mem_append_left _ hp)) (how p hp)
    have haC' : aC ∉ pv'.map (·.1) := lt ho haC
    have ng' : gC ∉ gp'.map (·.1) := fun h => (t.gpnew gC h).elim ng fun z => by
      rw [setGen_size'] at z
      exact absurd (gens_lt hz) (Nat.not_lt.mpr z)
    have on2 : On base.objs.size (ow ++ (aC, slotF 1 oC) :: pv') ((gC, e.genState) :: gp') { s1.setGen gC e.genState with heap := s1.heap.update aC (slotF 1) } := by
      refine ⟨fun p hp => ?_, fun p hp => ?_, fun p hp => ?_, fun q hq => ?_⟩
      · rcases List.mem_append.mp hp with hp | hp
        · exact on.lo p (List.mem_append_left _ hp)
        · rcases List.mem_cons.mp hp with rfl | hp
          · exact on.lo (aC, oC) (List.mem_append_right _ List.mem_cons_self)
          · exact on1.lo p hp
      rotate_left
      · rcases List.mem_append.mp hp with hp | hp
        · exact on.nc p (List.mem_append_left _ hp)
        · rcases List.mem_cons.mp hp with rfl | hp
          · exact gcell (slotF_obj (m := 1) hO)
          · exact on1.nc p hp
      rotate_left
      · rcases List.mem_append.mp hp with hp | hp
        · exact (Heap.get?_update_other _ _ (Ne.symm (hdis p hp))).trans (t.keep p.1 p.2 (on.p p (List.mem_append_left _ hp)) (how p hp))
        · rcases List.mem_cons.mp hp with rfl | hp
          · exact Heap.get?_update_self _ ho1 (slotF_isFreed hO)
          · exact (Heap.get?_update_other _ _ (fun z => haC' (by rw [z]; exact List.mem_map_of_mem (f := (·.1)) hp))).trans (on1.p p hp)
      · rcases List.mem_cons.mp hq with rfl | hq
        · show (s1.setGen gC e.genState).gens[gC]? = some e.genState
          rw [setGen_get, if_pos rfl]
          have : gC < s1.gens.size := Nat.lt_of_lt_of_le (gens_lt hz) (by have := t.gsize; rw [setGen_size'] at this; exact this)
          rw [Array.getElem?_eq_getElem this]; rfl
        · show (s1.setGen gC e.genState).gens[q.1]? = some q.2
          rw [setGen_get, if_neg (fun z => ng' (by rw [← z]; exact List.mem_map_of_mem (f := (·.1)) hq))]
          exact on1.g q hq
    refine ⟨r1, v, _, _, r2, rv, on2, t1.trans t2, ⟨fun q hq => ?_, by rw [r3]; rfl⟩, Strm.of fun A2 s4 hr4 gr4 on4 => ?_⟩
    · rcases List.mem_cons.mp hq with rfl | hq
      · exact sg2
      · exact sg1 q hq
    rw [r3]
    have ho4 : s4.heap.get? aC = some (slotF 1 oC) := on4.p (aC, slotF 1 oC) (List.mem_append_right _ List.mem_cons_self)
    refine .inr ⟨yfc aC, k', fs, [.none], p, rfl, hKY A2 s4 (slotF 1 oC) gC _ ho4 (slotF_obj hO) ?_⟩
    have t4 : Stp (ow ++ (aC, slotF 1 oC) :: pv') ((gC, e.genState) :: gp') (ow ++ (aC, slotF 0 (slotF 1 oC)) :: pv') ((gC, e.genState) :: gp') s4 { s4 with heap := s4.heap.update aC (slotF 0) } :=
      .upd gr4.bare ho4 (nt (slotF_obj (m := 1) hO)) (by simp) (by simp)
    refine (ih e.genState pv' gp' st ng' how' haC' A2 _ (slotF 0 (slotF 1 oC)) hr4 (gr4.step on4 t4) ⟨fun p hp => ?_, fun p hp => ?_, fun p hp => ?_, fun q hq => on4.g q hq⟩ (slotF_obj (slotF_obj (m := 1) hO))).mono fun e s5 z => Pz.back t4 z
    · rcases List.mem_append.mp hp with hp | hp
      · exact on4.lo p (List.mem_append_left _ hp)
      · rcases List.mem_cons.mp hp with rfl | hp
        · exact on.lo (aC, oC) (List.mem_append_right _ List.mem_cons_self)
        · exact on1.lo p hp
    · rcases List.mem_append.mp hp with hp | hp
      · exact (Heap.get?_update_other _ _ (Ne.symm (hdis p hp))).trans (on4.p p (List.mem_append_left _ hp))
      · rcases List.mem_cons.mp hp with rfl | hp
        · exact Heap.get?_update_self _ ho4 (slotF_isFreed (slotF_obj (m := 1) hO))
        · exact (Heap.get?_update_other _ _ (fun z => haC' (by rw [z]; exact List.mem_map_of_mem (f := (·.1)) hp))).trans (on4.p p (List.mem_append_right _ (List.mem_cons_of_mem _ hp)))
    · rcases List.mem_append.mp hp with hp | hp
      · exact on4.nc p (List.mem_append_left _ hp)
      · rcases List.mem_cons.mp hp with rfl | hp
        · exact gcell (slotF_obj (m := 0) (slotF_obj (m := 1) hO))
        · exact on1.nc p hp
end
end D

/-! `parts` hands out a rule's parts, whatever its consumer does meanwhile. -/
namespace D
open PySem PyProof.Rows L2 GenW
def pIf (q1 q2 q3 q4 q5 q6 q7 q8 q9 q10 : Pos) : Stmt := .If (.Call (.Name "isinstance" q1) [.Name "part" q2, .Name "tuple" q3] [] q4) [.Expr (.YieldFrom (.Call (.Name "parts" q5) [.Name "part" q6] [] q7) q8) q9] [] q10
def pBody (p1 p2 p3 p4 p5 p6 p7 p8 p9 q1 q2 q3 q4 q5 q6 q7 q8 q9 q10 : Pos) : List Stmt :=
  [.Expr (.Yield (some (.Name "rule" p1)) p2) p3, .For (.Name "part" p4) (.Subscript (.Name "rule" p5) (.Slice (some (.Constant (.int 1) 0 p6)) none none p7) p8) [pIf q1 q2 q3 q4 q5 q6 q7 q8 q9 q10] [] p9]
/-- the around of a call over a piece -/
theorem over_depth {A : Around} {c c' : Code} {fs : List Frame} {k : Result → Sem PySem.Fin} {g : Bool} {l kp : List Value} {p : Pos} (hw : c'.weight = 0) : (A.over c' (.ret k none g l c p kp :: fs)).depth = (A.over c fs).depth := by
  show A.depth + frameCount ((c, p) :: fs.map Frame.where_) + c'.weight = A.depth + frameCount (fs.map Frame.where_) + c.weight
  rw [frameCount_cons, hw]; omega
theorem over_units {A : Around} {c c' : Code} {fs : List Frame} {k : Result → Sem PySem.Fin} {g : Bool} {l kp : List Value} {p : Pos} : (A.over c' (.ret k none g l c p kp :: fs)).units = (A.over c fs).units + c'.cUnits := by
  show A.units + unitsOf ((c, p) :: fs.map Frame.where_) + c'.cUnits = A.units + unitsOf (fs.map Frame.where_) + c.cUnits + c'.cUnits
  rw [unitsOf_cons]; omega
theorem yfc_weight (a : Addr) : (yfc a).weight = 0 := by
  unfold yfc
  first | rfl | simp [Code.weight, Code.isCreation, Code.isGuard, Code.isCaller, Code.frames, Code.isFrame, guardIds]
theorem yfc_units (a : Addr) : (yfc a).cUnits ≤ 1 := by
  unfold yfc
  first | exact Nat.le_refl _ | simp [Code.cUnits, Code.frames, Code.isFrame] | decide
theorem kid_room {n : Nat} {A : Around} {c : Code} {fs : List Frame} {env : Env} (hA : A.over c fs = A.deeper env) (hr : Room (n + 1) A) {k : Result → Sem PySem.Fin} {g : Bool} {l kp : List Value} {p : Pos} {a : Addr} :
    ((A.over (yfc a) (.ret k none g l c p kp :: fs)).handled = none ∧ (A.over (yfc a) (.ret k none g l c p kp :: fs)).depth < recursionLimit) ∧ Room n (A.over (yfc a) (.ret k none g l c p kp :: fs)).in1 := by
  have e1 : (A.over (yfc a) (.ret k none g l c p kp :: fs)).handled = none := by
    rw [over_handled, hA]; exact hr.hd
  have e2 : (A.over (yfc a) (.ret k none g l c p kp :: fs)).depth = A.depth + 1 := by
    rw [over_depth (yfc_weight a), hA]; rfl
  have e3 : (A.over (yfc a) (.ret k none g l c p kp :: fs)).units = A.units + 3 + (yfc a).cUnits := by
    rw [over_units, hA]; rfl
  have u := yfc_units a
  have d := hr.dp
  have v := hr.un
  refine ⟨⟨e1, by rw [e2]; omega⟩, e1, ?_, ?_⟩
  · show (A.over (yfc a) (.ret k none g l c p kp :: fs)).depth + 3 * n + 5 < _
    rw [e2]; omega
  · show (A.over (yfc a) (.ret k none g l c p kp :: fs)).units + 1 + 16 * n + 200 < _
    rw [e3]; omega
def NsO (o : Obj) (m : Str → Option Value) : Prop := ∃ es ep, o.data = .dict es ep ∧ StrKeys es ∧ ∀ n, nsFind es n = m n
theorem NsO.ns {h : Heap} {L : Addr} {o : Obj} {m : Str → Option Value} (x : NsO o m) (e : h.get? L = some o) : h.Ns L m := let ⟨es, ep, a, b, c⟩ := x; ⟨o, es, ep, e, a, b, c⟩
theorem NsO.of {h : Heap} {L : Addr} {m : Str → Option Value} (x : h.Ns L m) : ∃ o, h.get? L = some o ∧ NsO o m := let ⟨o, es, ep, e, a, b, c⟩ := x; ⟨o, e, es, ep, a, b, c⟩
theorem NsO.seq {o : Obj} {m : Str → Option Value} (x : NsO o m) : ∀ xs n, o.data ≠ .seq xs n := fun xs n e => by obtain ⟨_, _, a, _⟩ := x; rw [a] at e; cases e
structure ItO (o : Obj) (T : Addr) (i : Nat) : Prop where
  cls : o.cls = .type "tuple_iterator"
  data : o.data = .fields #[.ref T, .int i 0]
theorem ItO.seq {o : Obj} {T : Addr} {i : Nat} (x : ItO o T i) : ∀ xs n, o.data ≠ .seq xs n := fun xs n e => by rw [x.data] at e; cases e
section
variable {P : Program} {w : World} {K : PySem.W.Frag} {mg : Str → Option Value} {base : Heap} {fa L T It : Addr} {cd : Value} {body : List Stmt} {n : Nat} {d : Dt} {p4 q1 q2 q3 q4 q5 q6 q7 q8 q9 q10 fp : Pos} {Kf : Flow → Sem PySem.Fin} {Hf : Value → Sem PySem.Fin}
/-- a generator of a part, as its call leaves it -/
def Kid (P : Program) (w : World) (base : Heap) (fa : Addr) (cd : Value) (body : List Stmt) (n : Nat) (d : Dt) : Prop := ∀ a ks, d = .nd a ks → ∀ (L : Addr) (oL : Obj) (m : Str → Option Value), NsO oL m → m "rule" = some (.ref a) → Strm P w base d n d.ys (.fresh (.func body (pEnv L fa cd))) [(L, oL)] []
theorem loop_seg (X : Cx) (g : Gp K mg base fa cd) (g2 : Gd2 K fa cd body) {its : List Value} {tail : List Dt} (hv : Vals (tail.map Dt.v) its) (hT : ∀ h, TD h d → ∀ kd ∈ tail, TD h kd) (kids : ∀ kd ∈ tail, Kid P w base fa cd body n kd) (oT : Obj) (oTc : oT.cls = .type "tuple") (oTd : ∃ c, oT.data = .seq its.toArray c)
    (hK : Kf .next = leafOf (.ok (.ret .none))) (dLT : L ≠ T) (dLI : L ≠ It) (dTI : T ≠ It) :
    ∀ (rest : List Dt) (i : Nat), rest = tail.drop i → ∀ (A : Around) (s : Shared) (oL oIt : Obj) (m : Str → Option Value), Room (n + 1) A → Gr base d s → On base.objs.size [(L, oL), (T, oT), (It, oIt)] [] s → NsO oL m → ItO oIt T i →
      Sg P w A (.forLoop (.Name "part" p4) (.ref It) [pIf q1 q2 q3 q4 q5 q6 q7 q8 q9 q10] [] (pEnv L fa cd)) (denote table (.forLoop (.Name "part" p4) (.ref It) [pIf q1 q2 q3 q4 q5 q6 q7 q8 q9 q10] [] (pEnv L fa cd)))
        [.ret (backK (pEnv L fa cd) Kf Hf id id) none false [] (.func body (pEnv L fa cd)) fp []] s (Pz P w base d (n + 1) (ysL rest) [(L, oL), (T, oT), (It, oIt)] [] s) := by
  intro rest
  induction rest with
  | nil =>
    intro i hi A s oL oIt m hr gr on hns hit
    have hLo : s.heap.get? L = some oL := on.p (L, oL) (by simp)
    have hTo : s.heap.get? T = some oT := on.p (T, oT) (by simp)
    have hIo : s.heap.get? It = some oIt := on.p (It, oIt) (by simp)
    have ht : IsTup s.heap T its.toArray := ⟨oT, hTo, oTc, oTd⟩
    have hA : ∀ c0, c0 = Code.forLoop (.Name "part" p4) (.ref It) [pIf q1 q2 q3 q4 q5 q6 q7 q8 q9 q10] [] (pEnv L fa cd) → A.over c0 [.ret (backK (pEnv L fa cd) Kf Hf id id) none false [] (.func body (pEnv L fa cd)) fp []] = A.deeper (pEnv L fa cd) := fun c0 e => by
      subst e
      exact (over_loop rfl rfl).trans over_func
    have hx : its.toArray[i]? = none := by
      have hl := hv.length
      rw [List.length_map] at hl
      have : tail.length ≤ i := List.drop_eq_nil_iff.mp hi.symm
      simp; omega
    refine sg_forLoop ?_
    rw [hA _ rfl]
    refine exactly (P := P) (w := w) (with_hz (wpAny_pyNext_tuple_end (s := deadS s) (A := A.deeper (pEnv L fa cd)) hr.hd (show s.heap.IsTupleIter It T i from ⟨oIt, hIo, hit.cls, hit.data⟩) (show s.heap.IsTuple T its.toArray from ht) hx fun h' eb => ?_))
    intro hsz
    refine ⟨h', s.toks, rfl, ?_⟩
    refine sg_leaf (.ok .next) ?_
    show Sg P w A _ (Kf .next) [] _ _
    rw [hK]
    refine sg_end (.ok (.ret .none)) ⟨rfl, rfl, rfl, [], .heap gr.bare (fun b o e nb => eb b o (fun z => nb (by rw [z]; simp)) e) (fun b o xs c e hd => eb b o (fun z => by subst z; rw [hIo] at e; cases e; exact hit.seq _ _ hd) e) hsz fun a h => by cases h⟩
  | cons kd r ih =>
    intro i hi A s oL oIt m hr gr on hns hit
    have hLo : s.heap.get? L = some oL := on.p (L, oL) (by simp)
    have hTo : s.heap.get? T = some oT := on.p (T, oT) (by simp)
    have hIo : s.heap.get? It = some oIt := on.p (It, oIt) (by simp)
    have ht : IsTup s.heap T its.toArray := ⟨oT, hTo, oTc, oTd⟩
    have lim : s.heap.NoLimit := g.mod.nolimit.keeps gr.kb
    have hA : ∀ c0, c0 = Code.forLoop (.Name "part" p4) (.ref It) [pIf q1 q2 q3 q4 q5 q6 q7 q8 q9 q10] [] (pEnv L fa cd) → A.over c0 [.ret (backK (pEnv L fa cd) Kf Hf id id) none false [] (.func body (pEnv L fa cd)) fp []] = A.deeper (pEnv L fa cd) := fun c0 e => by
      subst e
      exact (over_loop rfl rfl).trans over_func
    have hir : r = tail.drop (i + 1) := by
      rw [← List.tail_drop, ← hi]; rfl
    have hki : tail[i]? = some kd := by
      have := congrArg List.head? hi
      rw [List.head?_drop] at this
      exact this.symm
    have hmem : kd ∈ tail := List.mem_of_getElem? hki
    obtain ⟨x, hx, rx⟩ := hv.get (show (tail.map Dt.v)[i]? = some kd.v by rw [List.getElem?_map, hki]; rfl)
    have IH := ih (i + 1) hir
    refine sg_forLoop ?_
    rw [hA _ rfl]
    refine exactly (P := P) (w := w) (wpAny_pyNext_tuple_item (s := deadS s) (A := A.deeper (pEnv L fa cd)) (show s.heap.IsTupleIter It T i from ⟨oIt, hIo, hit.cls, hit.data⟩) (show s.heap.IsTuple T its.toArray from ht) (by simpa using hx) fun h1 hit1 sb1 => ?_)
    refine ⟨h1, s.toks, rfl, ?_⟩
    obtain ⟨oIt1, e1, c1, d1⟩ := id hit1
    refine go_of (s := { s with heap := h1 }) e1 c1 d1 (by decide) ?_
    have hL1 : h1.get? L = some oL := (sb1.2 L dLI).trans hLo
    refine wpAny_assign_Name (wpAny_storeName_local (s := { s with heap := h1 }) (by rfl) (hns.ns hL1) fun h2 hn2 sb2 => ?_)
    obtain ⟨oL2, hL2, hns2⟩ := NsO.of hn2
    have hT2 : h2.get? T = some oT := (sb2.2 T (Ne.symm dLT)).trans ((sb1.2 T dTI).trans hTo)
    have hI2 : h2.get? It = some oIt1 := (sb2.2 It (Ne.symm dLI)).trans e1
    have t1 : ∀ tk, Stp [(L, oL), (T, oT), (It, oIt)] [] [(L, oL2), (T, oT), (It, oIt1)] [] s { s with heap := h2, toks := tk } := fun tk =>
      .heap gr.bare (fun b o e nb => (sb2.2 b (fun z => nb (by rw [z]; exact List.mem_cons_self))).trans ((sb1.2 b (fun z => nb (by rw [z]; simp))).trans e))
        (fun b o xs c e hd => (sb2.2 b (fun z => by subst z; rw [hLo] at e; cases e; exact hns.seq _ _ hd)).trans ((sb1.2 b (fun z => by subst z; rw [hIo] at e; cases e; exact hit.seq _ _ hd)).trans e))
        (by rw [sb2.1, sb1.1]; exact Nat.le_refl _) fun a h => .inl (by simpa using h)
    have lo : ∀ p ∈ [(L, oL2), (T, oT), (It, oIt1)], base.objs.size ≤ p.1 := fun p hp => by
      simp only [List.mem_cons, List.not_mem_nil, or_false] at hp
      rcases hp with rfl | rfl | rfl
      · exact on.lo (L, oL) (by simp)
      · exact on.lo (T, oT) (by simp)
      · exact on.lo (It, oIt) (by simp)
    have nc : ∀ p ∈ [(L, oL2), (T, oT), (It, oIt1)], ∀ v, p.2.data ≠ .cell v := fun p hp => by
      simp only [List.mem_cons, List.not_mem_nil, or_false] at hp
      rcases hp with rfl | rfl | rfl
      · obtain ⟨es, ep, e, _⟩ := hns2
        exact fun v q => by rw [e] at q; cases q
      · obtain ⟨c, e⟩ := oTd
        exact fun v q => by rw [e] at q; cases q
      · exact fun v q => by rw [d1] at q; cases q
    have on2 : ∀ tk, On base.objs.size [(L, oL2), (T, oT), (It, oIt1)] [] { s with heap := h2, toks := tk } := fun tk => ⟨lo, fun p hp => by
      simp only [List.mem_cons, List.not_mem_nil, or_false] at hp
      rcases hp with rfl | rfl | rfl
      · exact hL2
      · exact hT2
      · exact hI2, fun p hp => nc p hp, fun q hq => by cases hq⟩
    have gr2 := fun tk => gr.step on (t1 tk)
    have td2 : TD h2 kd := hT _ (gr2 0).td kd hmem
    have hm2 : (fun y => if y = Str.ofString "part" then some x else m y) "part" = some x := if_pos rfl
    have eY : ysL (kd :: r) = kd.ys ++ ysL r := by rw [ysL]
    rw [eY]
    refine sg_execs_cons (sg_If ?_)
    rw [hA _ rfl]
    cases kd with
    | «at» y =>
      obtain ⟨t, rfl⟩ : ∃ t, x = Value.str y t := rx
      refine ev_test (b := false) g (gr2 0).kb hn2 hm2 ⟨y, t, rfl⟩ fun tk => ?_
      rw [if_neg Bool.false_ne_true]
      have e0 : (Dt.at y).ys = [] := by rw [Dt.ys]
      rw [e0]
      exact (sg_again rfl (IH A _ oL2 oIt1 _ hr (gr2 tk) (on2 tk) hns2 ⟨c1, d1⟩)).mono fun e s z => Pz.back (t1 tk) z
    | nd a' ks' =>
      obtain rfl : x = Value.ref a' := rx
      have hp : PartOf h2 (.ref a') true := by
        cases td2 with
        | nd _ _ its' t _ _ _ _ =>
          obtain ⟨o, e, c, _⟩ := t
          exact ⟨a', rfl, o, e, c⟩
      refine ev_test (b := true) g (gr2 0).kb hn2 hm2 hp fun tk => ?_
      rw [if_pos rfl]
      refine sg_execs_cons (sg_YieldFrom ?_)
      rw [hA _ rfl]
      refine ev_made g g2 (gr2 tk).kb (hr.deeper _).depth hn2 hm2 fun s4 L' a1 M => ?_
      obtain ⟨o', ho', hO', hsl⟩ := M.obj
      refine ⟨a1, o', _, 0, rfl, ho', hO', rfl, hsl, fun p => ?_⟩
      obtain ⟨m', hm', hr'⟩ := M.ns
      obtain ⟨oL', hL', hns'⟩ := NsO.of hm'
      have st := kids _ hmem a' ks' rfl L' oL' m' hns' hr'
      have fresh : ∀ p ∈ [(L, oL2), (T, oT), (It, oIt1)], p.1 < h2.objs.size := fun p hp => Heap.lt_size ((on2 0).p p hp)
      have nL : ∀ p ∈ [(L, oL2), (T, oT), (It, oIt1)], p.1 ≠ L' := fun p hp z => absurd (fresh p hp) (by rw [z]; exact Nat.not_lt.mpr M.Lge)
      have nA : ∀ p ∈ [(L, oL2), (T, oT), (It, oIt1)], p.1 ≠ a1 := fun p hp z => absurd (fresh p hp) (by rw [z]; exact Nat.not_lt.mpr (Nat.le_of_lt (Nat.lt_of_le_of_lt M.Lge M.La)))
      have t4 : Stp [(L, oL2), (T, oT), (It, oIt1)] [] ([(L, oL2), (T, oT), (It, oIt1)] ++ (a1, o') :: [(L', oL')]) [(s.gens.size, .fresh (.func body (pEnv L' fa cd)))] { s with heap := h2, toks := tk } s4 := {
        os := M.os
        keep := fun b o e _ => M.keep b o e
        tup := fun b o _ _ e _ => M.keep b o e
        size := M.le
        gsize := by rw [M.gens, Array.size_push]; exact Nat.le_succ _
        gkeep := fun i z e _ => by
          rw [M.gens, Array.getElem?_push, if_neg (Nat.ne_of_lt (gens_lt e))]; exact e
        gnew := fun i z e => by
          rw [M.gens, Array.getElem?_push] at e
          by_cases hi : i = s.gens.size
          · exact .inr (.inl (by rw [hi]; exact List.mem_singleton.mpr rfl))
          · rw [if_neg hi] at e
            exact .inl ⟨e, by simp⟩
        bare := by rw [M.gens]; exact AllBare.push (gr2 tk).bare rfl
        pnew := fun b h => by
          rw [List.map_append] at h
          rcases List.mem_append.mp h with h | h
          · exact .inl h
          · simp only [List.map_cons, List.map_nil, List.mem_cons, List.not_mem_nil, or_false] at h
            rcases h with rfl | rfl
            · exact .inr (Nat.le_of_lt (Nat.lt_of_le_of_lt M.Lge M.La))
            · exact .inr M.Lge
        gpnew := fun i h => .inr (by
          have : i = s.gens.size := by simpa using h
          rw [this]; exact Nat.le_refl _) }
      have gr4 := (gr2 tk).step (on2 tk) t4
      have on4 : On base.objs.size ([(L, oL2), (T, oT), (It, oIt1)] ++ (a1, o') :: [(L', oL')]) [(s.gens.size, .fresh (.func body (pEnv L' fa cd)))] s4 := by
        refine ⟨fun p hp => ?_, fun p hp => ?_, fun p hp => ?_, fun q hq => ?_⟩
        rotate_left 2
        · rcases List.mem_append.mp hp with hp | hp
          · exact nc p hp
          · simp only [List.mem_cons, List.not_mem_nil, or_false] at hp
            rcases hp with rfl | rfl
            · exact gcell hO'
            · obtain ⟨es, ep, e, _⟩ := hns'
              exact fun v q => by rw [e] at q; cases q
        rotate_left
        · rcases List.mem_append.mp hp with hp | hp
          · exact lo p hp
          · simp only [List.mem_cons, List.not_mem_nil, or_false] at hp
            rcases hp with rfl | rfl
            · exact Nat.le_trans (gr2 tk).sz (Nat.le_of_lt (Nat.lt_of_le_of_lt M.Lge M.La))
            · exact Nat.le_trans (gr2 tk).sz M.Lge
        · rcases List.mem_append.mp hp with hp | hp
          · exact M.keep _ _ ((on2 tk).p p hp)
          · simp only [List.mem_cons, List.not_mem_nil, or_false] at hp
            rcases hp with rfl | rfl
            · exact ho'
            · exact hL'
        · obtain rfl := List.mem_singleton.mp hq
          rw [M.gens, Array.getElem?_push, if_pos rfl]
      refine (yf_seg X g.mod (fs := _) (aC := a1) (gC := s.gens.size) (ow := [(L, oL2), (T, oT), (It, oIt1)]) (REST := ysL r) rfl rfl (fun A1 h1 => ?_) (fun h t => hT h t _ hmem) nA (fun A1 s5 hr5 gr5 on5 => ?_) _ _ [(L', oL')] [] st (by simp) (fun p hp z => nL p hp (by simpa using z)) (fun z => absurd (by simpa using z : a1 = L') (Nat.ne_of_gt M.La)) A s4 o' hr gr4 on4 hO').mono fun e s6 z => Pz.back ((t1 tk).trans t4) z
      · exact kid_room ((over_loop rfl rfl).trans over_func) h1
      · refine sg_leaf (.ok (.ret .none)) ?_
        exact sg_again rfl (IH A1 s5 oL2 oIt1 _ hr5 gr5 on5 hns2 ⟨c1, d1⟩)
end
end D

/-! `parts`: a generator that has not begun, and all that it hands out. -/
namespace D
open PySem PyProof.Rows L2 GenW
section
variable {P : Program} {w : World} {K : PySem.W.Frag} {mg : Str → Option Value} {base : Heap} {fa : Addr} {cd : Value} {p1 p2 p3 p4 p5 p6 p7 p8 p9 q1 q2 q3 q4 q5 q6 q7 q8 q9 q10 : Pos}
theorem parts_strm (X : Cx) (g : Gp K mg base fa cd) (g2 : Gd2 K fa cd (pBody p1 p2 p3 p4 p5 p6 p7 p8 p9 q1 q2 q3 q4 q5 q6 q7 q8 q9 q10)) : ∀ (n : Nat) (d : Dt), Fit n d → Kid P w base fa cd (pBody p1 p2 p3 p4 p5 p6 p7 p8 p9 q1 q2 q3 q4 q5 q6 q7 q8 q9 q10) n d := by
  intro n
  induction n with
  | zero =>
    intro d f a ks e
    subst e
    cases f
  | succ n ih =>
    intro d f a ks e L oL m hns hm
    subst e
    cases f with
    | nd _ _ _ fk =>
    cases ks with
    | nil =>
      refine Strm.of fun A s hr gr on => ?_
      cases gr.td with
      | nd _ _ its _ _ _ ne _ => exact absurd rfl ne
    | cons k0 tail =>
    have eY : (Dt.nd a (k0 :: tail)).ys = .ref a :: ysL tail := by rw [Dt.ys]
    rw [eY]
    refine Strm.of fun A s hr gr on => .inl ⟨_, rfl, ?_⟩
    have hL : s.heap.get? L = some oL := on.p (L, oL) (by simp)
    refine sg_func (sg_execs_cons ?_)
    refine sg_Yield rfl rfl rfl (ev_var (.inl rfl) (hns.ns hL) hm fun e p k r1 r2 r3 wake => ?_)
    refine ⟨r1, .ref a, [(L, oL)], [], r2, rfl, on, .heap gr.bare (fun _ _ e _ => e) (fun _ _ _ _ e _ => e) (Nat.le_refl _) fun _ h => .inl h, ⟨fun q hq => (by cases hq), by rw [r3]; rfl⟩, Strm.of fun A2 s2 hr2 gr2 on2 => ?_⟩
    rw [r3]
    refine .inr ⟨_, k, [], [], p, rfl, wake A2 s2 _ ?_⟩
    refine sg_execs_cons (sg_For ?_)
    rw [over_func]
    have hL2 : s2.heap.get? L = some oL := on2.p (L, oL) (by simp)
    obtain ⟨its, t, z, rv, kids⟩ : ∃ its, IsTup s2.heap a its.toArray ∧ its.length ≤ sizeLine ∧ Vals ((k0 :: tail).map Dt.v) its ∧ ∀ k ∈ k0 :: tail, TD s2.heap k := by
      cases gr2.td with
      | nd _ _ its t z r _ c => exact ⟨its, t, z, r, c⟩
    obtain ⟨x0, its', rfl, rx0, rv'⟩ : ∃ x0 its', its = x0 :: its' ∧ RelV k0.v x0 ∧ Vals (tail.map Dt.v) its' := by
      cases rv with
      | cons a b => exact ⟨_, _, rfl, a, b⟩
    refine ev_rest (hns.ns hL2) hm t z (by simp) fun h' tk T hk hT hsz ⟨oT, eT, cT, dT⟩ => ?_
    refine exactly (P := P) (w := w) (wpAny_pyIter_tuple (s := { deadS s2 with heap := h', toks := tk }) (items := its'.toArray) (show IsTup h' T its'.toArray from ⟨oT, eT, cT, dT⟩) ⟨_, _, rfl, fun p => ?_⟩)
    have hk2 : ∀ b o, s2.heap.get? b = some o → (h'.push { cls := .type "tuple_iterator", data := .fields #[.ref T, .int 0 0] }).get? b = some o := fun b o e => Heap.get?_push_of_some _ (hk b o e)
    have t1 : Stp [(L, oL)] [] [(L, oL), (T, oT), (h'.objs.size, { cls := .type "tuple_iterator", data := .fields #[.ref T, .int 0 0] })] [] s2 { s2 with heap := h'.push { cls := .type "tuple_iterator", data := .fields #[.ref T, .int 0 0] }, toks := tk } :=
      .heap gr2.bare (fun b o e _ => hk2 b o e) (fun b o _ _ e _ => hk2 b o e) (by rw [Heap.size_push]; exact Nat.le_succ_of_le hsz) fun b h => by
        simp only [List.map_cons, List.map_nil, List.mem_cons, List.not_mem_nil, or_false] at h ⊢
        rcases h with rfl | rfl | rfl
        · exact .inl rfl
        · exact .inr hT
        · exact .inr hsz
    have gr3 := gr2.step on2 t1
    have hTi : T < h'.objs.size := Heap.lt_size eT
    have hLt : L < s2.heap.objs.size := Heap.lt_size hL2
    have loL := on2.lo (L, oL) (by simp)
    refine (loop_seg X g g2 (tail := tail) (its := its') (T := T) (It := h'.objs.size) rv' (fun h t kd hkd => ?_) (fun kd hkd => ih kd (fk kd (List.mem_cons_of_mem _ hkd))) oT cT dT rfl (Nat.ne_of_lt (Nat.lt_of_lt_of_le hLt hT)) (Nat.ne_of_lt (Nat.lt_of_lt_of_le hLt hsz)) (Nat.ne_of_lt hTi)
      tail 0 rfl A2 _ oL _ m hr2 gr3 ⟨fun q hq => ?_, fun q hq => ?_, fun q hq => ?_, fun q hq => by cases hq⟩ hns ⟨rfl, rfl⟩).mono fun e s z => Pz.back t1 z
    · cases t with
      | nd _ _ _ _ _ _ _ c => exact c kd (List.mem_cons_of_mem _ hkd)
    · simp only [List.mem_cons, List.not_mem_nil, or_false] at hq
      rcases hq with rfl | rfl | rfl
      · exact loL
      · exact Nat.le_trans gr2.sz hT
      · exact Nat.le_trans gr2.sz hsz
    · simp only [List.mem_cons, List.not_mem_nil, or_false] at hq
      rcases hq with rfl | rfl | rfl
      · exact hk2 _ _ hL2
      · exact Heap.get?_push_of_some _ eT
      · exact Heap.get?_push_size _ rfl
    · simp only [List.mem_cons, List.not_mem_nil, or_false] at hq
      rcases hq with rfl | rfl | rfl
      · obtain ⟨es, ep, e, _⟩ := hns
        exact fun v q => by rw [e] at q; cases q
      · obtain ⟨c, e⟩ := dT
        exact fun v q => by rw [e] at q; cases q
      · exact fun v q => by cases q
end
end D

/-! A walk over `parts`, on the second machine. -/
namespace D
open PySem PyProof.Rows L2
/-- who sleeps goes on sleeping, but for a generator's own -/
structure KeptG (G : Array GenState) (ix : List Nat) (G' : Array GenState) : Prop where
  sleep : ∀ (i : Nat) (z : GenState), G[i]? = some z → susp z = true → G'[i]? = some z
  mark : ∀ (i : Nat) (k : Resume → Sem PySem.Fin) (l : List Value) (c : Code) (p : Pos) (fs : List Frame) (cl : Bool), G'[i]? = some (.suspended k l c p fs cl) → l ≠ [] → G[i]? = some (.suspended k l c p fs cl) ∨ i ∈ ix
  size : G.size ≤ G'.size
  low : ∀ i ∈ ix, G.size ≤ i
theorem KeptG.of {G G' : Array GenState} {ix : List Nat} (h : Kept G G') (l : ∀ i ∈ ix, G.size ≤ i) : KeptG G ix G' := ⟨h.sleep, fun i k v c p fs cl e q => .inl (h.mark i k v c p fs cl e q), h.size, l⟩
theorem KeptG.body {G G1 G2 : Array GenState} {ix : List Nat} (h : KeptG G ix G1) (k : Kept G1 G2) : KeptG G ix G2 :=
  ⟨fun i z e s => k.sleep i z (h.sleep i z e s) s, fun i q v c p fs cl e n => h.mark i q v c p fs cl (k.mark i q v c p fs cl e n) n, Nat.le_trans h.size k.size, h.low⟩
theorem KeptG.step {G : Array GenState} {pv pv' : Pv} {gp gp' : Gv} {g : Nat} {z z' : GenState} {s s' : Shared} (h : KeptG G (g :: gp.map (·.1)) s.gens) (t : Stp pv ((g, z) :: gp) pv' ((g, z') :: gp') s s') : KeptG G (g :: gp'.map (·.1)) s'.gens where
  sleep := fun i x e q => t.gkeep i x (h.sleep i x e q) fun m => absurd (Array.getElem?_eq_some_iff.mp e).1 (Nat.not_lt.mpr (h.low i m))
  mark := fun i k l c p fs cl e q => by
    rcases t.gnew i _ e with ⟨a, b⟩ | a | a
    · exact (h.mark i k l c p fs cl a q).imp id fun m => absurd m b
    · exact .inr a
    · cases a
  size := Nat.le_trans h.size t.gsize
  low := fun i m => (t.gpnew i m).elim (h.low i) fun q => Nat.le_trans h.size q
theorem KeptG.last {G : Array GenState} {pv pv' : Pv} {gp : Gv} {g : Nat} {z : GenState} {s s' : Shared} (h : KeptG G (g :: gp.map (·.1)) s.gens) (t : Stp pv ((g, z) :: gp) pv' [] s s') : Kept G s'.gens where
  sleep := fun i x e q => t.gkeep i x (h.sleep i x e q) fun m => absurd (Array.getElem?_eq_some_iff.mp e).1 (Nat.not_lt.mpr (h.low i m))
  mark := fun i k l c p fs cl e q => by
    rcases t.gnew i _ e with ⟨a, b⟩ | a | a
    · exact (h.mark i k l c p fs cl a q).elim id fun m => absurd m b
    · cases a
    · cases a
  size := Nat.le_trans h.size t.gsize
end D
namespace Y
open PySem PySem.Spec PyProof.Rows L2
open D (model2 Kept Cl Alike deadS KeptG Dt TD Strm On Gr Stp Pv Gv Fit)
/-- a rule's tuples, by the abstract heap -/
inductive DTH (K : PySem.W.Frag) (H : Hp) : Dt → Prop where
  | at (x : Str) : DTH K H (.at x)
  | nd (a : Addr) (ks : List Dt) : SqT K H a (ks.map Dt.v) → ks ≠ [] → (∀ k ∈ ks, DTH K H k) → DTH K H (.nd a ks)
theorem DTH.td {X : Cx} {pins : List (Addr × Obj)} {σ : L2.St} {H : Hp} {s : Shared} {d : Dt} (h : DTH X.K H d) (J : Inv X pins σ H s) : TD s.heap d := by
  induction h with
  | «at» x => exact .at x
  | nd a ks q n _ ih =>
    obtain ⟨its, r, t, z⟩ := J.tuple q
    exact .nd a ks its t (by rw [← r.length]; exact z) r n ih
section
variable {X : Cx}
theorem un_but {fs ch : List Addr} {H : Hp} {h h' : Heap} (k : ∀ b o, h.get? b = some o → b ∉ ch → h'.get? b = some o) : Un fs ch H H h h' :=
  ⟨fun b o e _ _ n => k b o e n, fun b o e _ _ n => ⟨o.slots, k b o e n⟩, fun _ _ _ n _ => n, fun b o e n => ⟨o, k b o e n⟩, fun _ _ e => e, fun _ _ _ e => e, fun b ps e => ⟨#[], by rw [e]; simp⟩⟩
/-- a generator that is being walked -/
structure GSt (X : Cx) (pins : List (Addr × Obj)) (d : Dt) (n : Nat) (a : Addr) (g : Nat) (oG : Obj) (G : Array GenState) (ys : List V) (s : Shared) (H : Hp) (z : GenState) (pv : Pv) (gp : Gv) : Prop where
  kg : KeptG G (g :: gp.map (·.1)) s.gens
  ob : s.heap.get? a = some oG
  go : D.GObj oG g 0
  gz : s.gens[g]? = some z
  on : On X.base.objs.size pv gp s
  ng : g ∉ gp.map (·.1)
  fp : ∀ b ∈ a :: pv.map (·.1), FpOk X pins H b
  na : a ∉ pv.map (·.1)
  st : Strm X.prog X.w X.base d n ys z pv gp
/-- next of it -/
theorem gnext {pins : List (Addr × Obj)} {σ : L2.St} {H : Hp} {s : Shared} {d : Dt} {n : Nat} {a : Addr} {g : Nat} {oG : Obj} {G : Array GenState} {ys : List V} {z : GenState} {pv : Pv} {gp : Gv} {E : Value → Shared → Prop} {Q : Option Value → Shared → Prop} (J : Inv X pins σ H s) (hr : Room (n + 1) X.A) (t : DTH X.K H d) (S : GSt X pins d n a g oG G ys s H z pv gp)
    (h0 : ys = [] → ∀ s', Inv X pins σ H s' → Kept G s'.gens → Q none s')
    (h1 : ∀ y r, ys = y :: r → ∀ v s' z' pv' gp', RelV y v → Inv X pins σ H s' → GSt X pins d n a g oG G r s' H z' pv' gp' → D.susp z' = true → (∀ q ∈ gp', D.susp q.2 = true) → Q (some v) s') : wpAny (model2 X.prog X.w) X.A (pyNext (.ref a)) Q E s := by
  have td : TD s.heap d := t.td J
  have hrg : Gr X.base d (s.setGen g .running) := ⟨J.bk, Nat.le_trans J.ok.bsz (Nat.le_trans J.ok.above (Nat.le_of_lt J.lt)), allBare_setGen J.bare rfl, td⟩
  have hon : On X.base.objs.size pv gp (s.setGen g .running) := ⟨S.on.lo, S.on.p, S.on.nc, fun q hq => by
    have nq : q.1 ≠ g := fun e => S.ng (by rw [← e]; exact List.mem_map_of_mem (f := (·.1)) hq)
    rw [D.setGen_get, if_neg nq]
    exact S.on.g q hq⟩
  have hd : X.A.handled = none := hr.hd
  have step : ∀ {s' : Shared}, s'.os = s.os → AllBare s'.gens → (∀ b o, s.heap.get? b = some o → b ∉ pv.map (·.1) → s'.heap.get? b = some o) → Inv X pins σ H s' := fun {s'} ho hb hk =>
    J.call' (ch := pv.map (·.1)) ho (un_but fun b o e nb => hk b o e nb) (fun b u e => (J.hok b u e).stay (fun c v hc q => hk c v q fun m => by
      have nn := (S.fp c (List.mem_cons_of_mem _ m)).1
      rcases hc with rfl | hc
      · rw [nn] at e; cases e
      · rw [nn] at hc; cases hc) (fun _ q => q) fun _ _ q => q) hb fun b hb => by
      obtain ⟨f0, f1, f2, f3, f4, f5⟩ := S.fp b (List.mem_cons_of_mem _ hb)
      exact ⟨f3, f1, f4, f5⟩
  unfold pyNext
  refine wpAny_bind (wpAny_attempt (D.next2 S.ob S.go J.nolimit (by have := hr.dp; omega) hd S.gz ((S.st.woke hr.in1 hrg hon).mono fun e s1 q => ⟨q.1, ?_⟩)))
  cases ys with
  | nil =>
    obtain ⟨_, q1, q2, pv', tt⟩ := q
    rw [q1, q2]
    intro h' e' hS hk hz
    obtain ⟨x, o, vs, rfl, ho, hc, _, _⟩ := hS
    refine wpAny_bind (wpAny_isInstance (T := "StopIteration") (b := true) ⟨o, ho, hc⟩ isSubtype_stop ?_)
    have t1 := D.Stp.wakeEnd S.gz tt
    have k2 := S.kg.last t1
    exact wpAny_pure (h0 rfl _ (step t1.os t1.bare fun b o e nb => hk b o (t1.keep b o e nb)) k2)
  | cons y r =>
    obtain ⟨q0, v, pv', gp', q1, rv, on1, tt, ⟨sg1, sg2⟩, st⟩ := q
    rw [q1]
    have t1 := D.Stp.wake S.gz (End.bare_of_quiet q0) tt
    have J1 : Inv X pins σ H (s1.setGen g e.genState) := step t1.os t1.bare fun b o e nb => t1.keep b o e nb
    have ng' : g ∉ gp'.map (·.1) := fun h => (tt.gpnew g h).elim S.ng fun z => by
      rw [D.setGen_size'] at z
      exact absurd (D.gens_lt S.gz) (Nat.not_lt.mpr z)
    refine wpAny_pure (h1 y r rfl v _ e.genState pv' gp' rv J1 ⟨S.kg.step t1, t1.keep a oG S.ob S.na, S.go, ?_, ⟨on1.lo, on1.p, on1.nc, fun q hq => ?_⟩, ng', fun b hb => ?_, fun h => (t1.pnew a h).elim S.na fun z => absurd (Heap.lt_size S.ob) (Nat.not_lt.mpr z), st⟩ sg2 sg1)
    · rw [D.setGen_get, if_pos rfl]
      have : g < s1.gens.size := Nat.lt_of_lt_of_le (D.gens_lt S.gz) (by have := tt.gsize; rw [D.setGen_size'] at this; exact this)
      rw [Array.getElem?_eq_getElem this]; rfl
    · rw [D.setGen_get, if_neg (fun z => ng' (by rw [← z]; exact List.mem_map_of_mem (f := (·.1)) hq))]
      exact on1.g q hq
    · rcases List.mem_cons.mp hb with rfl | hb
      · exact S.fp _ List.mem_cons_self
      · rcases t1.pnew b hb with m | m
        · exact S.fp b (List.mem_cons_of_mem _ m)
        · exact J.fpOk m (J.hok.fresh m)
/-- a body has run meanwhile -/
theorem GSt.kept {pins : List (Addr × Obj)} {σ : L2.St} {H H' : Hp} {s s' : Shared} {d : Dt} {n : Nat} {a : Addr} {g : Nat} {oG : Obj} {G : Array GenState} {ys : List V} {z : GenState} {pv : Pv} {gp : Gv} (S : GSt X pins d n a g oG G ys s H z pv gp) (k : Kept s.gens s'.gens) (hz : D.susp z = true) (hg : ∀ q ∈ gp, D.susp q.2 = true)
    (J : Inv X (pins ++ pinsAt (a :: pv.map (·.1)) s.heap) σ H' s') : GSt X pins d n a g oG G ys s' H' z pv gp := by
  have pin : ∀ b ∈ a :: pv.map (·.1), ∀ o, s.heap.get? b = some o → s'.heap.get? b = some o ∧ H' b = none := fun b hb o e =>
    let q := J.pin (b, o) (List.mem_append_right _ (List.mem_append_right _ (mem_pinsAt hb e)))
    ⟨q.1, q.2.1⟩
  refine ⟨S.kg.body k, (pin a List.mem_cons_self oG S.ob).1, S.go, k.sleep g z S.gz hz, ⟨S.on.lo, fun p hp => (pin p.1 (List.mem_cons_of_mem _ (List.mem_map_of_mem (f := (·.1)) hp)) p.2 (S.on.p p hp)).1, S.on.nc, fun q hq => k.sleep q.1 q.2 (S.on.g q hq) (hg q hq)⟩, S.ng, fun b hb => ?_, S.na, S.st⟩
  have ⟨_, f1⟩ := S.fp b hb
  refine ⟨?_, f1⟩
  rcases List.mem_cons.mp hb with rfl | hb'
  · exact (pin _ hb oG S.ob).2
  · obtain ⟨p, hp, rfl⟩ := List.mem_map.mp hb'
    exact (pin _ hb p.2 (S.on.p p hp)).2
theorem GSt.obj {pins : List (Addr × Obj)} {H : Hp} {s : Shared} {d : Dt} {n : Nat} {a : Addr} {g : Nat} {oG : Obj} {G : Array GenState} {ys : List V} {z : GenState} {pv : Pv} {gp : Gv} (S : GSt X pins d n a g oG G ys s H z pv gp) : ∀ b ∈ a :: pv.map (·.1), ∃ o, s.heap.get? b = some o ∧ ∀ v, o.data ≠ .cell v := fun b hb => by
  rcases List.mem_cons.mp hb with rfl | hb
  · exact ⟨oG, S.ob, D.gcell S.go⟩
  · obtain ⟨p, hp, rfl⟩ := List.mem_map.mp hb
    exact ⟨p.2, S.on.p p hp, S.on.nc p hp⟩
end
end Y

/-! Comprehensions and loops over a generator, on the second machine. -/
namespace Y
open PySem PySem.Spec PyProof.Rows L2
open D (model2 Kept Cl Alike deadS KeptG Dt TD Strm On Gr Stp Pv Gv Fit)
/-- the walk over what a generator hands out -/
def Itd (K : PySem.W.Frag) (d : Dt) : It := ⟨fun i H => DTH K H d ∧ i < d.ys.length, fun i H y H' => H' = H ∧ d.ys[i]? = some y, fun i H => DTH K H d ∧ d.ys.length ≤ i⟩
/-- an expression whose value is a generator that has not begun -/
structure PIg (X : Cx) (iter : Expr) (t : TI) : Prop where
  run : ∀ (pins : List (Addr × Obj)) (s : Shared) (σ : L2.St) (H : Hp) (R : It → Hp → Prop), Inv X pins σ H s → t σ H R → ∀ G, Kept G s.gens → wpAny (model2 X.prog X.w) X.A (eval iter X.env) (fun v s' => Kept G s'.gens ∧ ∃ a g oG d n z pv H', v = .ref a ∧ Inv X pins σ H' s' ∧ Room (n + 1) X.A ∧ oG.slots = #[] ∧ G.size ≤ g ∧ (∃ c, z = .fresh c) ∧
    s'.heap.get? a = some oG ∧ D.GObj oG g 0 ∧ s'.gens[g]? = some z ∧ On X.base.objs.size pv [] s' ∧ (∀ b ∈ a :: pv.map (·.1), FpOk X pins H' b) ∧ a ∉ pv.map (·.1) ∧ Strm X.prog X.w X.base d n d.ys z pv [] ∧ R (Itd X.K d) H') (KQ G X.xe) s
section
variable {X : Cx}
theorem lc_coreG {pins : List (Addr × Obj)} {s : Shared} {σ : L2.St} {H : Hp} {Q : VK} {elt tg iter : Expr} {ifs : List Expr} {scope : Scope} {own : List (Str × Nat)} {pos pos' : Pos} {wi : TI} {g : TG} {tt : TT} {te : TE} {use : Option (Value → Sem Unit)} {Qf : Value → Shared → Prop} {G : Array GenState}
    (gg : Kept G s.gens) (hc : X.calm = true) (hN : X.N.Nodup) (J : Inv X pins σ H s) (hi : PIg X iter wi) (ok : BlkOk X.N X.env.scope scope own)
    (hg : ∀ (s : Shared) (H : Hp) (C : Addr) (cl : List (Str × Addr)) (fp : List Addr), PG (X.blk s H scope (compEnvC scope cl C X.env) fp) tg g)
    (ht : ∀ (s : Shared) (H : Hp) (C : Addr) (cl : List (Str × Addr)) (fp : List Addr), PTs (X.blk s H scope (compEnvC scope cl C X.env) fp) ifs tt)
    (he : ∀ (s : Shared) (H : Hp) (C : Addr) (cl : List (Str × Addr)) (fp : List Addr), PE (X.blk s H scope (compEnvC scope cl C X.env) fp) elt te) (hs : ∀ x, foldedSetIterable iter X.env x = pure x)
    (h : tLc wi g tt te (own.map (·.2)) σ H Q)
    (hRR : ∀ L C s' m H', Kept G s'.gens → Inv X pins σ H' s' → Q (.ref L) H' → s'.heap.Ns C m → FpOk X pins H' C → compPost (model2 X.prog X.w) X.A (KQ G X.xe) use Qf (.ref L) C (.ok .next) s') :
    wpAny (model2 X.prog X.w) X.A (comprehension (.ListComp elt [⟨tg, iter, ifs, 0⟩] scope pos) scope X.env pos' (newList []) false (eval iter X.env) use) Qf (KQ G X.xe) s := by
  have hfree : ∀ y ∈ scope.names, y.2 = .free → ∃ c, X.env.cells.lookup y.1 = some c := fun y hy e => (ok.free y hy e).elim (fun k => J.ok.has _ (.inl k)) fun k => J.ok.has _ (.inr k)
  refine wpAny_comprehension_free (use := use) rfl hs (closure_ok hfree) ok.kind (fun y hy e => by rw [ok.uniq y hy, e])
    (wpAny_mono (hi.run pins s σ H _ J h G gg) (fun xv s2 h1 => ?_) fun _ _ z => z)
  obtain ⟨g2, it, gi, oG, d, nn, z0, pv0, H2, rfl, J2, hR, hsl, hgi, ⟨c0, hz0⟩, hob, hGo, hgz, hon, f2, hna, hst, q⟩ := h1
  obtain ⟨nm, qn, hdat⟩ := hGo.data
  refine D.exactly (P := X.prog) (w := X.w) (wpAny_pyIter_gen (s := deadS s2) (g := gi) ⟨oG, nm, qn, hob, hGo.cls, hdat, hsl⟩ ⟨s2.heap, s2.toks, rfl, ?_⟩)
  have obj0 : ∀ b ∈ it :: pv0.map (·.1), ∃ o, s2.heap.get? b = some o := fun b hb => by
    rcases List.mem_cons.mp hb with rfl | hb
    · exact ⟨oG, hob⟩
    · obtain ⟨p, hp, rfl⟩ := List.mem_map.mp hb
      exact ⟨p.2, hon.p p hp⟩
  generalize hfp : it :: pv0.map (·.1) = fp at f2 obj0
  refine wpAny_newObj_type (newEnv_comp ?_) (by show 0 ≤ sizeLine; decide)
  generalize hL : s2.heap.objs.size = L
  have hLn : H2 L = none := J2.hok.fresh (Nat.le_of_eq hL)
  obtain ⟨W, ⟨m0, w0⟩, turn⟩ := q L hLn
  generalize hs3 : ({ s2 with heap := s2.heap.push { cls := .type "list", data := .seq ([] : List Value).toArray } } : Shared) = s3
  have J3 : Inv X pins σ (upd H2 L (.lst [])) s3 := by
    rw [← hs3]
    refine J2.laid (t' := s2.toks) (fun b o e => Heap.get?_push_of_some _ e) (Nat.le_of_eq hL) ⟨Nat.zero_le _, [], 0, .nil, ?_⟩
    rw [← hL]; exact Heap.get?_push_size _ rfl
  have g3 : Kept G s3.gens := by rw [← hs3]; exact g2
  have h3 : s3.heap = s2.heap.push { cls := .type "list", data := .seq ([] : List Value).toArray } := by rw [← hs3]
  have f3 : ∀ b ∈ fp, FpOk X pins (upd H2 L (.lst [])) b ∧ b < s3.heap.objs.size := fun b hb => by
    obtain ⟨o, e⟩ := obj0 b hb
    have hlt := Heap.lt_size e
    refine ⟨⟨?_, (f2 b hb).2⟩, by rw [h3, Heap.size_push]; exact Nat.lt_succ_of_lt hlt⟩
    rw [upd_ne (by rw [← hL]; exact Nat.ne_of_lt hlt)]
    exact (f2 b hb).1
  have k3 : ∀ b o, s2.heap.get? b = some o → s3.heap.get? b = some o := fun b o e => by rw [h3]; exact Heap.get?_push_of_some _ e
  have gs3 : s3.gens = s2.gens := by rw [← hs3]
  have J4 := block_start J3 ok hN f3
  have pg := hg s3 (upd H2 L (.lst [])) s3.heap.objs.size (cellsFrom (s3.heap.objs.size + 1) scope.names (cloFrom X.env.cells scope.names [])) fp
  have pt := ht s3 (upd H2 L (.lst [])) s3.heap.objs.size (cellsFrom (s3.heap.objs.size + 1) scope.names (cloFrom X.env.cells scope.names [])) fp
  have pe := he s3 (upd H2 L (.lst [])) s3.heap.objs.size (cellsFrom (s3.heap.objs.size + 1) scope.names (cloFrom X.env.cells scope.names [])) fp
  show codeAny _ _ (.compStart (.ListComp elt [⟨tg, iter, ifs, 0⟩] scope pos) 0 (.ref it) (.ref L) (compEnvC scope (cellsFrom (s3.heap.objs.size + 1) scope.names (cloFrom X.env.cells scope.names [])) s3.heap.objs.size X.env))
    (compPost (model2 X.prog X.w) X.A (KQ G X.xe) use Qf (.ref L) s3.heap.objs.size) { s3 with heap := pushCells (s3.heap.push { cls := .type "dict", data := .dict #[] }) scope.names }
  have nfp : ∀ b ∈ fp, (upd H2 L (.lst [])) b = none := fun b hb => (f3 b hb).1.1
  generalize hce : compEnvC scope (cellsFrom (s3.heap.objs.size + 1) scope.names (cloFrom X.env.cells scope.names [])) s3.heap.objs.size X.env = ce at J4 pg pt pe ⊢
  have cL : ce.locals = s3.heap.objs.size := by subst hce; rfl
  generalize hH3 : upd H2 L (.lst []) = H3 at J3 J4 pg pt pe w0 nfp f3
  generalize hs4 : ({ s3 with heap := pushCells (s3.heap.push { cls := .type "dict", data := .dict #[] }) scope.names } : Shared) = s4 at J4 ⊢
  have g4 : Kept G s4.gens := by rw [← hs4]; exact g3
  have k4 : ∀ b o, s2.heap.get? b = some o → s4.heap.get? b = some o := fun b o e => by rw [← hs4]; exact pushCells_keeps _ _ _ _ (Heap.get?_push_of_some _ (k3 b o e))
  have gs4 : s4.gens = s2.gens := by rw [← hs4]; exact gs3
  have nxe : ∀ e s, (X.blk s3 H3 scope ce fp).xe e s → False := fun _ _ z => z
  have stat : ∀ {σ' : L2.St} {H' : Hp} {s' : Shared}, Inv (X.blk s3 H3 scope ce fp) [] σ' H' s' → (∀ b ∈ fp, H' b = none) → ∀ b ∈ fp, FpOk (X.blk s3 H3 scope ce fp) [] H' b := fun {σ' H' s'} J' hn b hb =>
    ⟨hn b hb, (J'.ok.exf b hb).1, J'.ok.exfs b hb, .inl hb, fun y c e => (J'.ok.exf b hb).2 y c e, fun p hp => absurd (show p ∈ ([] : List (Addr × Obj)) ++ [] from hp) (by simp)⟩
  have hr4 : Room (nn + 1) (X.blk s3 H3 scope ce fp).A := hR
  have S0 : GSt (X.blk s3 H3 scope ce fp) [] d nn it gi oG G d.ys s4 H3 z0 pv0 [] := by
    refine ⟨.of g4 fun i m => ?_, k4 it oG hob, hGo, by rw [gs4]; exact hgz, ⟨hon.lo, fun p hp => k4 _ _ (hon.p p hp), hon.nc, fun q hq => by cases hq⟩, by simp, fun b hb => ?_, hna, hst⟩
    · obtain rfl : i = gi := by simpa using m
      exact hgi
    · rw [hfp] at hb
      exact stat J4 nfp b hb
  have loop : codeAny (model2 X.prog X.w) X.A (.compLoop (.ListComp elt [⟨tg, iter, ifs, 0⟩] scope pos) 0 (.ref it) (.ref L) ce) (compPost (model2 X.prog X.w) X.A (KQ G X.xe) use Qf (.ref L) s3.heap.objs.size) s4 := by
    refine D.compLoopD (fun n s' => ∃ i H' z pv gp, Inv (X.blk s3 H3 scope ce fp) [] (wipe σ (own.map (·.2))) H' s' ∧ GSt (X.blk s3 H3 scope ce fp) [] d nn it gi oG G (d.ys.drop i) s' H' z pv gp ∧ W i n H') ?_ m0 ⟨0, H3, z0, pv0, [], J4, S0, w0⟩
    rintro n s5 ⟨i, H5, z5, pv5, gp5, J5, S5, w5⟩
    rcases turn i n H5 w5 with ⟨stop, qq⟩ | ⟨go, Nx, hNx, step⟩
    · refine gnext (X := X.blk s3 H3 scope ce fp) J5 hr4 stop.1 S5 (fun _ s6 J6 g6 => ?_) fun y r e => ?_
      · have J7 : Inv X pins σ H5 s6 := J3.call' (ch := fp) J6.os J6.base J6.hok J6.bare fun b hb => ⟨(f3 b hb).1.2.2.2.1, (f3 b hb).1.2.1, (f3 b hb).1.2.2.2.2.1, (f3 b hb).1.2.2.2.2.2⟩
        have nC : H5 s3.heap.objs.size = none := by
          have z : H5 ce.locals = none := J6.free
          rw [cL] at z; exact z
        obtain ⟨m, hn, _⟩ := J6.loc
        have hn : s6.heap.Ns ce.locals m := hn
        rw [cL] at hn
        exact hRR L s3.heap.objs.size s6 m H5 g6 J7 qq hn (J3.fpOk (Nat.le_refl _) nC)
      · have := stop.2
        rw [List.drop_eq_nil_of_le this] at e
        cases e
    · refine gnext (X := X.blk s3 H3 scope ce fp) J5 hr4 go.1 S5 (fun e => ?_) fun y r e v s7 z7 pv7 gp7 rv J7 S7 hz7 hg7 => ?_
      · exact absurd go.2 (Nat.not_lt.mpr (List.drop_eq_nil_iff.mp e))
      have hy : d.ys[i]? = some y := by
        have := congrArg List.head? e
        rw [List.head?_drop] at this
        exact this
      have hr7 : r = d.ys.drop (i + 1) := by rw [← List.tail_drop, e]; rfl
      subst hr7
      obtain ⟨o7, n7, e7, c7, d7⟩ : ∃ o n, s7.heap.get? it = some o ∧ o.cls = .type "generator" ∧ o.data = .fields n := by
        obtain ⟨a1, a2, a3⟩ := S7.go.data
        exact ⟨oG, _, S7.ob, S7.go.cls, a3⟩
      refine go_of e7 c7 d7 (by decide) ?_
      have J7' := J7.pinned S7.fp S7.obj
      refine (pg.run _ s7 _ H5 y v _ J7' rv (step y H5 ⟨rfl, hy⟩)).thF nxe (Kept.refl _) fun _ s8 g8 ⟨σ8, H8, J8, hw8, q8⟩ => ?_
      refine (pt.run _ s8 σ8 H8 _ J8 q8).thF nxe g8 fun b s9 g9 ⟨H9, J9, q9⟩ => ?_
      have fin : ∀ {s' : Shared} {H' : Hp}, Kept s7.gens s'.gens → Inv (X.blk s3 H3 scope ce fp) ([] ++ pinsAt (it :: pv7.map (·.1)) s7.heap) σ8 H' s' → Nx H' → ∃ m, m < n ∧ ∃ i H' z pv gp, Inv (X.blk s3 H3 scope ce fp) [] (wipe σ (own.map (·.2))) H' s' ∧ GSt (X.blk s3 H3 scope ce fp) [] d nn it gi oG G (d.ys.drop i) s' H' z pv gp ∧ W i m H' := fun {s' H'} g' J' nx => by
        obtain ⟨m', hm, w'⟩ := hNx H' nx
        have hl : (wipe σ (own.map (·.2))).length = σ8.length := by rw [← hw8, wipe_length]
        refine ⟨m', hm, i + 1, H', z7, pv7, gp7, (J'.unpinned (pins := [])).weak hl (fun j v e => ?_), S7.kept g' hz7 hg7 J', w'⟩
        rw [← hw8] at e
        exact (wipe_some e).1
      cases b with
      | false =>
        simp only [Bool.false_eq_true, if_false] at q9 ⊢
        exact fin g9 J9 q9
      | true =>
        simp only [if_true] at q9 ⊢
        refine (pe.run _ s9 σ8 H9 _ J9 q9).thF nxe g9 fun z s10 g10 ⟨yv, H10, J10, r10, acc, hD10, hz10, nxt⟩ => ?_
        exact (appQ (X := X.blk s3 H3 scope ce fp) J10 hD10 hz10 r10).thF nxe g10 fun _ s11 g11 J11 => fin g11 J11 nxt
  exact D.compStartD loop (D.exactly (P := X.prog) (w := X.w) (wpAny_pyIter_gen (s := deadS s4) (g := gi) ⟨oG, nm, qn, S0.ob, hGo.cls, hdat, hsl⟩ ⟨s4.heap, s4.toks, rfl, loop⟩))
theorem pe_lcG {elt tg iter : Expr} {ifs : List Expr} {scope : Scope} {own : List (Str × Nat)} {pos : Pos} {wi : TI} {g : TG} {tt : TT} {te : TE} (hc : X.calm = true) (hN : X.N.Nodup) (hi : PIg X iter wi) (ok : BlkOk X.N X.env.scope scope own)
    (hg : ∀ (s : Shared) (H : Hp) (C : Addr) (cl : List (Str × Addr)) (fp : List Addr), PG (X.blk s H scope (compEnvC scope cl C X.env) fp) tg g)
    (ht : ∀ (s : Shared) (H : Hp) (C : Addr) (cl : List (Str × Addr)) (fp : List Addr), PTs (X.blk s H scope (compEnvC scope cl C X.env) fp) ifs tt)
    (he : ∀ (s : Shared) (H : Hp) (C : Addr) (cl : List (Str × Addr)) (fp : List Addr), PE (X.blk s H scope (compEnvC scope cl C X.env) fp) elt te) (hs : ∀ x, foldedSetIterable iter X.env x = pure x := by intro _; rfl) :
    PE X (.ListComp elt [⟨tg, iter, ifs, 0⟩] scope pos) (tLc wi g tt te (own.map (·.2))) := by
  refine ⟨fun pins s σ H Q J h G gg => ?_⟩
  rw [eval_ListComp]
  refine lc_coreG gg hc hN J hi ok hg ht he hs h fun L C s' m H' g' J' q hn f => ⟨m, hn, fun h'' sb => ?_⟩
  obtain ⟨f0, f1, f2, f3, f4, f5⟩ := f
  exact ⟨g', .ref L, H', J'.turned (t' := s'.toks) (fun b o hb e => (sb.2 b hb).trans e) f0 f1 f3 f4 f5, rfl, q⟩
theorem ps_setLcG {i : Nat} {y : Str} {py : Pos} {elt tg iter : Expr} {ifs : List Expr} {scope : Scope} {own : List (Str × Nat)} {pos spos : Pos} {wi : TI} {g : TG} {tt : TT} {te : TE} (hc : X.calm = true) (hN : X.N.Nodup) (hy : X.N[i]? = some y) (hyl : X.env.scope.names.lookup y = some .local)
    (hsw : swapsWith (.ListComp elt [⟨tg, iter, ifs, 0⟩] scope pos) (some (.Name y py)) spos.line X.env = pure true) (hi : PIg X iter wi) (ok : BlkOk X.N X.env.scope scope own)
    (hg : ∀ (s : Shared) (H : Hp) (C : Addr) (cl : List (Str × Addr)) (fp : List Addr), PG (X.blk s H scope (compEnvC scope cl C X.env) fp) tg g)
    (ht : ∀ (s : Shared) (H : Hp) (C : Addr) (cl : List (Str × Addr)) (fp : List Addr), PTs (X.blk s H scope (compEnvC scope cl C X.env) fp) ifs tt)
    (he : ∀ (s : Shared) (H : Hp) (C : Addr) (cl : List (Str × Addr)) (fp : List Addr), PE (X.blk s H scope (compEnvC scope cl C X.env) fp) elt te) (hs : ∀ x, foldedSetIterable iter X.env x = pure x := by intro _; rfl) :
    PS X (.Assign [.Name y py] (.ListComp elt [⟨tg, iter, ifs, 0⟩] scope pos) spos) (tAsg (tLc wi g tt te (own.map (·.2))) (gName i)) := by
  refine ⟨fun pins s σ H En J h G gg => ?_⟩
  rw [exec_Assign_Name_used _ _ _ _ hsw]
  refine wpAny_bind (wpAny_standAt (wpAny_bind ?_))
  show wpAny _ X.A (do let _ ← comprehension (.ListComp elt [⟨tg, iter, ifs, 0⟩] scope pos) scope X.env (firstIterPos [⟨tg, iter, ifs, 0⟩] pos) (newList []) false (eval iter X.env) (some (assign (.Name y py) X.env))) _ _ s
  have h : tLc wi g tt te (own.map (·.2)) σ H (fun z H1 => gName i z σ H1 En.nx) := h
  refine wpAny_bind (wpAny_mono (lc_coreG (Qf := fun _ => KQ G (SP X pins En) .next) gg hc hN J hi ok hg ht he hs h fun L C s' m H' g' J' q hn f => ?_) (fun _ s' hq => wpAny_pure (wpAny_pure hq)) fun _ _ z => z)
  show wpAny _ _ (assign (.Name y py) X.env (.ref L)) _ _ _
  have lf : wpAny (model X.prog X.w) X.A (storeName X.env y (.ref L)) (fun _ s2 => Inv X pins (σ.set i (some (V.ref L))) H' s2 ∧ ∃ a, Heap.SameBut a s'.heap s2.heap ∧ (a = X.env.locals ∨ X.env.cells.lookup y = some a)) (fun _ _ => False) (deadS s') :=
    store_ok2 (v := V.ref L) (inv_dead J') hN hy (.inl hyl) rfl (fun s2 J2 z => ⟨J2, z⟩) (.inr hyl)
  refine wpAny_assign_Name ((wq.of lf (fun _ _ _ al ⟨j, a, sb, ha⟩ => ⟨inv_alike j al, a, by rw [al.heap]; exact sb, ha⟩)).th g' fun _ s2 g2 ⟨J2, a, sb, ha⟩ => ?_)
  obtain ⟨f0, f1, f2, f3, f4, f5⟩ := f
  have haC : C ≠ a := by
    rcases ha with z | z
    · rw [z]; exact f1
    · exact fun e => f4 y a z e.symm
  refine ⟨m, hn.sameBut sb haC, fun h3 sb3 => ⟨g2, _, H', J2.turned (t' := s2.toks) (fun b o hb e => (sb3.2 b hb).trans e) f0 f1 f3 f4 f5, q⟩⟩

/-- a loop over a generator is not left early -/
def tForG (wi : TI) (g : TG) (tb u : TS) : TS := fun D σ H => wi σ H fun J H1 => ∃ W : Nat → Nat → L2.St → Hp → Prop, (∃ m, W 0 m σ H1) ∧ ∀ i m σ H, W i m σ H →
  (J.stop i H ∧ u D σ H) ∨ (J.go i H ∧ ∃ N : L2.St → Hp → Prop, (∀ σ' H', N σ' H' → ∃ m', m' < m ∧ W (i + 1) m' σ' H') ∧ ∀ x H', J.yld i H x H' → g x σ H' fun σ2 H2 => tb { D with nx := N, ct := N, bk := fun _ _ => False, rt := fun _ _ => False } σ2 H2)
theorem ps_forG (nxe : ∀ e s, X.xe e s → False) {iter tg : Expr} {body orelse : List Stmt} {pos : Pos} {wi : TI} {g : TG} {tb u : TS} (hp : PassesK X) (hc : X.calm = true) (hi : PIg X iter wi) (hg : PG X tg g) (hb : PSs X body tb) (ho : PSs X orelse u)
    (hs : ∀ x, foldedSetIterable iter X.env x = pure x := by intro _; rfl) : PS X (.For tg iter body orelse pos) (tForG wi g tb u) := by
  refine ⟨fun pins s σ H En J q G gg => wpAny_For (wpAny_mono (hi.run pins s σ H _ J q G gg) (fun v s2 h1 => ?_) fun _ _ z => z) hs⟩
  obtain ⟨g2, it, gi, oG, d, nn, z0, pv0, H2, rfl, J2, hR, hsl, hgi, ⟨c0, hz0⟩, hob, hGo, hgz, hon, f2, hna, hst, W, ⟨m0, w0⟩, turn⟩ := h1
  obtain ⟨nm, qn, hdat⟩ := hGo.data
  refine D.exactly (P := X.prog) (w := X.w) (wpAny_pyIter_gen (s := deadS s2) (g := gi) ⟨oG, nm, qn, hob, hGo.cls, hdat, hsl⟩ ⟨s2.heap, s2.toks, rfl, ?_⟩)
  have S0 : GSt X pins d nn it gi oG G d.ys s2 H2 z0 pv0 [] :=
    ⟨.of g2 fun i m => (by
      obtain rfl : i = gi := by simpa using m
      exact hgi), hob, hGo, hgz, hon, by simp, f2, hna, hst⟩
  refine D.forLoop2 (fun n s' => ∃ i σ' H' z pv gp, Inv X pins σ' H' s' ∧ GSt X pins d nn it gi oG G (d.ys.drop i) s' H' z pv gp ∧ W i n σ' H') ?_ m0 ⟨0, σ, H2, z0, pv0, [], J2, S0, w0⟩
  rintro n s3 ⟨i, σ3, H3, z3, pv3, gp3, J3, S3, w3⟩
  rcases turn i n σ3 H3 w3 with ⟨stop, qn⟩ | ⟨go, N, hN, step⟩
  · refine gnext J3 hR stop.1 S3 (fun _ s4 J4 g4 => ?_) fun y r e => ?_
    · exact wpAny_passesOwn (hp G) ((ho.run pins s4 σ3 H3 En J4 qn).th g4 fun f s5 g5 q5 => ⟨g5, q5⟩)
    · rw [List.drop_eq_nil_of_le stop.2] at e
      cases e
  · refine gnext J3 hR go.1 S3 (fun e => absurd go.2 (Nat.not_lt.mpr (List.drop_eq_nil_iff.mp e))) fun y r e v s5 z5 pv5 gp5 rv J5 S5 hz5 hg5 => ?_
    have hy : d.ys[i]? = some y := by
      have := congrArg List.head? e
      rw [List.head?_drop] at this
      exact this
    have hr5 : r = d.ys.drop (i + 1) := by rw [← List.tail_drop, e]; rfl
    subst hr5
    obtain ⟨o7, n7, e7, c7, d7⟩ : ∃ o n, s5.heap.get? it = some o ∧ o.cls = .type "generator" ∧ o.data = .fields n := by
      obtain ⟨a1, a2, a3⟩ := S5.go.data
      exact ⟨oG, _, S5.ob, S5.go.cls, a3⟩
    refine go_of e7 c7 d7 (by decide) ?_
    have J5' := J5.pinned S5.fp S5.obj
    refine (hg.run _ s5 σ3 H3 y v _ J5' rv (step y H3 ⟨rfl, hy⟩)).thF nxe (Kept.refl _) fun _ s6 g6 ⟨σ6, H6, J6, q6⟩ => ?_
    refine (hb.run _ s6 σ6 H6 _ J6 q6).thF nxe g6 fun f s7 g7 q7 => ?_
    have again : ∀ {σ7 : L2.St} {H7 : Hp}, Inv X (pins ++ pinsAt (it :: pv5.map (·.1)) s5.heap) σ7 H7 s7 → N σ7 H7 → ∃ m, m < n ∧ ∃ i σ' H' z pv gp, Inv X pins σ' H' s7 ∧ GSt X pins d nn it gi oG G (d.ys.drop i) s7 H' z pv gp ∧ W i m σ' H' := fun {σ7 H7} J7 n7 => by
      obtain ⟨m', hm, w7⟩ := hN σ7 H7 n7
      exact ⟨m', hm, i + 1, σ7, H7, z5, pv5, gp5, J7.unpinned, S5.kept g7 hz5 hg5 J7, w7⟩
    cases f with
    | next => obtain ⟨σ7, H7, J7, n7⟩ := q7; exact again J7 n7
    | cont => obtain ⟨σ7, H7, J7, n7⟩ := q7; exact again J7 n7
    | brk => obtain ⟨σ7, H7, J7, q7⟩ := q7; exact q7.elim
    | ret v => obtain ⟨x7, σ7, H7, J7, r7, q7⟩ := q7; exact q7.elim
end
end Y

/-! Where one stands, calls, arguments. -/
namespace Y
open PySem PySem.Spec PyProof.Rows L2
open D (model2 Kept Cl Alike deadS)
/-- the layer's wish of an error, as ours -/
def EKof (G : Gd) (E : XK) : EK := fun x H I => ∃ C, G.mg x.cls = some (.ref C) ∧ ∀ d vs, H d = some (.xd vs) → RFs G H I x.fs vs → E (.ref C) (some d) H
/-- how arguments come in -/
abbrev Bdr := Shared → Args → List (Str × Value) → Prop
/-- a def's own way -/
def BF (fd : FuncData) : Bdr := fun s args bs => BindsTo s fd args bs
structure FnG (P : Program) (w : World) (K : PySem.W.Frag) (mg : Str → Option Value) (base : Heap) (CX : CXT) (k : Nat) (f : Addr) (fd : Bdr) (ps : List Str) (sp : Sp) : Prop where
  len : ∀ vs H Q E, sp vs H Q E → vs.length = ps.length
  run : ∀ (A : Around) (outer : List Env) (s : Shared) (H : Hp) (args : Args) (us : List Value) (vs : List V) (Q : VK) (E : XK) (G : Array GenState), Room (k + 12) A → A.guards = some [] → Env0 P w K mg base A outer s H → fd s args (ps.zip us) → Vals vs us → sp vs H Q E → Kept G s.gens →
    codeAny (model2 P w) A (.call (.ref f) args) (fun r s' => Kept G s'.gens ∧ CR CX outer P w H s Q E r s') s
theorem FnG.mono {P : Program} {w : World} {K : PySem.W.Frag} {mg : Str → Option Value} {base : Heap} {CX : CXT} {j k : Nat} {f : Addr} {fd : Bdr} {ps : List Str} {sp : Sp} (F : FnG P w K mg base CX j f fd ps sp) (h : j ≤ k) : FnG P w K mg base CX k f fd ps sp :=
  ⟨F.len, fun A outer s H args us vs Q E G hr => F.run A outer s H args us vs Q E G (hr.mono (by omega))⟩
def spZ (G : Gd) (call : Cf) (f : Str) (n : Nat) : Sp := fun vs H Q E => ∃ I S ws, Rel G H I S ∧ RWs G H I ws vs ∧ ws.length = n ∧ RE G (EKof G E) H I (kV' G Q) (call f ws S)
/-- a def of the table as it stands behind the top -/
structure CalF (K : PySem.W.Frag) (mg : Str → Option Value) (f : Str) (fi : Fi) (fa : Addr) (fd : Bdr) : Prop where
  mg : mg f = some (.ref fa)
  kp : PySem.W.keepIn K (.ref fa) = true
  bind : ∀ (s : Shared) (us : List Value), us.length = fi.ps.length → fd s ⟨us, []⟩ (fi.ps.zip us)
  kws : ∀ (n : Nat) (ks : List Str), (n, ks) ∈ fi.kws → n + ks.length = fi.ps.length ∧ ∀ us ws : List Value, us.length = n → ws.length = ks.length → (ordK fi.ps ks us ws).length = fi.ps.length ∧ ∀ s : Shared, fd s ⟨us, ks.zip ws⟩ (fi.ps.zip (ordK fi.ps ks us ws))
/-- the module's values: a thing of the written part, or a built-in type -/
def GOk (K : PySem.W.Frag) (mg : Str → Option Value) (P : Pg) : Prop := ∀ x w, P.G x = some w →
  (∃ u v, mg x = some u ∧ RelV v u ∧ ∀ ww H I, RW ⟨K, mg, ww⟩ H I w v) ∨ (∃ n, w = .ty n ∧ mg x = none ∧ bootBuiltins x = some (.type n))
/-- what the written part says of an own error's class -/
structure ErC (K : PySem.W.Frag) (c : Addr) (x : Str) : Prop where
  cl : (PySem.W.clsIn K c).isSome = true
  ga : PySem.W.findIn K (.ref c) "__getattribute__" = some (some (.builtin "BaseException.__getattribute__"))
  gt : PySem.W.findIn K (.ref c) "__getattr__" = some none
  ex : PySem.W.subIn K (.ref c) (.type "BaseException") = some true
  hd : PySem.W.hasDictIn K c = true
  ha : PySem.W.findIn K (.ref c) "__class__" = some (some (.builtin "object.__class__"))
  hn : PySem.W.specialIn K (.builtin "object.__class__") "__get__" = some (some (.builtin "getset_descriptor.__get__"))
  ht : PySem.W.takesIn K (.builtin "object.__class__") = some true
  hm : PySem.W.mroIn K c (.type "object") = some true
  no : PySem.W.findIn K (.ref c) x = some none
/-- a class as a value -/
def clsAt (mg : Str → Option Value) : W → Value → Prop
  | .glo y, v => ∃ d, mg y = some (.ref d) ∧ v = .ref d
  | .ty n, v => v = .type n
  | _, _ => False
def ErsOk (P : Pg) (K : PySem.W.Frag) (mg : Str → Option Value) : Prop := ∀ C x, P.er C = some x → ∃ c, mg C = some (.ref c) ∧ ErC K c x
def IsaOk (P : Pg) (K : PySem.W.Frag) (mg : Str → Option Value) : Prop := ∀ C D b, P.isa C D = some b → ∃ c x v, mg C = some (.ref c) ∧ ErC K c x ∧ clsAt mg D v ∧ PySem.W.kitOne K (.ref c) v = some b
/-- where one stands -/
structure Cz (P : Pg) (call : Cf) (CX : CXT) (k : Nat) (sx : Sx) (G : Gd) (E : XK) (X : Cx) : Prop where
  hN : X.N = sx.N
  nd : sx.N.Nodup
  sc : X.env.scope = sx.sc
  kind : X.env.scope.kind = .function
  K : G.K = X.K
  mg : G.mg = X.mg
  wd : G.w = X.w
  calm : X.calm = true
  room : Room (k + 12) X.A
  grd : X.A.guards = some []
  sys : Sys X.base
  fn : ∀ x, sx.fn x = true → X.fn x = true
  glb : GOk X.K X.mg P
  bi : ∀ x ∈ ("range" : Str) :: builtins, P.F x = none → X.mg x = none
  en : P.en = true → X.mg "enumerate" = none
  er : ErsOk P X.K X.mg
  isa : IsaOk P X.K X.mg
  cal : ∀ f fi, P.F f = some fi → ∃ fa fd, CalF X.K X.mg f fi fa fd ∧ FnG X.prog X.w X.K X.mg X.base CX k fa fd fi.ps (spZ G call f fi.ps.length)
  px : Passes CX X E
  nx : ∀ e s, X.xe e s → False
  gn : P.gn = true → ∃ fa cd p1 p2 p3 p4 p5 p6 p7 p8 p9 q1 q2 q3 q4 q5 q6 q7 q8 q9 q10, D.Gp X.K X.mg X.base fa cd ∧ D.Gd2 X.K fa cd (D.pBody p1 p2 p3 p4 p5 p6 p7 p8 p9 q1 q2 q3 q4 q5 q6 q7 q8 q9 q10)
  p0 : ∀ (outer : List Env) (H : Hp) (s : Shared) (e : Value) (s' : Shared), CX outer H s (fun _ _ _ => False) e s' → False

/-! ### readings -/
def tE (G : Gd) (E : EK) (r : En → So → Res W) : TE := fun σ H Q => ∃ I S e, Rel G H I S ∧ RS G H I e σ ∧ RE G E H I (kV' G Q) (r e S)
def tAs (G : Gd) (E : EK) (r : En → So → Res (List W)) : TA := fun σ H Q => ∃ I S e, Rel G H I S ∧ RS G H I e σ ∧ RE G E H I (kVs G Q) (r e S)
def tT (G : Gd) (E : EK) (r : En → So → Res Bool) : TT := fun σ H Q => ∃ I S e, Rel G H I S ∧ RS G H I e σ ∧ RE G E H I (kB Q) (r e S)
theorem PE.of {X : Cx} {e : Expr} {t t' : TE} (h : PE X e t) (w : ∀ σ H Q, t' σ H Q → t σ H Q) : PE X e t' := ⟨fun pins s σ H Q J q => h.run pins s σ H Q J (w _ _ _ q)⟩
theorem PT.of {X : Cx} {e : Expr} {t t' : TT} (h : PT X e t) (w : ∀ σ H Q, t' σ H Q → t σ H Q) : PT X e t' := ⟨fun pins s σ H Q J q => h.run pins s σ H Q J (w _ _ _ q)⟩
theorem PA.of {X : Cx} {e : List Expr} {t t' : TA} (h : PA X e t) (w : ∀ σ H Q, t' σ H Q → t σ H Q) : PA X e t' := ⟨fun pos pins s σ H Q J q => h.run pos pins s σ H Q J (w _ _ _ q)⟩
/-- a rule chosen by the reading -/
theorem PE.by {X : Cx} {e : Expr} {t : TE} (h : ∀ σ H Q, t σ H Q → ∃ t', PE X e t' ∧ t' σ H Q) : PE X e t := ⟨fun pins s σ H Q J q => by
  obtain ⟨t', p, q'⟩ := h _ _ _ q
  exact p.run pins s σ H Q J q'⟩
theorem PE.never {X : Cx} {e : Expr} {t : TE} (h : ∀ σ H Q, t σ H Q → False) : PE X e t := ⟨fun _ _ σ H Q _ q => (h σ H Q q).elim⟩
section
variable {G : Gd} {E : EK} {σ : L2.St} {H : Hp}
/-- the first of two steps -/
theorem tE.step {α : Type} {k : AK α} {I : Ix} {S : So} {e : En} {r : En → So → Res W} {f : W → So → Res α} {Q : VK} (rl : Rel G H I S) (rs : RS G H I e σ) (h : RE G E H I k ((r e S).bind f))
    (c : ∀ w S' H' I' v, Keep H I H' I' → Rel G H' I' S' → RW G H' I' w v → RE G E H' I' k (f w S') → Q v H') : tE G E r σ H Q :=
  ⟨I, S, e, rl, rs, (RE.bind h).imp fun w S' H' I' k2 r2 q v hv => c w S' H' I' v k2 r2 hv q⟩
theorem tAs.step {α : Type} {k : AK α} {I : Ix} {S : So} {e : En} {r : En → So → Res (List W)} {f : List W → So → Res α} {Q : List V → Hp → Prop} (rl : Rel G H I S) (rs : RS G H I e σ) (h : RE G E H I k ((r e S).bind f))
    (c : ∀ w S' H' I' v, Keep H I H' I' → Rel G H' I' S' → RWs G H' I' w v → RE G E H' I' k (f w S') → Q v H') : tAs G E r σ H Q :=
  ⟨I, S, e, rl, rs, (RE.bind h).imp fun w S' H' I' k2 r2 q v hv => c w S' H' I' v k2 r2 hv q⟩
theorem tT.step {α : Type} {k : AK α} {I : Ix} {S : So} {e : En} {r : En → So → Res Bool} {f : Bool → So → Res α} {Q : Bool → Hp → Prop} (rl : Rel G H I S) (rs : RS G H I e σ) (h : RE G E H I k ((r e S).bind f))
    (c : ∀ w S' H' I', Keep H I H' I' → Rel G H' I' S' → RE G E H' I' k (f w S') → Q w H') : tT G E r σ H Q :=
  ⟨I, S, e, rl, rs, (RE.bind h).imp fun w S' H' I' k2 r2 q => c w S' H' I' k2 r2 q⟩
end
/-! ### arguments -/
theorem starE {e : Expr} {es : List Expr} {env : Env} (h : isStar e = false) : starEach (e :: es) env = (false, eval e env) :: starEach es env := by
  cases e <;> first | rfl | cases h
theorem plainS {pos : Pos} {env : Env} : ∀ {es : List Expr}, es.all (fun e => !isStar e) = true → (backTo pos (starEach es env)).any (·.1) = false
  | [], _ => rfl
  | e :: es, h => by
    rw [List.all_cons, Bool.and_eq_true] at h
    rw [starE (by simpa using h.1)]
    show (false || (backTo pos (starEach es env)).any (·.1)) = false
    rw [plainS h.2]; rfl
section
variable {X : Cx} {G : Gd} {E : EK} {f : Expr → En → So → Res W}
theorem pa_Z (hf : ∀ x, PE X x (tE G E (f x))) (hs : ∀ x e S, isStar x = true → f x e S = .bad) : ∀ es : List Expr, PA X es (tAs G E fun e S => evL (fun x => f x e) es S)
  | [] => pa_nil.of fun σ H Q ⟨I, S, e, rl, rs, h⟩ => RE.now (k := kVs G Q) h rl [] .nil
  | x :: es => by
    by_cases hx : isStar x = true
    · refine ⟨fun pos pins s σ H Q J ⟨I, S, e, rl, rs, h⟩ => ?_⟩
      have h2 : RE G E H I (kVs G Q) ((f x e S).bind fun w S1 => (evL (fun x => f x e) es S1).bind fun ws S2 => .ok (w :: ws) S2) := h
      rw [hs x e S hx] at h2
      exact False.elim h2
    · have hx' : isStar x = false := by simpa using hx
      refine (pa_cons (hf x) (pa_Z hf hs es) (starE hx')).of fun σ H Q ⟨I, S, e, rl, rs, h⟩ => ?_
      unfold evL at h
      refine tE.step rl rs h fun w S1 H1 I1 v k1 rl1 hv h1 => ?_
      refine tAs.step (S := S1) rl1 (rs.mono k1) h1 fun ws S2 H2 I2 vs k2 rl2 hvs h2 => ?_
      exact RE.now (k := kVs G Q) h2 rl2 (v :: vs) (.cons (hv.mono k2) hvs)
theorem pk_Z (hf : ∀ x, PE X x (tE G E (f x))) : ∀ es : List Keyword, PK X es (tAs G E fun e S => evK (fun x => f x e) es S)
  | [] => ⟨fun pos pins s σ H Q J ⟨I, S, e, rl, rs, h⟩ => pk_nil.run pos pins s σ H Q J (RE.now (k := kVs G Q) h rl [] .nil)⟩
  | ⟨nm, x, kp⟩ :: es => ⟨fun pos pins s σ H Q J ⟨I, S, e, rl, rs, h⟩ => by
      refine (pk_cons (nm := nm) (kpos := kp) (hf x) (pk_Z hf es)).run pos pins s σ H Q J ?_
      unfold evK at h
      refine tE.step rl rs h fun w S1 H1 I1 v k1 rl1 hv h1 => ?_
      refine tAs.step (S := S1) rl1 (rs.mono k1) h1 fun ws S2 H2 I2 vs k2 rl2 hvs h2 => ?_
      exact RE.now (k := kVs G Q) h2 rl2 (v :: vs) (.cons (hv.mono k2) hvs)⟩
theorem evL_len : ∀ {es : List Expr} {g : Expr → So → Res W} {S S' : So} {ws : List W}, evL g es S = .ok ws S' → ws.length = es.length
  | [], g, S, S', ws, h => by unfold evL at h; cases h; rfl
  | x :: es, g, S, S', ws, h => by
    unfold evL at h
    cases q : g x S with
    | ok w S1 =>
      rw [q] at h
      cases q2 : evL g es S1 with
      | ok r S2 =>
        simp only [Res.bind, q2] at h
        cases h
        simp [evL_len q2]
      | exn _ _ => simp only [Res.bind, q2] at h; cases h
      | bad => simp only [Res.bind, q2] at h; cases h
    | exn _ _ => rw [q] at h; cases h
    | bad => rw [q] at h; cases h
end
/-! ### the order of keyword arguments -/
section
variable {α β : Type} {R : α → β → Prop}
theorem look_zip : ∀ {ks : List Str} {ws : List α} {us : List β} (p : Str), Paired R ws us → (∃ w u, (ks.zip ws).lookup p = some w ∧ (ks.zip us).lookup p = some u ∧ R w u) ∨ ((ks.zip ws).lookup p = none ∧ (ks.zip us).lookup p = none)
  | [], _, _, _, _ => .inr ⟨rfl, rfl⟩
  | k :: ks, _, _, p, .nil => .inr ⟨rfl, rfl⟩
  | k :: ks, _, _, p, .cons (a := a) (b := b) h t => by
    simp only [List.zip_cons_cons, List.lookup_cons]
    cases e : p == k with
    | true => exact .inl ⟨a, b, rfl, rfl, h⟩
    | false => exact look_zip p t
theorem Paired.app : ∀ {a c : List α} {b d : List β}, Paired R a b → Paired R c d → Paired R (a ++ c) (b ++ d)
  | _, _, _, _, .nil, q => q
  | _, _, _, _, .cons h t, q => .cons h (Paired.app t q)
theorem ord_pair {ps ks : List Str} {us ws : List α} {vs zs : List β} (a : Paired R us vs) (b : Paired R ws zs) : Paired R (ordK ps ks us ws) (ordK ps ks vs zs) := by
  unfold ordK
  have hl : us.length = vs.length := Paired.length a
  rw [hl]
  refine Paired.app a ?_
  induction ps.drop vs.length with
  | nil => exact .nil
  | cons p r ih =>
    rcases look_zip (ks := ks) p b with ⟨w, u, e1, e2, h⟩ | ⟨e1, e2⟩
    · rw [List.filterMap_cons, List.filterMap_cons, e1, e2]; exact .cons h ih
    · rw [List.filterMap_cons, List.filterMap_cons, e1, e2]; exact ih
end
theorem RWs.paired {G : Gd} {H : Hp} {I : Ix} : ∀ {ws : List W} {vs : List V}, RWs G H I ws vs → Paired (RW G H I) ws vs
  | [], _, h => by rw [h.inv0]; exact .nil
  | w :: ws, _, h => by
    obtain ⟨v, r, rfl, h1, h2⟩ := h.inv
    exact .cons h1 (RWs.paired h2)
theorem RWs.ofP {G : Gd} {H : Hp} {I : Ix} : ∀ {ws : List W} {vs : List V}, Paired (RW G H I) ws vs → RWs G H I ws vs
  | _, _, .nil => .nil
  | _, _, .cons h t => .cons h (RWs.ofP t)
end Y

/-! Calls. -/
namespace Y
open PySem PySem.Spec PyProof.Rows L2
open D (model2 Kept Cl Alike deadS)
section
variable {P : Pg} {call : Cf} {CX : CXT} {k : Nat} {sx : Sx} {G : Gd} {E : XK} {X : Cx}
theorem Cz.gl (C : Cz P call CX k sx G E X) {x : Str} (h : sx.sc.names.lookup x = some .globalImplicit) : Gl X x := by
  show X.env.scope.names.lookup x = _
  rw [C.sc]; exact h
theorem okN_d {x : Str} (h : okN x = true) : (x == ("__debug__" : Str)) = false ∧ (x == ("__classdict__" : Str)) = false ∧ x ≠ "__name__" := by
  unfold okN at h
  simp only [Bool.and_eq_true, Bool.not_eq_true', decide_eq_false_iff_not] at h
  exact ⟨h.1.1, h.1.2, h.2⟩
theorem run_own (C : Cz P call CX k sx G E X) {fa : Addr} {fd : Bdr} {ps : List Str} {sp : Sp} (F : FnG X.prog X.w X.K X.mg X.base CX k fa fd ps sp) {pins : List (Addr × Obj)} {σ : L2.St} {H : Hp} {s : Shared} {Q : VK} {us us' : List Value} {kw : List (Str × Value)} {vs : List V}
    (J : Inv X pins σ H s) (bt : fd s ⟨us, kw⟩ (ps.zip us')) (r : Vals vs us') (h : sp vs H Q E) : wq X (PySem.call (.ref fa) us kw) (EP X pins σ Q) s := by
  refine fun G0 g0 => wpAny_call (codeAny_mono (F.run X.A X.stack s H ⟨us, kw⟩ us' vs Q E G0 C.room C.grd J.env0 bt r h g0) fun res t hq => ?_)
  obtain ⟨g1, hq⟩ := hq
  cases res with
  | error e => exact ⟨g1, C.px pins σ H s e t J hq⟩
  | ok fl =>
    cases fl with
    | ret u => exact ⟨g1, J.after hq⟩
    | next => exact False.elim hq
    | brk => exact False.elim hq
    | cont => exact False.elim hq
theorem kw_names : ∀ {kws : List Keyword} {pos : Pos} {env : Env}, (kws.map (·.arg)).all (·.isSome) = true → (backToKw pos (keywordEach kws env)).all (·.1.isSome) = true ∧ (backToKw pos (keywordEach kws env)).any (·.1.isNone) = false ∧
    (backToKw pos (keywordEach kws env)).filterMap (·.1) = (kws.map (·.arg)).filterMap id
  | [], _, _, _ => ⟨rfl, rfl, rfl⟩
  | ⟨nm, x, kp⟩ :: r, pos, env, h => by
    simp only [List.map_cons, List.all_cons, Bool.and_eq_true] at h
    obtain ⟨a, b, c⟩ := kw_names (kws := r) (pos := pos) (env := env) h.2
    cases nm with
    | none => cases h.1
    | some y =>
      refine ⟨?_, ?_, ?_⟩
      · show ((some y).isSome && (backToKw pos (keywordEach r env)).all (·.1.isSome)) = true
        rw [a]; rfl
      · show ((some y).isNone || (backToKw pos (keywordEach r env)).any (·.1.isNone)) = false
        rw [b]; rfl
      · show y :: (backToKw pos (keywordEach r env)).filterMap (·.1) = _
        rw [c]; rfl
theorem fin0 (C : Cz P call CX k sx G E X) {f : Str} {fi : Fi} {sp : Sp} {fa : Addr} {fd : Bdr} (cf : CalF X.K X.mg f fi fa fd) (F : FnG X.prog X.w X.K X.mg X.base CX k fa fd fi.ps sp) {pins : List (Addr × Obj)} {σ : L2.St} {H : Hp} {s : Shared} {Q : VK} {us : List Value} {vs : List V}
    (J : Inv X pins σ H s) (r : Vals vs us) (hl : vs.length = fi.ps.length) (q : sp vs H Q E) : wq X (PySem.call (.ref fa) us []) (EP X pins σ Q) s :=
  run_own C F J (cf.bind s us (by rw [← r.length]; exact hl)) r q
theorem fin1 (C : Cz P call CX k sx G E X) {f : Str} {fi : Fi} {sp : Sp} {fa : Addr} {fd : Bdr} (cf : CalF X.K X.mg f fi fa fd) (F : FnG X.prog X.w X.K X.mg X.base CX k fa fd fi.ps sp) {pins : List (Addr × Obj)} {σ : L2.St} {H : Hp} {s : Shared} {Q : VK} {us ws : List Value} {vs zs : List V} {ks : List Str}
    (J : Inv X pins σ H s) (r : Vals vs us) (rz : Vals zs ws) (hm : (vs.length, ks) ∈ fi.kws) (hl : zs.length = ks.length) (q : sp (ordK fi.ps ks vs zs) H Q E) : wq X (PySem.call (.ref fa) us (ks.zip ws)) (EP X pins σ Q) s := by
  obtain ⟨_, hb⟩ := cf.kws _ _ hm
  obtain ⟨_, hb⟩ := hb us ws r.length.symm (by rw [← rz.length]; exact hl)
  exact run_own C F J (hb s) (ord_pair r rz) q
section
variable {f : Str} {fi : Fi} {p pos : Pos} {e : Expr} {es : List Expr} {kws : List Keyword} {ta tk : TA} {sp : Sp} {fa : Addr} {fd : Bdr}
theorem own0 (C : Cz P call CX k sx G E X) (hok : okN f = true) (hg : sx.sc.names.lookup f = some .globalImplicit) (cf : CalF X.K X.mg f fi fa fd) (F : FnG X.prog X.w X.K X.mg X.base CX k fa fd fi.ps sp) :
    PE X (.Call (.Name f p) [] [] pos) (fun σ H Q => 0 = fi.ps.length ∧ sp [] H Q E) := by
  refine ⟨fun pins s σ H Q J ⟨hl, q⟩ G0 g0 => ?_⟩
  refine wpAny_Call_Name_kw (ldG J (C.gl hg) cf.mg ?_ (okN_d hok).1)
  exact PySem.W.callWith_K0 (K := X.K) J.kIn cf.kp (fin0 C cf F J .nil hl q G0 g0)
theorem own1 (C : Cz P call CX k sx G E X) (hok : okN f = true) (hg : sx.sc.names.lookup f = some .globalImplicit) (cf : CalF X.K X.mg f fi fa fd) (F : FnG X.prog X.w X.K X.mg X.base CX k fa fd fi.ps sp) (ha : PA X (e :: es) ta) (hst : (e :: es).all (fun e => !isStar e) = true) :
    PE X (.Call (.Name f p) (e :: es) [] pos) (fun σ H Q => ta σ H fun vs H1 => vs.length = fi.ps.length ∧ sp vs H1 Q E) := by
  refine ⟨fun pins s σ H Q J h G0 g0 => ?_⟩
  rw [List.all_cons, Bool.and_eq_true] at hst
  refine wpAny_Call_Name_kw (ldG J (C.gl hg) cf.mg ?_ (okN_d hok).1)
  exact PySem.W.callWith_K (h₀ := X.base) J.ok.mod.kin cf.kp ((ha.run pos pins s σ H _ J h).th g0 fun us s1 g1 ⟨vs, H1, J1, rv, hl, q⟩ => ⟨J1.kIn, fin0 C cf F J1 rv hl q G0 g1⟩) (starE (by simpa using hst.1)) (plainS hst.2)
theorem own2 (C : Cz P call CX k sx G E X) (hok : okN f = true) (hg : sx.sc.names.lookup f = some .globalImplicit) (cf : CalF X.K X.mg f fi fa fd) (F : FnG X.prog X.w X.K X.mg X.base CX k fa fd fi.ps sp) (hk : PK X kws tk) (hkw : (kws.map (·.arg)).all (·.isSome) = true) :
    PE X (.Call (.Name f p) [] kws pos) (fun σ H Q => tk σ H fun zs H1 => (0, (kws.map (·.arg)).filterMap id) ∈ fi.kws ∧ zs.length = ((kws.map (·.arg)).filterMap id).length ∧ sp (ordK fi.ps ((kws.map (·.arg)).filterMap id) [] zs) H1 Q E) := by
  refine ⟨fun pins s σ H Q J h G0 g0 => ?_⟩
  obtain ⟨n1, n2, n3⟩ := kw_names (pos := pos) (env := X.env) hkw
  refine wpAny_Call_Name_kw (ldG J (C.gl hg) cf.mg ?_ (okN_d hok).1)
  refine PySem.W.callWith_KW0 (h₀ := X.base) J.ok.mod.kin cf.kp n1 ((hk.run pos pins s σ H _ J h).th g0 fun ws s1 g1 ⟨zs, H1, J1, rz, hm, hl, q⟩ => ⟨J1.kIn, ?_⟩) (by show (false || _) = false; rw [n2]; rfl)
  rw [n3]
  exact fin1 (us := []) (vs := []) C cf F J1 .nil rz hm hl q G0 g1
theorem own3 (C : Cz P call CX k sx G E X) (hok : okN f = true) (hg : sx.sc.names.lookup f = some .globalImplicit) (cf : CalF X.K X.mg f fi fa fd) (F : FnG X.prog X.w X.K X.mg X.base CX k fa fd fi.ps sp) (ha : PA X (e :: es) ta) (hst : (e :: es).all (fun e => !isStar e) = true) (hk : PK X kws tk) (hkw : (kws.map (·.arg)).all (·.isSome) = true) :
    PE X (.Call (.Name f p) (e :: es) kws pos) (fun σ H Q => ta σ H fun vs H1 => tk σ H1 fun zs H2 => (vs.length, (kws.map (·.arg)).filterMap id) ∈ fi.kws ∧ zs.length = ((kws.map (·.arg)).filterMap id).length ∧ sp (ordK fi.ps ((kws.map (·.arg)).filterMap id) vs zs) H2 Q E) := by
  refine ⟨fun pins s σ H Q J h G0 g0 => ?_⟩
  obtain ⟨n1, n2, n3⟩ := kw_names (pos := pos) (env := X.env) hkw
  have hpl := plainS (pos := pos) (env := X.env) hst
  rw [List.all_cons, Bool.and_eq_true] at hst
  refine wpAny_Call_Name_kw (ldG J (C.gl hg) cf.mg ?_ (okN_d hok).1)
  refine PySem.W.callWith_KW (h₀ := X.base) J.ok.mod.kin cf.kp n1 ((ha.run pos pins s σ H _ J h).th g0 fun us s1 g1 ⟨vs, H1, J1, rv, q1⟩ => (hk.run pos pins s1 σ H1 _ J1 q1).th g1 fun ws s2 g2 ⟨zs, H2, J2, rz, hm, hl, q⟩ => ⟨J2.kIn, ?_⟩) (by rw [hpl, n2]; rfl) (starE (by simpa using hst.1))
  rw [n3]
  exact fin1 C cf F J2 rv rz hm hl q G0 g2
end
end
end Y

/-! Expressions: what the reader answers, the program answers. -/
namespace Y
open PySem PySem.Spec PyProof.Rows L2
open D (model2 Kept Cl Alike deadS)
theorem idx_ok {N : List Str} {x : Str} {i : Nat} (h : idx N x = some i) : N[i]? = some x := by
  unfold idx at h
  obtain ⟨hl, h1, _⟩ := List.findIdx?_eq_some_iff_getElem.mp h
  rw [List.getElem?_eq_getElem hl]
  exact congrArg some (of_decide_eq_true h1)
theorem slot_ok {e : En} {i : Nat} {w : W} (h : slot e i = some w) : e[i]? = some (some w) := by
  unfold slot at h
  split at h
  · rename_i q; cases h; exact q
  · cases h
theorem vis_ok {sc : Scope} {x : Str} (h : isVis (sc.names.lookup x) = true) : Vis sc x := by
  unfold Vis
  cases e : sc.names.lookup x with
  | none => rw [e] at h; cases h
  | some k => cases k <;> first | exact .inl rfl | exact .inr (.inl rfl) | exact .inr (.inr rfl) | (rw [e] at h; cases h)
section
variable {P : Pg} {call : Cf} {CX : CXT} {k : Nat} {sx : Sx} {G : Gd} {E : XK} {X : Cx}
theorem RE.ofO {α : Type} {EE : EK} {H : Hp} {I : Ix} {kk : AK α} {o : Option α} {S : So} (h : RE G EE H I kk (ofO o S)) : ∃ a, o = some a ∧ RE G EE H I kk (.ok a S) := by
  cases o with
  | none => exact False.elim h
  | some a => exact ⟨a, rfl, h⟩
/-- a name -/
theorem se_name (C : Cz P call CX k sx G E X) (n : Str) (p : Pos) : PE X (.Name n p) (tE G (EKof G E) fun e S => if okN n = true then ofO (nameE P sx e n) S else .bad) := by
  refine PE.by fun σ H Q ⟨I, S, e, rl, rs, h⟩ => ?_
  simp only at h
  split at h
  · rename_i hok
    obtain ⟨h1, h2, h3⟩ := okN_d hok
    obtain ⟨w, e1, h⟩ := RE.ofO h
    unfold nameE at e1
    split at e1
    · rename_i hv
      obtain ⟨i, e2, e3⟩ := Option.bind_eq_some_iff.mp e1
      obtain ⟨v, e4, q⟩ := rs.get _ _ (slot_ok e3)
      refine ⟨tVar i, .lift (L2.pe_var (X := X.nox) (by show X.N[i]? = _; rw [C.hN]; exact idx_ok e2) (by show Vis X.env.scope n; rw [C.sc]; exact vis_ok hv) h1 h2), v, e4, kV_now h rl q⟩
    · split at e1
      · rename_i hg
        rcases C.glb n w e1 with ⟨u, v, m1, r1, q⟩ | ⟨t, rfl, m1, b1⟩
        · have hq : RW G H I w v := by
            have := q G.w H I
            rw [← C.K, ← C.mg] at this
            exact this
          exact ⟨tC v, .lift (L2.pe_glob (X := X.nox) (C.gl hg) m1 r1 h1), kV_now h rl hq⟩
        · exact ⟨tC (.ty t), .lift (L2.pe_bltn (X := X.nox) (C.gl hg) m1 b1 rfl h3 h1), kV_now h rl (by unfold RW; rfl)⟩
      · cases e1
  · exact False.elim h
theorem se_const (c : Const) (j : Nat) (p : Pos) : PE X (.Constant c j p) (tE G (EKof G E) fun _ S => constE c S) := by
  refine PE.by fun σ H Q ⟨I, S, e, rl, rs, h⟩ => ?_
  cases c with
  | none => exact ⟨_, .lift L2.pe_non, kV_now h rl (by unfold RW; rfl)⟩
  | bool b => exact ⟨_, .lift L2.pe_bl, kV_now h rl (by unfold RW; rfl)⟩
  | int i => exact ⟨_, .lift L2.pe_int, kV_now h rl (by unfold RW; rfl)⟩
  | str x => exact ⟨_, .lift L2.pe_str, kV_now h rl (by unfold RW; rfl)⟩
  | float _ => exact False.elim h
  | complex _ _ => exact False.elim h
  | bytes _ => exact False.elim h
  | ellipsis => exact False.elim h
/-- two steps, then a rule of values -/
theorem two_Z {a b : Expr} {EE : EK} {ra rb : En → So → Res W} {f : W → W → So → Res W} {t : TE → TE → TE} {x : Expr} (ha : PE X a (tE G EE ra)) (hb : PE X b (tE G EE rb)) (hx : PE X x (tOp (rZ G EE f) (tE G EE ra) (tE G EE rb))) :
    PE X x (tE G EE fun e S => (ra e S).bind fun u S1 => (rb e S1).bind fun v S2 => f u v S2) := by
  refine hx.of fun σ H Q ⟨I, S, e, rl, rs, h⟩ => ?_
  refine tE.step rl rs h fun w S1 H1 I1 v k1 rl1 hv h1 => ?_
  refine tE.step (S := S1) rl1 (rs.mono k1) h1 fun z S2 H2 I2 u k2 rl2 hu h2 => ?_
  exact ⟨I2, S2, w, z, rl2, hv.mono k2, hu, h2⟩
theorem se_bin (C : Cz P call CX k sx G E X) {m : Bool} {a b : Expr} {op : Operator} {p : Pos} {ra rb : En → So → Res W} (ha : PE X a (tE G (EKof G E) ra)) (hb : PE X b (tE G (EKof G E) rb)) :
    PE X (.BinOp a op b p) (tE G (EKof G E) fun e S => (ra e S).bind fun u S1 => (rb e S1).bind fun v S2 => binop m op u v S2) :=
  two_Z (t := fun a b => a) ha hb (pe_op (op_Z (X := X.nox) C.K m op) ha hb)
/-- a comparison's reading -/
def fC (op : CmpOp) : W → W → So → Res W := fun u v S2 => (ofO (cmp op u v S2) S2).bind fun r S3 => .ok (.bl r) S3
theorem rC_Z {EE : EK} {op : CmpOp} {x y : V} {H : Hp} {Q : VK} (h : rZ G EE (fC op) x y H Q) : rC G (cmp op) x y H Q := by
  obtain ⟨I, S, u, v, rl, h1, h2, h⟩ := h
  unfold fC at h
  cases e : cmp op u v S with
  | none => rw [e] at h; exact False.elim h
  | some b =>
    rw [e] at h
    exact ⟨I, S, u, v, b, rl, h1, h2, e, kV_now (E := EE) (S := S) h rl (by unfold RW; rfl)⟩
theorem units64 {A : Around} {k : Nat} (r : Room k A) : A.units + 64 < cLine := r.units
theorem units65 {A : Around} {k : Nat} (r : Room k A) : A.units + 65 < cLine := by have := r.un; omega
theorem units200 {A : Around} {k : Nat} (r : Room k A) : A.units + 200 < cLine := by have := r.un; omega
theorem mark_ok {op : CmpOp} {b : Expr} (h : isSet b = false) : behindInMarks op b = false := by
  cases b <;> first | rfl | cases h
theorem op_C (C : Cz P call CX k sx G E X) (op : CmpOp) : OpR X.nox (compareOp op) (rZ G (EKof G E) (fC op)) := by
  intro pins s σ H x y v u Q J rx ry h
  exact cmp_Z (X := X.nox) C.K C.wd (units200 C.room) (units65 C.room) (units64 C.room) C.sys op pins s σ H x y v u Q J rx ry (rC_Z h)
theorem se_cmp (C : Cz P call CX k sx G E X) {a b : Expr} {op : CmpOp} {p : Pos} {ra rb : En → So → Res W} (ha : PE X a (tE G (EKof G E) ra)) (hb : PE X b (tE G (EKof G E) rb)) :
    PE X (.Compare a [op] [b] p) (tE G (EKof G E) fun e S => if isSet b = true then .bad else (ra e S).bind fun u S1 => (rb e S1).bind fun v S2 => fC op u v S2) := by
  by_cases hs : isSet b = true
  · exact PE.never fun σ H Q ⟨I, S, e, rl, rs, h⟩ => by simp only [hs, if_true] at h; exact h
  · simp only [hs, if_false]
    exact two_Z (t := fun a b => a) ha hb (pe_cmpR (op_C C op) ha hb (mark_ok (by simpa using hs)))
/-- two comparisons in a chain -/
def fC2 (op op' : CmpOp) (rc : So → Res W) : W → W → So → Res W := fun u v S2 => (ofO (cmp op u v S2) S2).bind fun r S3 =>
  if r then (rc S3).bind fun z S4 => fC op' v z S4 else .ok (.bl false) S3
theorem chain_Z (C : Cz P call CX k sx G E X) {a b c : Expr} {op op' : CmpOp} {p : Pos} {ra rb rc : En → So → Res W} {σ : L2.St} {H : Hp} {Q : VK} {I : Ix} {S : So} {e : En}
    (rl : Rel G H I S) (rs : RS G H I e σ) (h : RE G (EKof G E) H I (kV' G Q) ((ra e S).bind fun u S1 => (rb e S1).bind fun v S2 => fC2 op op' (rc e) u v S2)) :
    tChain (rZ G (EKof G E) (fC op)) (rZ G (EKof G E) (fC op')) (tE G (EKof G E) ra) (tE G (EKof G E) rb) (tE G (EKof G E) rc) σ H Q := by
  refine tE.step rl rs h fun w S1 H1 I1 v k1 rl1 hv h1 => ?_
  refine tE.step (S := S1) rl1 (rs.mono k1) h1 fun z S2 H2 I2 u k2 rl2 hu h2 => ?_
  refine ⟨I2, S2, w, z, rl2, hv.mono k2, hu, ?_⟩
  unfold fC2 at h2
  unfold fC
  cases q : cmp op w z S2 with
  | none => rw [q] at h2; exact False.elim h2
  | some r =>
    rw [q] at h2
    intro H3 I3 k3 rl3 y hy
    unfold RW at hy
    subst hy
    refine ⟨r, rfl, ?_⟩
    cases r with
    | false => exact iteF (kV_now (h2.mono k3) rl3 (by unfold RW; rfl))
    | true =>
      refine iteT (tE.step (S := S2) rl3 ((rs.mono k1).mono (k2.trans k3)) (show RE G (EKof G E) H3 I3 (kV' G Q) ((rc e S2).bind fun z' S4 => fC op' z z' S4) from h2.mono k3) fun w' S4 H4 I4 v' k4 rl4 hv' h4 => ?_)
      exact ⟨I4, S4, z, w', rl4, hu.mono (k3.trans k4), hv', h4⟩
theorem marks2 {op op' : CmpOp} {b c : Expr} (h : isSet c = false) : lastMarks [op, op'] [b, c] = false := mark_ok (op := op') h
theorem se_cmp2 (C : Cz P call CX k sx G E X) {a b c : Expr} {op op' : CmpOp} {p : Pos} {ra rb rc : En → So → Res W} (ha : PE X a (tE G (EKof G E) ra)) (hb : PE X b (tE G (EKof G E) rb)) (hc : PE X c (tE G (EKof G E) rc)) :
    PE X (.Compare a [op, op'] [b, c] p) (tE G (EKof G E) fun e S => if (isSet b || isSet c) = true then .bad else (ra e S).bind fun u S1 => (rb e S1).bind fun v S2 => fC2 op op' (rc e) u v S2) := by
  by_cases hs : (isSet b || isSet c) = true
  · exact PE.never fun σ H Q ⟨I, S, e, rl, rs, h⟩ => by simp only [hs, if_true] at h; exact h
  · simp only [hs, if_false]
    have hc2 : isSet c = false := by cases q : isSet c <;> simp_all
    refine (pe_chain (op_C C op) (op_C C op') ha hb hc (marks2 hc2)).of fun σ H Q ⟨I, S, e, rl, rs, h⟩ => ?_
    exact chain_Z (a := a) (b := b) (c := c) (p := p) C rl rs h
theorem se_not {EE : EK} (hK : G.K = X.K) {a : Expr} {p : Pos} {ra : En → So → Res W} (ha : PE X a (tE G EE ra)) :
    PE X (.UnaryOp .Not a p) (tE G EE fun e S => (ra e S).bind fun u S1 => match truth u S1 with | some b => .ok (.bl (!b)) S1 | none => .bad) := by
  refine (pe_notT ha).of fun σ H Q ⟨I, S, e, rl, rs, h⟩ => ?_
  refine tE.step rl rs h fun w S1 H1 I1 v k1 rl1 hv h1 => ?_
  cases q : truth w S1 with
  | none => rw [q] at h1; exact False.elim h1
  | some b =>
    rw [q] at h1
    exact ⟨b, by rw [← hK]; exact truth_ok rl1 hv q, kV_now h1 rl1 (by unfold RW; rfl)⟩
theorem se_neg {EE : EK} {a : Expr} {p : Pos} {ra : En → So → Res W} (ha : PE X a (tE G EE ra)) :
    PE X (.UnaryOp .USub a p) (tE G EE fun e S => (ra e S).bind neg) := by
  refine (pe_un un_neg ha).of fun σ H Q ⟨I, S, e, rl, rs, h⟩ => ?_
  refine tE.step rl rs h fun w S1 H1 I1 v k1 rl1 hv h1 => ?_
  cases w with
  | int i =>
    unfold RW at hv
    subst hv
    exact ⟨i, rfl, kV_now h1 rl1 (by unfold RW; rfl)⟩
  | _ => exact False.elim h1
theorem se_bool {EE : EK} (hK : G.K = X.K) {op : BoolOp} {p : Pos} {f : Expr → En → So → Res W} (hf : ∀ x, PE X x (tE G EE (f x))) : ∀ vs : List Expr,
    PE X (.BoolOp op vs p) (tE G EE fun e S => evB (match op with | .And => true | .Or => false) (fun x => f x e) vs S)
  | [] => PE.never fun σ H Q ⟨I, S, e, rl, rs, h⟩ => h
  | [x] => (pe_one (hf x)).of fun σ H Q q => q
  | x :: y :: r => by
    have ih := se_bool (p := p) (op := op) hK hf (y :: r)
    cases op with
    | And =>
      refine (pe_andT (hf x) ih).of fun σ H Q ⟨I, S, e, rl, rs, h⟩ => ?_
      refine tE.step rl rs h fun w S1 H1 I1 v k1 rl1 hv h1 => ?_
      cases q : truth w S1 with
      | none => rw [q] at h1; exact False.elim h1
      | some b =>
        rw [q] at h1
        refine ⟨b, by rw [← hK]; exact truth_ok rl1 hv q, ?_⟩
        cases b with
        | true => exact iteT ⟨I1, S1, e, rl1, rs.mono k1, h1⟩
        | false => exact iteF (kV_now h1 rl1 hv)
    | Or =>
      refine (pe_orT (hf x) ih).of fun σ H Q ⟨I, S, e, rl, rs, h⟩ => ?_
      refine tE.step rl rs h fun w S1 H1 I1 v k1 rl1 hv h1 => ?_
      cases q : truth w S1 with
      | none => rw [q] at h1; exact False.elim h1
      | some b =>
        rw [q] at h1
        refine ⟨b, by rw [← hK]; exact truth_ok rl1 hv q, ?_⟩
        cases b with
        | true => exact iteT (kV_now h1 rl1 hv)
        | false => exact iteF ⟨I1, S1, e, rl1, rs.mono k1, h1⟩
/-- the test of an expression -/
def tst (r : En → So → Res W) : En → So → Res Bool := fun e S => (r e S).bind fun u S1 => ofO (truth u S1) S1
theorem se_if {EE : EK} {c a b : Expr} {p : Pos} {rc ra rb : En → So → Res W} (hc : PT X c (tT G EE (tst rc))) (ha : PE X a (tE G EE ra)) (hb : PE X b (tE G EE rb)) :
    PE X (.IfExp c a b p) (tE G EE fun e S => (rc e S).bind fun u S1 => match truth u S1 with | some true => ra e S1 | some false => rb e S1 | none => .bad) := by
  refine (pe_ifExp hc ha hb).of fun σ H Q ⟨I, S, e, rl, rs, h⟩ => ?_
  refine ⟨I, S, e, rl, rs, ?_⟩
  unfold tst
  simp only at h
  cases q : rc e S with
  | bad => rw [q] at h; exact False.elim h
  | exn x S1 => rw [q] at h; exact h
  | ok u S1 =>
    rw [q] at h
    simp only [Res.bind] at h ⊢
    cases q2 : truth u S1 with
    | none => rw [q2] at h; exact False.elim h
    | some t =>
      rw [q2] at h
      intro H1 I1 k1 rl1
      cases t with
      | true =>
        show if true = true then tE G EE ra σ H1 Q else tE G EE rb σ H1 Q
        exact iteT ⟨I1, S1, e, rl1, rs.mono k1, RE.mono k1 h⟩
      | false =>
        show if false = true then tE G EE ra σ H1 Q else tE G EE rb σ H1 Q
        exact iteF ⟨I1, S1, e, rl1, rs.mono k1, RE.mono k1 h⟩
theorem se_tup {EE : EK} {es : List Expr} {j : Nat} {p : Pos} {rs' : En → So → Res (List W)} (ha : PA X es (tAs G EE rs')) :
    PE X (.Tuple es j p) (tE G EE fun e S => (rs' e S).bind fun ws S1 => if ws.length ≤ sizeLine then .ok (.tup ws) S1 else .bad) := by
  refine (pe_tup ha).of fun σ H Q ⟨I, S, e, rl, rs, h⟩ => ?_
  refine tAs.step rl rs h fun ws S1 H1 I1 vs k1 rl1 hv h1 => ?_
  split at h1
  · rename_i hl
    refine ⟨by rw [← hv.len]; exact hl, fun t ht => ?_⟩
    have kn := Keep.junk (I := I1) (o := .tup vs) ht
    refine h1 _ I1 kn (rl1.junk ht) _ ?_
    unfold RW
    exact ⟨t, vs, rfl, .of upd_same, hv.mono kn⟩
  · exact False.elim h1
theorem se_lst {EE : EK} {m : Bool} {es : List Expr} {p : Pos} {rs' : En → So → Res (List W)} (ha : PA X es (tAs G EE rs')) :
    PE X (.List es p) (tE G EE fun e S => (rs' e S).bind fun ws S1 => if ws.length ≤ sizeLine then mk m ws S1 else .bad) := by
  refine (pe_lst ha).of fun σ H Q ⟨I, S, e, rl, rs, h⟩ => ?_
  refine tAs.step rl rs h fun ws S1 H1 I1 vs k1 rl1 hv h1 => ?_
  split at h1
  · rename_i hl
    exact ⟨by rw [← hv.len]; exact hl, mk_lst rl1 hv h1⟩
  · exact False.elim h1
end
end Y

/-! Errors of one's own in the reader: made by their class's call, read, asked for their class. -/
namespace D
open PySem PyProof.Rows
/-- a code over the first machine -/
theorem code_soft {P : Program} {w : World} {A : Around} {c : Code} {R : Result → Shared → Prop} {s : Shared} (h : codeAny (model P w) A c R (deadS s)) (hR : Cl R) {G : Array GenState} (g : Kept G s.gens) :
    codeAny (model2 P w) A c (fun r s' => Kept G s'.gens ∧ R r s') s := fun Γ p e b => by
  obtain ⟨r, s1, h1, h2⟩ := h Γ p e b
  obtain ⟨s2, h3, R3⟩ := returns_soft h1 (relS_dead s)
  exact ⟨r, s2, h3, g.trans R3.kept, hR r s1 s2 R3.alike h2⟩
end D
namespace Y
open PySem PySem.Spec PyProof.Rows L2
open D (model2 Kept Cl Alike deadS)
section
variable {P : Pg} {call : Cf} {CX : CXT} {k : Nat} {sx : Sx} {G : Gd} {E : XK} {X : Cx} {EE : EK}
theorem RFs.look {H : Hp} {I : Ix} {n : Str} {w : W} : ∀ {ws : List (Str × W)} {vs : List (Str × V)}, RFs G H I ws vs → ws.lookup n = some w → ∃ v, vs.lookup n = some v ∧ RW G H I w v
  | [], _, _, e => by cases e
  | (y, z) :: ws, _, h, e => by
    rw [RFs] at h
    obtain ⟨v, t, rfl, h1, h2⟩ := h
    rw [List.lookup_cons] at e ⊢
    cases q : n == y with
    | true =>
      rw [q] at e
      cases e
      exact ⟨v, rfl, h1⟩
    | false =>
      rw [q] at e
      exact RFs.look h2 e
/-- what stands at such an address -/
theorem fzI_at {pins : List (Addr × Obj)} {σ : L2.St} {H : Hp} {s : Shared} {I : Ix} {t : Bool} {a c dx : Addr} {vs : List (Str × V)} (J : Inv X pins σ H s) (h : FzI H I t a c dx vs) :
    ∃ (ox od : Obj) (mA : Str → Option Value), PySem.W.InstAt s.heap a ox c (some od) ∧ (∀ f, RelO (vs.lookup f) (mA f)) ∧ ∀ f, PySem.W.lookIn f od = some (mA f) := by
  rcases h with h | ⟨h, q⟩
  · obtain ⟨mA, O, r, _⟩ := ins_get J.hok h.1
    obtain ⟨od, I, l⟩ := O.look
    exact ⟨_, od, mA, I, r, l⟩
  · obtain ⟨t1, ho⟩ := exo_at J.hok h.1
    obtain ⟨mA, hn, r⟩ := exd_at J.hok q.1
    obtain ⟨od, hd, l⟩ := lookIn_ns hn
    exact ⟨_, od, mA, ⟨ho, rfl, rfl, hd⟩, r, l⟩
/-- error.name -/
theorem se_attr (C : Cz P call CX k sx G E X) {o : Expr} {n : Str} {pos : Pos} {ro : En → So → Res W} (ho : PE X o (tE G (EKof G E) ro)) (hb : attributeBase o n X.env (eval o X.env) = eval o X.env) :
    PE X (.Attribute o n pos) (tE G (EKof G E) fun e S => (ro e S).bind fun u S1 => attrV P u n S1) := by
  refine ⟨fun pins s σ H Q J ⟨I, S, e, rl, rs, h⟩ G0 g0 => ?_⟩
  rw [arm_eval_Attribute, hb]
  refine wpAny_bind ?_
  refine (wq.th (ho.run pins s σ H (fun v H1 => ∃ I1 S1 w, Rel G H1 I1 S1 ∧ RW G H1 I1 w v ∧ RE G (EKof G E) H1 I1 (kV' G Q) (attrV P w n S1)) J (tE.step rl rs h fun w S1 H1 I1 v k1 rl1 hv h1 => ⟨I1, S1, w, rl1, hv, h1⟩)) g0 fun u s1 g1 hh => ?_)
  obtain ⟨v, H1, J1, rv, I1, S1, w, rl1, hv, h1⟩ := hh
  refine wpAny_bind (wpAny_standAt (wpAny_bind (wpAny_holding (wpAny_mono (Q := KQ G0 (EP X pins σ Q)) (E := KQ G0 X.xe) ?_ (fun r s2 q => wpAny_bind (D.exact (u := ()) (wpAny_letTemporaryGo ⟨rfl, rfl⟩) (wpAny_pure q))) fun _ _ z => z))))
  unfold attrV at h1
  cases w with
  | fins t Cn fs =>
    simp only at h1
    split at h1
    · rename_i hEr
      obtain ⟨z, ez, h2⟩ := RE.ofO h1
      rw [RW] at hv
      obtain ⟨a, c, dx, vs, rfl, hm, fz, hfs⟩ := hv
      obtain ⟨c', hm', T⟩ := C.er _ _ hEr
      rw [C.mg] at hm
      have ec : c' = c := by rw [hm] at hm'; cases hm'; rfl
      subst ec
      obtain rfl : u = Value.ref a := rv
      obtain ⟨y, ey, hy⟩ := hfs.look ez
      obtain ⟨ox, od, mA, IA, rr, ll⟩ := fzI_at J1 fz
      obtain ⟨z', hz', rz⟩ := RelO.some_of (v := y) (o := mA n) (by rw [← ey]; exact rr n)
      refine wq.of (X := X) (Q := EP X pins σ Q) ?_ cl_EP G0 g1
      have J1 := inv_dead J1
      exact HandSPX.exc_get (s := deadS s1) J1.kIn IA T.ga T.gt T.ex (PySem.W.findObj_own T.hd T.no rfl (by rw [ll, hz'])) (handed_of rz) ⟨y, H1, J1.tok _, rz, RE.now (k := kV' G Q) h2 rl1 y hy⟩
    · exact False.elim h1
  | _ => exact False.elim h1
/-- isinstance, also of such an error -/
def rBiI (P : Pg) (G : Gd) (E : EK) (m : Bool) (f : Str) : List V → Hp → VK → Prop := fun vs H Q => ∃ I S ws, Rel G H I S ∧ RWs G H I ws vs ∧ RE G E H I (kV' G Q) (builtinI P.isa m f ws S)
theorem isi_own (C : Cz P call CX k sx G E X) {pins : List (Addr × Obj)} {σ : L2.St} {H : Hp} {s : Shared} {I : Ix} {S : So} {x D : W} {v u : V} {a b : Value} {Q : VK} (J : Inv X.nox pins σ H s) (rl : Rel G H I S) (h1 : RW G H I x v) (h2 : RW G H I D u) (r1 : RelV v a) (r2 : RelV u b)
    (h : RE G EE H I (kV' G Q) (isiC P.isa x D S)) : wpAny (model X.prog X.w) X.A (PySem.call (.builtin "isinstance") [a, b]) (EP X.nox pins σ Q) (fun _ _ => False) s := by
  unfold isiC at h
  cases x with
  | fins t Cn fs =>
    simp only at h
    split at h
    · rename_i bb eb
      obtain ⟨c, x, cv, hm, T, hD, hk⟩ := C.isa _ _ _ eb
      rw [RW] at h1
      obtain ⟨p, c', dx, vs, rfl, hm', fz, hfs⟩ := h1
      rw [C.mg] at hm'
      have ec : c' = c := by rw [hm] at hm'; cases hm'; rfl
      subst ec
      obtain rfl : a = Value.ref p := r1
      obtain ⟨ox, od, mA, IA, _, _⟩ := fzI_at J fz
      have eb2 : b = cv := by
        cases D with
        | glo y =>
          obtain ⟨d, q1, rfl⟩ := hD
          rw [RW] at h2
          obtain ⟨d2, rfl, q2⟩ := h2
          rw [C.mg, q1] at q2
          cases q2
          exact r2
        | ty n =>
          have hD' : cv = .type n := hD
          subst hD'
          rw [RW] at h2
          subst h2
          exact r2
        | _ => exact hD.elim
      subst eb2
      exact PySem.W.kia_one (PySem.W.kitx_exc T.cl T.ga T.gt T.ex T.ha T.hn T.ht T.hm) J.kIn IA hk (fun z => nomatch z) fun tk => ⟨.bl bb, H, J.tok tk, rfl, RE.now (k := kV' G Q) h rl _ (by rw [RW])⟩
    · exact False.elim h
  | _ => exact False.elim h
theorem bi_isiI (C : Cz P call CX k sx G E X) (m : Bool) : CallR X.nox (.builtin "isinstance") (rBiI P G EE m "isinstance") := by
  rintro pins s σ H xs us Q J r ⟨I, S, ws, rl, z, h⟩
  have old : RE G EE H I (kV' G Q) (builtin m "isinstance" ws S) → wpAny (model X.prog X.w) X.A (PySem.call (.builtin "isinstance") us) (EP X.nox pins σ Q) (fun _ _ => False) s := fun h => bi_isi (X := X.nox) C.K m pins s σ H xs us Q J r ⟨I, S, ws, rl, z, h⟩
  unfold builtinI at h
  rw [if_pos rfl] at h
  split at h
  · obtain ⟨v, u, rfl, h1, h2⟩ := z.two
    obtain ⟨a, b, rfl, r1, r2⟩ := vals2 r
    exact isi_own C J rl h1 h2 r1 r2 h
  · split at h
    · obtain ⟨v, u, rfl, h1, h2⟩ := z.two
      obtain ⟨a, b, rfl, r1, r2⟩ := vals2 r
      exact isi_own C J rl h1 h2 r1 r2 h
    · exact old h
  · exact old h
theorem builtinI_of {isa : Str → W → Option Bool} {m : Bool} {f : Str} {us : List W} {S : So} (h : f ≠ "isinstance") : builtinI isa m f us S = builtin m f us S := by
  unfold builtinI
  rw [if_neg h]
end
/-! ### such an error made -/
section
theorem env0_alike {P : Program} {w : World} {K : PySem.W.Frag} {mg : Str → Option Value} {base : Heap} {A : Around} {outer : List Env} {s s2 : Shared} {H : Hp} (e : Env0 P w K mg base A outer s H) (a : Alike s s2) : Env0 P w K mg base A outer s2 H := by
  obtain ⟨h, g, d, t, o⟩ := s
  obtain ⟨h2, g2, d2, t2, o2⟩ := s2
  obtain ⟨rfl, rfl, rfl, rfl, b⟩ := a
  exact ⟨e.frames, e.mod, e.bs, e.bsz, e.funs, e.frf, e.hok, b e.bare⟩
/-- no error leaves -/
def CX0 : CXT := fun _ _ _ _ _ _ => False
theorem cr0 {cxt : CXT} {outer : List Env} {P : Program} {w : World} {H : Hp} {s : Shared} {Q : VK} {E : XK} {r : Result} {s' : Shared} (h : CR CX0 outer P w H s Q E r s') : CR cxt outer P w H s Q E r s' := by
  cases r with
  | ok f => cases f <;> exact h
  | error e => exact h.elim
theorem cl_CR0 {outer : List Env} {P : Program} {w : World} {H : Hp} {s : Shared} {Q : VK} {E : XK} : Cl (CR CX0 outer P w H s Q E) := fun r s1 s2 a h => by
  obtain ⟨h1, g, d, t, o⟩ := s1
  obtain ⟨h2, g2, d2, t2, o2⟩ := s2
  obtain ⟨rfl, rfl, rfl, rfl, b⟩ := a
  cases r with
  | error e => exact h.elim
  | ok f =>
    cases f with
    | ret u => obtain ⟨v, H', q1, q2, q3⟩ := h; exact ⟨v, H', q1, b q2, q3⟩
    | next => exact h.elim
    | brk => exact h.elim
    | cont => exact h.elim
open PySem.W PySem.Calls PySem.HandSPX
/-- how the class is given its one thing -/
def BE (x : Str) : Bdr := fun _ args bs => ∃ v, bs = [(x, v)] ∧ (args = ⟨[v], []⟩ ∨ args = ⟨[], [(x, v)]⟩)
/-- how its __init__ is given it -/
def BindsEr (x : Str) : Prop := ∀ (qual msg : Str) (q1 q2 p0 p1 p2 p3 p4 p5 p6 p7 p8 p9 : Pos) (cc cda : Addr) (kV doc pm ct : Value) (an : Option Addr) (u v : Value),
  bindArgs (fnX "__init__" qual (erA q1 q2 x) (erB msg x p0 p1 p2 p3 p4 p5 p6 p7 p8 p9) (erS x) [("__class__", cc)] .none kV doc pm an (.ref cda) ct) ⟨[u, v], []⟩ = pure ([(("self" : Str), u), (x, v)] : List (Str × Value)) ∧
  bindArgs (fnX "__init__" qual (erA q1 q2 x) (erB msg x p0 p1 p2 p3 p4 p5 p6 p7 p8 p9) (erS x) [("__class__", cc)] .none kV doc pm an (.ref cda) ct) ⟨[u], [(x, v)]⟩ = pure ([(("self" : Str), u), (x, v)] : List (Str × Value))
section
variable {Pr : Program} {w : World} {K : PySem.W.Frag} {mg : Str → Option Value} {base : Heap}
theorem erG {P : Pg} {cxt : CXT} {k : Nat} {C fI : Addr} {f x : Str} {fi : Fi} (hF : P.F f = some fi) (hp : fi.ps = [x]) (hE : P.er f = some x) (hmg : mg f = some (.ref C)) (T : ErT Pr K C fI x) (B : BindsEr x) :
    FnG Pr w K mg base cxt (k + 1) C (BE x) fi.ps (spZ ⟨K, mg, w⟩ (callN P (k + 1)) f fi.ps.length) where
  len := fun vs H Q E h => by
    obtain ⟨I, S, ws, rl, z, hl, _⟩ := h
    rw [← z.len]; exact hl
  run := by
    intro A outer s H args us vs Q E G0 room grd e0 hb rel prom g0
    refine codeAny_mono (D.code_soft (s := s) (R := CR CX0 outer Pr w H s Q E) ?_ cl_CR0 g0) fun r s' z => ⟨z.1, cr0 z.2⟩
    replace e0 := env0_alike e0 (D.alike_dead s)
    show codeAny (model Pr w) A (.call (.ref C) args) (CR CX0 outer Pr w H (deadS s) Q E) (deadS s)
    generalize deadS s = s at e0 ⊢
    obtain ⟨I, S, ws, rl, z, hl, h⟩ := prom
    rw [hp] at hb hl
    obtain ⟨v0, hbs, hargs⟩ := hb
    obtain ⟨w0, rfl⟩ : ∃ w0, ws = [w0] := by
      match ws, hl with
      | [w0], _ => exact ⟨w0, rfl⟩
    obtain ⟨y, rfl, hy⟩ := z.one
    obtain ⟨u0, rfl, r0⟩ : ∃ u0, us = [u0] ∧ RelV y u0 := by
      cases rel with
      | cons a b => cases b; exact ⟨_, rfl, a⟩
    have ev : v0 = u0 := by
      have q : [(x, u0)] = [(x, v0)] := hbs
      injection q with q _
      injection q with _ q
      exact q.symm
    subst ev
    unfold callN at h
    simp only [hF, hp, hE, List.length_cons, List.length_nil, if_true, Option.isSome_some] at h
    have k0 : ∀ b o, base.get? b = some o → s.heap.get? b = some o := fun b o q => (e0.bs b o q).1
    have inK : K.In s.heap := e0.mod.kin.keeps k0
    have lim : s.heap.NoLimit := e0.mod.nolimit.keeps k0
    have glb : s.heap.Ns mainGlobals mg := e0.mod.glob.keeps k0
    obtain ⟨mb, hmb, hbb⟩ := e0.mod.blt
    have blt : s.heap.Ns builtinsNs mb := hmb.keeps k0
    have hbare := e0.bare
    have hok := e0.hok
    obtain ⟨nm, q, N, bs, bm, sn, sub, ab, col, dd, c0, c1, c2, c3, c5, lC, hbm, _⟩ := T.cls
    obtain ⟨hp0, g, d, t, os⟩ := s
    -- the call of the class, with the thing by position or by name
    have go : ∀ (rest : List Value) (kw : List (Str × Value)), (rest = [v0] ∧ kw = []) ∨ (rest = [] ∧ kw = [(x, v0)]) → codeAny (model Pr w) A (.call (.ref C) ⟨rest, kw⟩) (CR CX0 outer Pr w H ⟨hp0, g, d, t, os⟩ Q E) ⟨hp0, g, d, t, os⟩ := fun rest kw hrk => by
      have hz : rest.length ≤ sizeLine := by
        rcases hrk with ⟨rfl, _⟩ | ⟨rfl, _⟩
        · show 1 ≤ sizeLine; rw [sizeLine_eq]; omega
        · exact Nat.zero_le _
      refine callK F.excBase_ValueError (fun Y => PySem.HandSPX.refsVE_contains Y bm hbm) (inK _ _ lC) (PySem.W.looks_findIn inK T.ini) (fun self => PySem.W.bind_fn inK self T.ity) hz ?_
      have k1 : ∀ b o, hp0.get? b = some o → ((hp0.push (kdv_tup rest)).push (excO C hp0.objs.size)).get? b = some o := fun b o e => Heap.get?_push_of_some _ (Heap.get?_push_of_some _ e)
      have he1 : ((hp0.push (kdv_tup rest)).push (excO C hp0.objs.size)).get? (hp0.objs.size + 1) = some (excO C hp0.objs.size) := by heap_get
      have neE : ∀ b o, hp0.get? b = some o → b ≠ hp0.objs.size + 1 := fun b o e z => by
        have q := Heap.lt_size e
        rw [z] at q
        exact absurd q (Nat.not_lt.mpr (Nat.le_succ _))
      refine codeAny_mono (init_er (K := K) (mg := mg) (mb := mb) T (room.make C rest kw).depth (inK.keeps k1) (glb.keeps k1) (blt.keeps k1) hbb (lim.keeps k1) he1 (by
        cases q : K.lookup (hp0.objs.size + 1) with
        | none => rfl
        | some o => exact absurd rfl (neE _ _ (inK _ _ q))) (v := v0) (fun fd _ o ho hd => ?_)
        (R := InitBack (hp0.objs.size + 1) (CR CX0 outer Pr w H ⟨hp0, g, d, t, os⟩ Q E)) fun h' t' dx t1 kk dn dne he5 hn5 => ?_) fun r s' z => z
      · obtain ⟨oc, od, osl, qual, msg, q1, q2, p0, p1, p2, p3, p4, p5, p6, p7, p8, p9, cc, cda, kV, doc, pm, ct, an, cl, cld, csl, ccl, cdd, vs', ccs, file, tf, lf, _⟩ := T.fn
        have e := k1 _ _ (inK _ _ lf)
        rw [e] at ho
        cases ho
        cases hd
        obtain ⟨b1, b2⟩ := B qual msg q1 q2 p0 p1 p2 p3 p4 p5 p6 p7 p8 p9 cc cda kV doc pm ct an (.ref (hp0.objs.size + 1)) v0
        rcases hrk with ⟨rfl, rfl⟩ | ⟨rfl, rfl⟩
        · exact .of_eq b1
        · exact .of_eq b2
      · refine ⟨rfl, ?_⟩
        -- the abstract heap behind it
        have nE : H (hp0.objs.size + 1) = none := hok.fresh (Nat.le_succ _)
        have nD : H dx = none := hok.gone (by
          cases q : hp0.get? dx with
          | none => rfl
          | some o => rw [k1 _ _ q] at dn; cases dn)
        have gD : hp0.get? dx = none := by
          cases q : hp0.get? dx with
          | none => rfl
          | some o => rw [k1 _ _ q] at dn; cases dn
        have kp : ∀ b o, hp0.get? b = some o → h'.get? b = some o := fun b o e => kk b o (neE b o e) (k1 b o e)
        have nd : ∀ {b : Addr} {o : Obj}, hp0.get? b = some o → b ≠ dx := fun {b o} e z => by rw [z, gD] at e; cases e
        have nE2 : upd H dx (exd dx [(x, y)]) (hp0.objs.size + 1) = none := by rw [upd_ne (Ne.symm dne)]; exact nE
        have kH : Keep H I (upd (upd H dx (exd dx [(x, y)])) (hp0.objs.size + 1) (exo (hp0.objs.size + 1) C (some dx))) I := (Keep.junk nD).trans (Keep.junk nE2)
        have rlH := (rl.junk (u := exd dx [(x, y)]) nD).junk (u := exo (hp0.objs.size + 1) C (some dx)) nE2
        have outs : ∀ {a : Addr}, H a = none → Out I false a := fun {a} n => ⟨(fun z => by
          obtain ⟨_, q2, _⟩ := rl.thereM z
          rw [n] at q2
          cases q2), (rl.apart n).2, fun _ => (rl.apart n).1⟩
        refine ⟨.ref (hp0.objs.size + 1), upd (upd H dx (exd dx [(x, y)])) (hp0.objs.size + 1) (exo (hp0.objs.size + 1) C (some dx)), rfl, hbare, ?_, ?_, rfl, ?_⟩
        · exact {
            keep := fun b o e _ _ _ => kp b o e
            slot := fun b o e _ _ _ => ⟨o.slots, kp b o e⟩
            free := fun b o e n _ => by rw [upd_ne (neE b o e), upd_ne (nd e)]; exact n
            there := fun b o e _ => ⟨o, kp b o e⟩
            tups := kH.tup
            frzs := kH.frz
            tbls := fun b ps e => ⟨#[], by rw [upd_ne (ne_of_none e nE), upd_ne (ne_of_none e nD), e]; simp⟩ }
        · intro b o e
          by_cases hb : b = hp0.objs.size + 1
          · subst hb
            rw [upd_same] at e
            cases e
            exact exo_ok he5
          · rw [upd_ne hb] at e
            by_cases hd : b = dx
            · subst hd
              rw [upd_same] at e
              cases e
              refine exd_ok hn5 fun f => ?_
              rw [lookup_put]
              by_cases hf : f = x
              · rw [if_pos hf, if_pos hf]; exact r0
              · rw [if_neg hf, if_neg hf]; exact True.intro
            · rw [upd_ne hd] at e
              exact (hok b o e).stay (fun c v _ q => kp c v q) (fun c q => by rw [upd_ne (ne_of_none q nE), upd_ne (ne_of_none q nD)]; exact q) (fun c xs q => kH.tup c xs q)
        · refine h _ _ kH rlH _ ?_
          show RW _ _ _ (.fins false f [(x, w0)]) _
          rw [RW]
          refine ⟨_, C, dx, [(x, y)], rfl, hmg, .inr ⟨⟨upd_same, outs nE⟩, by rw [upd_ne dne]; exact upd_same, outs nD⟩, ?_⟩
          rw [RFs]
          exact ⟨y, [], rfl, hy.mono kH, by rw [RFs]⟩
    rcases hargs with rfl | rfl
    · exact go [v0] [] (.inl ⟨rfl, rfl⟩)
    · exact go [] [(x, v0)] (.inr ⟨rfl, rfl⟩)
end
end
end Y

/-! Subscripts, displays of dicts, f-strings, calls of built-ins and methods. -/
namespace Y
open PySem PySem.Spec PyProof.Rows L2
open D (model2 Kept Cl Alike deadS)
section
variable {P : Pg} {call : Cf} {CX : CXT} {k : Nat} {sx : Sx} {G : Gd} {E : XK} {X : Cx} {EE : EK}
def tOs (G : Gd) (E : EK) (r : En → So → Res (Option Int)) : TO := fun σ H Q => ∃ I S e, Rel G H I S ∧ RS G H I e σ ∧ RE G E H I (fun o _ H' _ => Q o H') (r e S)
theorem po_Z {f : Expr → En → So → Res W} (hf : ∀ x, PE X x (tE G EE (f x))) : ∀ o : Option Expr, PO X o (tOs G EE fun e S => evO (fun x => f x e) o S)
  | none => ⟨fun pins s σ H Q J ⟨I, S, e, rl, rs, h⟩ => po_none.run pins s σ H Q J (RE.now (k := fun o _ H' _ => Q o H') h rl)⟩
  | some x => ⟨fun pins s σ H Q J ⟨I, S, e, rl, rs, h⟩ => by
      refine (po_some (hf x)).run pins s σ H Q J ?_
      refine tE.step rl rs h fun w S1 H1 I1 v k1 rl1 hv h1 => ?_
      cases w with
      | int i =>
        unfold RW at hv
        subst hv
        exact ⟨i, rfl, RE.now (k := fun o _ H' _ => Q o H') h1 rl1⟩
      | _ => exact False.elim h1⟩
theorem tOs.step {α : Type} {kk : AK α} {σ : L2.St} {H : Hp} {I : Ix} {S : So} {e : En} {r : En → So → Res (Option Int)} {f : Option Int → So → Res α} {Q : Option Int → Hp → Prop} (rl : Rel G H I S) (rs : RS G H I e σ) (h : RE G EE H I kk ((r e S).bind f))
    (c : ∀ w S' H' I', Keep H I H' I' → Rel G H' I' S' → RE G EE H' I' kk (f w S') → Q w H') : tOs G EE r σ H Q :=
  ⟨I, S, e, rl, rs, (RE.bind h).imp fun w S' H' I' k2 r2 q => c w S' H' I' k2 r2 q⟩
theorem se_slice (C : Cz P call CX k sx G E X) {m : Bool} {a : Expr} {lo hi : Option Expr} {p2 p : Pos} {ra : En → So → Res W} {f : Expr → En → So → Res W} (ha : PE X a (tE G EE ra)) (hf : ∀ x, PE X x (tE G EE (f x))) :
    PE X (.Subscript a (.Slice lo hi none p2) p) (tE G EE fun e S => (ra e S).bind fun u S1 => (evO (fun x => f x e) lo S1).bind fun l S2 => (evO (fun x => f x e) hi S2).bind fun h S3 => slice m u l h S3) := by
  refine (pe_slice (sl_Z (X := X.nox) (G := G) (E := EE) C.K m) ha (po_Z hf lo) (po_Z hf hi)).of fun σ H Q ⟨I, S, e, rl, rs, h⟩ => ?_
  refine tE.step rl rs h fun w S1 H1 I1 v k1 rl1 hv h1 => ?_
  refine tOs.step (S := S1) rl1 (rs.mono k1) h1 fun l S2 H2 I2 k2 rl2 h2 => ?_
  refine tOs.step (S := S2) rl2 ((rs.mono k1).mono k2) h2 fun hh S3 H3 I3 k3 rl3 h3 => ?_
  exact ⟨I3, S3, w, rl3, hv.mono (k2.trans k3), h3⟩
theorem plainIx {b : Expr} (h : isSlice b = false) : PlainIx b := by
  intro o i
  cases b <;> first | rfl | cases h
theorem se_item (C : Cz P call CX k sx G E X) {a b : Expr} {p : Pos} {ra rb : En → So → Res W} (ha : PE X a (tE G EE ra)) (hb : PE X b (tE G EE rb)) :
    PE X (.Subscript a b p) (tE G EE fun e S => if isSlice b = true then .bad else (ra e S).bind fun u S1 => (rb e S1).bind fun v S2 => ofO (item u v S2) S2) := by
  by_cases hs : isSlice b = true
  · exact PE.never fun σ H Q ⟨I, S, e, rl, rs, h⟩ => by simp only [hs, if_true] at h; exact h
  · simp only [hs, if_false]
    refine (pe_ix (ix_Z (X := X.nox) (G := G) C.K C.wd (units200 C.room) (by have : X.A.units + 200 < cLine := units200 C.room; show X.A.units + 1 < cLine; omega)) ha hb (plainIx (by simpa using hs))).of fun σ H Q ⟨I, S, e, rl, rs, h⟩ => ?_
    refine tE.step rl rs h fun w S1 H1 I1 v k1 rl1 hv h1 => ?_
    refine tE.step (S := S1) rl1 (rs.mono k1) h1 fun z S2 H2 I2 u k2 rl2 hu h2 => ?_
    obtain ⟨y, e1, h2⟩ := RE.ofO h2
    exact ⟨I2, S2, w, z, y, rl2, hv.mono k2, hu, e1, fun t ht => kV_now h2 rl2 ht⟩

/-! ### displays of dicts -/
theorem se_dict0 {m : Bool} {p : Pos} : PE X (.Dict [] [] p) (tE G EE fun _ S => mkD m [] S) := by
  refine pe_dnewK.of fun σ H Q ⟨I, S, e, rl, rs, h⟩ p hp => ?_
  exact mk_dct rl .nil h p hp
/-- the pairs of a display -/
def RPs (G : Gd) (H : Hp) (I : Ix) : List (Kd × W) → List (V × V) → Prop
  | [], ps => ps = []
  | (q, w) :: r, ps => ∃ u v t, ps = (u, v) :: t ∧ (flatK q = true → ∃ p, kOf q = some p ∧ u = kV p) ∧ RW G H I w v ∧ RPs G H I r t
theorem RPs.mono {H H' : Hp} {I I' : Ix} (k : Keep H I H' I') : ∀ {ws : List (Kd × W)} {vs : List (V × V)}, RPs G H I ws vs → RPs G H' I' ws vs
  | [], _, h => h
  | (_, w) :: ws, _, ⟨u, v, q, e, e2, h1, h2⟩ => ⟨u, v, q, e, e2, h1.mono k, RPs.mono k h2⟩
theorem RPs.kvs {H : Hp} {I : Ix} : ∀ {ws : List (Kd × W)} {ps : List (V × V)}, (ws.all fun kv => flatK kv.1) = true → RPs G H I ws ps → ∃ kvs : List (Key × V), ps = kvs.map (fun kv => (kV kv.1, kv.2)) ∧ RKs G H I ws kvs
  | [], _, _, h => ⟨[], h, .nil⟩
  | (q, w) :: ws, _, f, ⟨u, v, t, e, e2, h1, h2⟩ => by
    rw [List.all_cons, Bool.and_eq_true] at f
    obtain ⟨kvs, e1, r⟩ := RPs.kvs f.2 h2
    obtain ⟨p, e3, e4⟩ := e2 f.1
    exact ⟨(p, v) :: kvs, by rw [e, e1, e4]; rfl, .cons e3 h1 r⟩
theorem RKs.merge {H : Hp} {I : Ix} : ∀ {ws acc : List (Kd × W)} {vs avs : List (Key × V)}, RKs G H I ws vs → RKs G H I acc avs → RKs G H I (ws.foldl (fun r kv => putW r kv.1 kv.2) acc) (mergeK avs vs)
  | [], _, _, _, h, a => by rw [h.inv0]; exact a
  | (q, w) :: ws, acc, _, avs, h, a => by
    obtain ⟨p, v, t, rfl, e, h1, h2⟩ := h.inv
    exact RKs.merge (acc := putW acc q w) (avs := putK avs p v) h2 (a.put e h1)
theorem pps_Z {f : Expr → En → So → Res W} (hf : ∀ x, PE X x (tE G EE (f x))) {pos : Pos} : ∀ (ks : List (Option Expr)) (vs : List Expr), ks.all (·.isSome) = true → ks.length = vs.length →
    ∃ trs, PPs X pos ks vs trs ∧ ∀ (σ : L2.St) (H : Hp) (I : Ix) (S : So) (e : En) (Q : List (V × V) → Hp → Prop) (kk : AK (List (Kd × W))), Rel G H I S → RS G H I e σ → RE G EE H I kk (evP (fun x => f x e) ks vs S) →
      (∀ kvs S' H' I' ps, Keep H I H' I' → Rel G H' I' S' → RPs G H' I' kvs ps → kk kvs S' H' I' → Q ps H') → tPairs trs σ H Q
  | [], [], _, _ => ⟨[], pps_nil, fun σ H I S e Q kk rl rs h c => c [] S H I [] (Keep.refl H I) rl rfl (RE.now h rl)⟩
  | some x :: ks, y :: vs, ha, hl => by
    obtain ⟨trs, p1, r1⟩ := pps_Z hf (pos := pos) ks vs ha (by simpa using hl)
    refine ⟨_, pps_cons (hf x) (hf y) p1, fun σ H I S e Q kk rl rs h c => ?_⟩
    refine tE.step rl rs h fun w S1 H1 I1 v k1 rl1 hv h1 => ?_
    refine tE.step (S := S1) rl1 (rs.mono k1) h1 fun z S2 H2 I2 u k2 rl2 hu h2 => ?_
    cases q : toK w with
    | none => rw [q] at h2; exact False.elim h2
    | some key =>
      rw [q] at h2
      refine r1 σ H2 I2 S2 e _ _ rl2 ((rs.mono k1).mono k2) (RE.bind h2) fun kvs S3 H3 I3 ps k3 rl3 hp h3 => ?_
      exact c ((key, z) :: kvs) S3 H3 I3 _ ((k1.trans k2).trans k3) rl3 ⟨v, u, ps, rfl, fun f => toK_flat (hv.mono (k2.trans k3)) q f, hu.mono k3, hp⟩ (RE.now h3 rl3)
  | none :: _, _ :: _, ha, _ => by cases ha
  | [], _ :: _, _, hl => by cases hl
  | _ :: _, [], _, hl => by cases hl
/-- the wish of an error stays the same where less is being built -/
theorem EK_unb {E : XK} {H : Hp} {I : Ix} {x : Er} {D : Addr} {B : List Addr} {u : HO} (hI : I.bd = D :: B) (h : H D = some u) (m : isM u = true) (q : EKof G E x H I.unb) : EKof G E x H I := by
  obtain ⟨C, e, q⟩ := q
  exact ⟨C, e, fun d vs hd r => q d vs hd (r.mv (Mv.unb hI h m fun _ _ => rfl))⟩
/-- what an answer is worth while D is being built -/
theorem RE.bld {α : Type} {E : XK} {H : Hp} {I : Ix} {S : So} {D : Addr} {u : HO} {kk : AK α} {r : Res α} (rl : Rel G H I S) (hD : H D = none) (m : isM u = true) (h : RE G (EKof G E) H I kk r) :
    RE G (EKof G E) (upd H D u) (I.bld D) (fun a S2 H2 I2 => ∀ H', (∀ b, b ≠ D → H' b = H2 b) → kk a S2 H' I2.unb) r := by
  cases r with
  | ok a S2 =>
    intro H2 I2 k2 r2 H' ho
    exact h H' _ (Keep.unb hD k2 ho) (r2.unb k2.bd (k2.here rl hD) m ho (by rw [k2.bz]; exact rl.apart hD))
  | exn x S2 =>
    intro H2 I2 k2 r2
    have hh := k2.here rl hD
    exact EK_unb (u := u) k2.bd hh m (h H2 _ (Keep.unb hD k2 fun _ _ => rfl) (r2.unb k2.bd hh m (fun _ _ => rfl) (by rw [k2.bz]; exact rl.apart hD)))
  | bad => exact h
/-- an answer's worth where what is being built is changed -/
theorem RE.chg {α : Type} {E : XK} {H : Hp} {I : Ix} {S : So} {D : Addr} {u u' : HO} {kk : AK α} {r : Res α} (rl : Rel G H I S) (hI : D ∈ I.bd) (h0 : H D = some u) (m : isM u = true) (m' : isM u' = true)
    (hK : ∀ a S H H' I, (∀ b, b ≠ D → H' b = H b) → kk a S H I → kk a S H' I) (h : RE G (EKof G E) H I kk r) (hE2 : ∀ C d H H', (∀ b, b ≠ D → H' b = H b) → E C d H → E C d H') : RE G (EKof G E) (upd H D u') I kk r := by
  have hD := (rl.bt D (.inr hI)).2
  cases r with
  | ok a S2 =>
    intro H2 I2 k2 r2
    have hh := (k2.kp D u' upd_same hD).1
    have hI2 : D ∈ I2.bd := by rw [k2.bd]; exact hI
    have r3 : Rel G (upd H2 D u) I2 S2 := r2.chg hI2 hh m' (fun b n => upd_ne n) (by rw [upd_same]; simp)
    exact hK _ _ _ _ _ (fun b n => (upd_ne n).symm) (h _ _ (Keep.chg hD h0 m k2) r3)
  | exn x S2 =>
    intro H2 I2 k2 r2
    have hh := (k2.kp D u' upd_same hD).1
    have hI2 : D ∈ I2.bd := by rw [k2.bd]; exact hI
    have r3 : Rel G (upd H2 D u) I2 S2 := r2.chg hI2 hh m' (fun b n => upd_ne n) (by rw [upd_same]; simp)
    obtain ⟨C, e, q⟩ := h _ _ (Keep.chg hD h0 m k2) r3
    refine ⟨C, e, fun d vs hd rf => ?_⟩
    have nd : d ≠ D := fun z => by subst z; rw [hh] at hd; cases hd; cases m'
    exact hE2 (.ref C) (some d) _ _ (fun b n => (upd_ne n).symm) (q d vs (by rw [upd_ne nd]; exact hd) (rf.mv (Mv.chg hI2 hh m' fun b n => upd_ne n)))
  | bad => exact h
theorem unb_bld {I : Ix} {D : Addr} : (I.bld D).unb = I := rfl
theorem se_dict {m : Bool} {f : Expr → En → So → Res W} (hf : ∀ x, PE X x (tE G (EKof G E) (f x))) {ks : List (Option Expr)} {vs : List Expr} {p : Pos} (ha : ks.all (·.isSome) = true) (hl : ks.length = vs.length) (h0 : ks ≠ []) (h15 : ks.length ≤ 15) :
    PE X (.Dict ks vs p) (tE G (EKof G E) fun e S => (evP (fun x => f x e) ks vs S).bind fun kvs S1 =>
        if kvs.length ≤ 15 ∧ (kvs.all fun kv => flatK kv.1) = true then mkD m (kvs.foldl (fun r kv => putW r kv.1 kv.2) []) S1 else .bad) := by
  obtain ⟨trs, p1, r1⟩ := pps_Z hf (pos := p) ks vs ha hl
  refine (pe_disp p1 ha hl h0 h15).of fun σ H Q ⟨I, S, e, rl, rs, h⟩ D hD => ?_
  have rl0 : Rel G (upd H D (.dK [])) (I.bld D) S := rl.bld hD
  have rs0 : RS G (upd H D (.dK [])) (I.bld D) e σ := rs.mv (Mv.bld hD)
  refine r1 σ _ _ _ e _ _ rl0 rs0 (RE.bld rl hD rfl (RE.bind h)) fun kvs S1 H1 I1 ps k1 rl1 hp h1 => ?_
  have hh := k1.here rl hD
  have h2 := h1 H1 (fun _ _ => rfl)
  split at h2
  · rename_i h15'
    have hp2 : RPs G H1 I1 kvs ps := hp
    obtain ⟨kv, e1, rk⟩ := hp2.kvs h15'.2
    refine ⟨hh, kv, e1, by rw [← rk.len]; exact h15'.1, ?_⟩
    have rk2 : RKs G H1 I1 (kvs.foldl (fun r kv => putW r kv.1 kv.2) []) (mergeK [] kv) := RKs.merge rk .nil
    have ho : ∀ b, b ≠ D → (del H1 D) b = H1 b := fun b n => del_ne n
    have h3 := h1 (del H1 D) ho
    rw [if_pos h15'] at h3
    have r3 : Rel G (del H1 D) I1.unb S1 := rl1.unb k1.bd hh rfl ho (by rw [k1.bz]; exact rl.apart hD)
    have q := mk_dct r3 (RKs.mv (Mv.unb k1.bd hh rfl ho) rk2) h3 D del_at
    rw [upd_del] at q
    exact q
  · exact False.elim h2
/-! ### f-strings -/
theorem se_part {x : Expr} {ra : En → So → Res W} {p : Pos} (hx : PE X x (tE G EE ra)) : PE X (.FormattedValue x (-1) none p) (tFmt (tE G EE ra)) := pe_fmt hx
theorem evJ_Z {f : Expr → En → So → Res W} (hf : ∀ x, PE X x (tE G EE (f x))) : ∀ es : List Expr, (∃ ts, PJ X es ts ∧ ∀ (acc : Str) (σ : L2.St) (H : Hp) (I : Ix) (S : So) (e : En) (Q : Str → Hp → Prop) (kk : AK Str), Rel G H I S → RS G H I e σ → RE G EE H I kk (evJ (fun x => f x e) es acc S) →
      (∀ out S' H' I', Keep H I H' I' → Rel G H' I' S' → kk out S' H' I' → Q out H') → tJs ts acc σ H Q) ∨ ∃ x, x ∈ es ∧ (∀ y j q, x ≠ .Constant (.str y) j q) ∧ ∀ y p, x ≠ .FormattedValue y (-1) none p
  | [] => .inl ⟨[], .nil, fun acc σ H I S e Q kk rl rs h c => c acc S H I (Keep.refl H I) rl (RE.now h rl)⟩
  | x :: es => by
    rcases evJ_Z hf es with ⟨ts, pj, ih⟩ | ⟨y, hy, hn⟩
    · by_cases h1 : ∃ y j q, x = .Constant (.str y) j q
      · obtain ⟨y, j, q, rfl⟩ := h1
        refine .inl ⟨_, .cons (.lift L2.pe_str) pj, fun acc σ H I S e Q kk rl rs h c => ?_⟩
        unfold evJ at h
        split at h
        · rename_i hl
          exact ⟨y, rfl, hl, ih _ σ H I S e Q kk rl rs h c⟩
        · exact False.elim h
      · by_cases h2 : ∃ y p, x = .FormattedValue y (-1) none p
        · obtain ⟨y, p, rfl⟩ := h2
          refine .inl ⟨_, .cons (pe_fmt (hf y)) pj, fun acc σ H I S e Q kk rl rs h c => ?_⟩
          unfold evJ at h
          refine tE.step rl rs h fun w S1 H1 I1 v k1 rl1 hv h3 => ?_
          cases w with
          | str z =>
            unfold RW at hv
            subst hv
            simp only at h3
            split at h3
            · rename_i hl
              refine .inl ⟨z, rfl, hl.1, z, rfl, hl.2, ih _ σ H1 I1 S1 e Q kk rl1 (rs.mono k1) h3 fun out S' H' I' k2 => c out S' H' I' (k1.trans k2)⟩
            · exact False.elim h3
          | _ => exact False.elim h3
        · exact .inr ⟨x, List.mem_cons_self, fun y j q z => h1 ⟨y, j, q, z⟩, fun y p z => h2 ⟨y, p, z⟩⟩
    · exact .inr ⟨y, List.mem_cons_of_mem _ hy, hn⟩
theorem se_joined {f : Expr → En → So → Res W} (hf : ∀ x, PE X x (tE G EE (f x))) {es : List Expr} {p : Pos} (ha : es.all partJ = true) (h2 : 2 ≤ es.length) :
    PE X (.JoinedStr es p) (tE G EE fun e S => (evJ (fun x => f x e) es Str.empty S).bind fun x S1 => .ok (.str x) S1) := by
  rcases evJ_Z hf es with ⟨ts, pj, ih⟩ | ⟨y, hy, n1, n2⟩
  · cases es with
    | nil => simp at h2
    | cons a r =>
      cases r with
      | nil => simp at h2
      | cons b r =>
        refine (pe_joined pj).of fun σ H Q ⟨I, S, e, rl, rs, h⟩ => ?_
        exact ih Str.empty σ H I S e _ _ rl rs (RE.bind h) fun out S' H' I' k1 rl1 h1 => kV_now (E := EE) (S := S') h1 rl1 (by unfold RW; rfl)
  · have q := List.all_eq_true.mp ha y hy
    unfold partJ at q
    split at q
    · exact absurd rfl (n1 _ _ _)
    · have := of_decide_eq_true q
      subst this
      exact absurd rfl (n2 _ _)
    · cases q

/-! ### calls of built-ins and methods -/
theorem builtin_nil (m : Bool) (f : Str) (S : So) : builtin m f [] S = .bad := by
  unfold builtin
  simp only [ite_self]
theorem tCB_Z {m : Bool} {es : List Expr} {rs' : En → So → Res (List W)} {f : Str} {σ : L2.St} {H : Hp} {Q : VK} (h : tE G EE (fun e S => (rs' e S).bind fun us S1 => builtin m f us S1) σ H Q) : tCB (rBi G EE m f) (tAs G EE rs') σ H Q := by
  obtain ⟨I, S, e, rl, rs, h⟩ := h
  exact tAs.step rl rs h fun ws S1 H1 I1 vs k1 rl1 hv h1 => ⟨I1, S1, ws, rl1, hv, h1⟩
theorem se_builtin (C : Cz P call CX k sx G E X) {m : Bool} {f : Str} {p pos : Pos} {es : List Expr} {rs' : En → So → Res (List W)} (hF : P.F f = none) (hb : f ∈ builtins) (hg : sx.sc.names.lookup f = some .globalImplicit) (ha : PA X es (tAs G EE rs')) (hst : es.all (fun e => !isStar e) = true)
    (hn : ∀ e S, es = [] → rs' e S = .ok [] S) : PE X (.Call (.Name f p) es [] pos) (tE G EE fun e S => (rs' e S).bind fun us S1 => builtinI P.isa m f us S1) := by
  cases es with
  | nil =>
    refine PE.never fun σ H Q ⟨I, S, e, rl, rs, h⟩ => ?_
    have e1 : builtinI P.isa m f [] S = builtin m f [] S := by
      unfold builtinI
      split <;> rfl
    simp only [hn e S rfl, Res.bind, e1, builtin_nil] at h
    exact h
  | cons x r =>
    have hst2 := hst
    rw [List.all_cons, Bool.and_eq_true] at hst2
    have hs1 := starE (es := r) (env := X.env) (e := x) (by simpa using hst2.1)
    have hs2 := plainS (pos := pos) (env := X.env) hst2.2
    · have hm : X.mg f = none := C.bi f (List.mem_cons_of_mem _ hb) hF
      have gl := C.gl hg
      have u1 : X.A.units + 200 < cLine := units200 C.room
      by_cases hii : f = "isinstance"
      · subst hii
        exact (pe_callB (bi_isiI (EE := EE) C m) gl hm (by decide +kernel) ha (by decide) (by decide) hs1 hs2).of fun σ H Q ⟨I, S, e, rl, rs, h⟩ => tAs.step rl rs h fun ws S1 H1 I1 v k1 rl1 hv h1 => ⟨I1, S1, ws, rl1, hv, h1⟩
      simp only [builtinI_of hii]
      unfold builtins at hb
      simp only [List.mem_cons, List.not_mem_nil, or_false] at hb
      rcases hb with rfl | rfl | rfl | rfl | rfl | rfl | rfl | rfl | rfl | rfl
      · exact (pe_callB (bi_len (X := X.nox) C.K C.wd m) gl hm PySem.boot_len ha (by decide) (by decide) hs1 hs2).of fun σ H Q h => tCB_Z (es := []) h
      · exact (pe_callTy (bi_int (X := X.nox) m) gl hm (by decide +kernel) ha (by decide) (by decide) hs1 hs2).of fun σ H Q h => tCB_Z (es := []) h
      · exact (pe_callB (bi_max (X := X.nox) C.K C.calm m) gl hm (by decide +kernel) ha (by decide) (by decide) hs1 hs2).of fun σ H Q h => tCB_Z (es := []) h
      · exact (pe_callB (bi_min (X := X.nox) C.K C.calm m) gl hm (by decide +kernel) ha (by decide) (by decide) hs1 hs2).of fun σ H Q h => tCB_Z (es := []) h
      · exact (pe_callTy (bi_tuple (X := X.nox) C.K m) gl hm (by decide +kernel) ha (by decide) (by decide) hs1 hs2).of fun σ H Q h => tCB_Z (es := []) h
      · exact (pe_callTy (bi_list (X := X.nox) C.K m) gl hm (by decide +kernel) ha (by decide) (by decide) hs1 hs2).of fun σ H Q h => tCB_Z (es := []) h
      · exact (pe_callB (bi_all (X := X.nox) C.K C.calm m) gl hm (by decide +kernel) ha (by decide) (by decide) hs1 hs2).of fun σ H Q h => tCB_Z (es := []) h
      · exact (pe_callB (bi_any (X := X.nox) C.K C.calm m) gl hm (by decide +kernel) ha (by decide) (by decide) hs1 hs2).of fun σ H Q h => tCB_Z (es := []) h
      · exact absurd rfl hii
      · exact (pe_callB (bi_repr (X := X.nox) C.K C.grd u1 C.sys m) gl hm (by decide +kernel) ha (by decide) (by decide) hs1 hs2).of fun σ H Q h => tCB_Z (es := []) h
end
end Y

/-! Methods, own calls. -/
namespace Y
open PySem PySem.Spec PyProof.Rows L2
open D (model2 Kept Cl Alike deadS)
section
variable {P : Pg} {call : Cf} {CX : CXT} {k : Nat} {sx : Sx} {G : Gd} {E : XK} {X : Cx} {EE : EK}
theorem base_ok {o : Expr} {m : Str} {env : Env} {whole : Sem Value} (h : isSuper o = false) : attributeBase o m env whole = whole := by
  unfold attributeBase
  split
  · cases h
  · rfl
theorem valTy_ok (hG : G.K = X.K) {H : Hp} {I : Ix} {S : So} {x : W} {v : V} {T : String} (r : Rel G H I S) (h : RW G H I x v) (e : valTy x S = some T) (ht : T ≠ "dict") : tyV X.K T v H := by
  unfold valTy at e
  split at e
  · unfold RW at h; subst h; cases e; rfl
  · unfold RW at h; obtain ⟨a, vs, rfl, sq, _⟩ := h; cases e
    have q := sq.now
    rw [hG] at q
    exact .inl ⟨rfl, vs, q⟩
  · cases e; exact absurd rfl ht
  · cases e; exact absurd rfl ht
  · unfold RW at h; obtain ⟨a, rfl, hi⟩ := h
    split at e
    · rename_i hS
      obtain ⟨vs, q, _⟩ := r.obj _ _ _ hS hi
      cases e; exact .inl ⟨rfl, vs, .of q⟩
    · cases e; exact absurd rfl ht
    · cases e; exact absurd rfl ht
    · cases e
  · cases e
theorem valTy_dict (hW : G.w = X.w) {H : Hp} {I : Ix} {S : So} {x : W} {v : V} (r : Rel G H I S) (h : RW G H I x v) (e : valTy x S = some "dict") : tyD X.w v H := by
  have fin : ∀ {kvs}, dctOf x S = some kvs → tyD X.w v H := fun ed => by
    obtain ⟨l, vs, rfl, q1, _⟩ := dct_of r h ed
    exact ⟨l, rfl, .inl ⟨vs, q1⟩⟩
  have fin2 : ∀ {kvs}, ndOf x S = some kvs → tyD X.w v H := fun ed => by
    obtain ⟨l, vs, rfl, q1, _⟩ := nd_of r h ed
    rw [hW] at q1
    exact ⟨l, rfl, .inr ⟨vs, q1⟩⟩
  unfold valTy at e
  split at e
  · exact absurd e (by decide)
  · exact absurd e (by decide)
  · exact fin (kvs := _) rfl
  · exact fin2 (kvs := _) rfl
  · rename_i i
    split at e
    · exact absurd e (by decide)
    · rename_i kvs hS
      exact fin (kvs := kvs) (by unfold dctOf; simp only [hS])
    · rename_i kvs hS
      exact fin2 (kvs := kvs) (by unfold ndOf; simp only [hS])
    · cases e
  · cases e
theorem few_ok {es : List Expr} {cp : Pos} {env : Env} (hst : es.all (fun e => !isStar e) = true) (hl : es.length < 20) :
    ((backTo cp (starEach es env)).all (fun x => !x.1) && (backToKw cp (keywordEach [] env)).all (fun x => x.1.isSome) && decide (es.length + ([] : List Keyword).length + (if ([] : List Keyword).isEmpty then 0 else 1) < 30)) = true := by
  have h1 : (backTo cp (starEach es env)).all (fun x => !x.1) = true := by
    have := plainS (pos := cp) (env := env) hst
    rw [List.any_eq_false] at this
    rw [List.all_eq_true]
    intro x hx
    have := this x hx
    simpa using this
  rw [h1]
  simp only [Bool.true_and, keywordEach, backToKw, List.map_nil, List.all_nil, List.length_nil, List.isEmpty_nil, if_true]
  exact decide_eq_true (by omega)
theorem tBM_Z (hG : G.K = X.K) {mu : Bool} {ra : En → So → Res W} {rs' : En → So → Res (List W)} {m : Str} {T : String} {σ : L2.St} {H : Hp} {Q : VK}
    (ht : T ≠ "dict") (h : tE G EE (fun e S => (ra e S).bind fun u S1 => if valTy u S1 = some T then (rs' e S1).bind fun us S2 => method mu u m us S2 else .bad) σ H Q) : tBM X.K T (rMt G EE mu m) (tE G EE ra) (tAs G EE rs') σ H Q := by
  obtain ⟨I, S, e, rl, rs, h⟩ := h
  refine tE.step rl rs h fun w S1 H1 I1 v k1 rl1 hv h1 => ?_
  split at h1
  · rename_i hty
    refine ⟨valTy_ok hG rl1 hv hty ht, ?_⟩
    exact tAs.step (S := S1) rl1 (rs.mono k1) h1 fun ws S2 H2 I2 vs k2 rl2 hvs h2 => ⟨I2, S2, w, ws, rl2, hv.mono k2, hvs, h2⟩
  · exact False.elim h1
theorem tMG_Z (hW : G.w = X.w) {mu : Bool} {ra : En → So → Res W} {rs' : En → So → Res (List W)} {m : Str} {σ : L2.St} {H : Hp} {Q : VK}
    (h : tE G EE (fun e S => (ra e S).bind fun u S1 => if valTy u S1 = some "dict" then (rs' e S1).bind fun us S2 => method mu u m us S2 else .bad) σ H Q) : tMG (tyD X.w) (rMt G EE mu m) (tE G EE ra) (tAs G EE rs') σ H Q := by
  obtain ⟨I, S, e, rl, rs, h⟩ := h
  refine tE.step rl rs h fun w S1 H1 I1 v k1 rl1 hv h1 => ?_
  split at h1
  · rename_i hty
    refine ⟨valTy_dict hW rl1 hv hty, ?_⟩
    exact tAs.step (S := S1) rl1 (rs.mono k1) h1 fun ws S2 H2 I2 vs k2 rl2 hvs h2 => ⟨I2, S2, w, ws, rl2, hv.mono k2, hvs, h2⟩
  · exact False.elim h1
theorem se_meth (C : Cz P call CX k sx G E X) {mu : Bool} {o : Expr} {m : Str} {ap cp : Pos} {es : List Expr} {ra : En → So → Res W} {rs' : En → So → Res (List W)} (ho : PE X o (tE G EE ra)) (ha : PA X es (tAs G EE rs'))
    (hl : (ap.endLine == cp.line) = true) (hst : es.all (fun e => !isStar e) = true) (h1 : 1 ≤ es.length) (h20 : es.length < 20) (hs : isSuper o = false) {T : String} (hT : methTy m = some T) :
    PE X (.Call (.Attribute o m ap) es [] cp) (tE G EE fun e S => (ra e S).bind fun u S1 => if valTy u S1 = some T then (rs' e S1).bind fun us S2 => method mu u m us S2 else .bad) := by
  cases es with
  | nil => simp at h1
  | cons x r =>
    have hfew := few_ok (cp := cp) (env := X.env) hst h20
    rw [List.all_cons, Bool.and_eq_true] at hst
    have hs1 := starE (es := r) (env := X.env) (e := x) (by simpa using hst.1)
    have hs2 := plainS (pos := cp) (env := X.env) hst.2
    have hb := base_ok (m := m) (env := X.env) (whole := eval o X.env) hs
    by_cases m1 : m = "append"
    · subst m1
      cases hT
      exact (pe_bm PySem.F.plainAttrs_list PySem.F.slot_list_append PySem.F.type_list_append (mz_append mu) ho ha hb hfew hl hs1 hs2).of fun σ H Q h => tBM_Z C.K (by decide) h
    · by_cases m2 : m = "join"
      · subst m2
        cases hT
        exact (pe_bm PySem.F.plainAttrs_str PySem.F.slot_str_join PySem.F.type_str_join (mz_join (X := X.nox) C.K mu) ho ha hb hfew hl hs1 hs2).of fun σ H Q h => tBM_Z C.K (by decide) h
      · by_cases m3 : m = "split"
        · subst m3
          cases hT
          exact (pe_bm PySem.F.plainAttrs_str PySem.F.slot_str_split PySem.F.type_str_split (mz_split mu) ho ha hb hfew hl hs1 hs2).of fun σ H Q h => tBM_Z C.K (by decide) h
        · by_cases m4 : m = "partition"
          · subst m4
            cases hT
            exact (pe_bm PySem.F.plainAttrs_str PySem.F.slot_str_partition PySem.F.type_str_partition (mz_partition mu) ho ha hb hfew hl hs1 hs2).of fun σ H Q h => tBM_Z C.K (by decide) h
          · by_cases m5 : m = "extend"
            · subst m5
              cases hT
              exact (pe_bm PySem.F.plainAttrs_list PySem.F.slot_list_extend PySem.F.type_list_extend (mz_extend (X := X.nox) C.K mu) ho ha hb hfew hl hs1 hs2).of fun σ H Q h => tBM_Z C.K (by decide) h
            · by_cases m6 : m = "pop"
              · subst m6
                cases hT
                exact (pe_bm PySem.F.plainAttrs_list PySem.F.slot_list_pop PySem.F.type_list_pop (mz_pop mu) ho ha hb hfew hl hs1 hs2).of fun σ H Q h => tBM_Z C.K (by decide) h
              · by_cases m7 : m = "get"
                · subst m7
                  cases hT
                  exact (pe_mG tyD_ok PySem.F.plainAttrs_dict PySem.F.slot_dict_get PySem.F.type_dict_get (mz_get (X := X.nox) C.K C.wd (units200 C.room) mu) ho ha hb hfew hl hs1 hs2).of fun σ H Q h => tMG_Z C.wd h
                · have hn : methTy m = none := by
                    unfold methTy
                    rw [if_neg m1, if_neg m2, if_neg m3, if_neg m4, if_neg m5, if_neg m6, if_neg m7]
                  rw [hn] at hT
                  cases hT
/-- l.pop() -/
theorem se_pop0 (C : Cz P call CX k sx G E X) {mu : Bool} {o : Expr} {ap cp : Pos} {ra : En → So → Res W} (ho : PE X o (tE G EE ra)) (hl : (ap.endLine == cp.line) = true) (hs : isSuper o = false) :
    PE X (.Call (.Attribute o "pop" ap) [] [] cp) (tE G EE fun e S => (ra e S).bind fun u S1 => if valTy u S1 = some "list" then (Res.ok [] S1).bind fun us S2 => method mu u "pop" us S2 else .bad) := by
  refine (pe_bm0 PySem.F.plainAttrs_list PySem.F.slot_list_pop PySem.F.type_list_pop (mz_pop (G := G) (E := EE) mu) ho (base_ok hs) hl).of fun σ H Q ⟨I, S, e, rl, rs, h⟩ => ?_
  refine tE.step rl rs h fun w S1 H1 I1 v k1 rl1 hv h1 => ?_
  split at h1
  · rename_i hty
    exact ⟨valTy_ok C.K rl1 hv hty (by decide), I1, S1, w, [], rl1, hv, .nil, h1⟩
  · exact False.elim h1
/-- the call of a def of the program -/
def ownR (call : Cf) (f : Str) (fi : Fi) (ks : List (Option Str)) (us ws : List W) (S : So) : Res W := match argsOf fi us ks ws with
  | some vs => call f vs S
  | none => .bad
theorem sp_of {f : Str} {fi : Fi} {H : Hp} {I : Ix} {S : So} {ws : List W} {vs : List V} {Q : VK} (rl : Rel G H I S) (h : RWs G H I ws vs) (hl : ws.length = fi.ps.length) (q : RE G (EKof G E) H I (kV' G Q) (call f ws S)) : spZ G call f fi.ps.length vs H Q E :=
  ⟨I, S, ws, rl, h, hl, q⟩
theorem se_own (C : Cz P call CX k sx G E X) {f : Str} {fi : Fi} {p pos : Pos} {es : List Expr} {kws : List Keyword} {g : Expr → En → So → Res W} (hF : P.F f = some fi) (hok : okN f = true) (hg : sx.sc.names.lookup f = some .globalImplicit)
    (hf : ∀ x, PE X x (tE G (EKof G E) (g x))) (hs : ∀ x e S, isStar x = true → g x e S = .bad) (hpl : plainA es kws = true) :
    PE X (.Call (.Name f p) es kws pos) (tE G (EKof G E) fun e S => (evL (fun x => g x e) es S).bind fun us S1 => (evK (fun x => g x e) kws S1).bind fun ws S2 => ownR call f fi (kws.map (·.arg)) us ws S2) := by
  obtain ⟨fa, fd, cf, F⟩ := C.cal f fi hF
  unfold plainA at hpl
  rw [Bool.and_eq_true] at hpl
  obtain ⟨hst, hkw⟩ := hpl
  have ha := pa_Z hf hs es
  have hk := pk_Z hf kws
  have noK : ∀ {us : List W} {S : So} {H : Hp} {I : Ix} {vs : List V} {Q : VK}, Rel G H I S → RWs G H I us vs → RE G (EKof G E) H I (kV' G Q) (ownR call f fi [] us [] S) → vs.length = fi.ps.length ∧ spZ G call f fi.ps.length vs H Q E := fun {us S H I vs Q} rl hv h => by
    unfold ownR argsOf at h
    simp only [List.isEmpty_nil, if_true] at h
    by_cases hl : us.length = fi.ps.length
    · simp only [hl, if_true] at h
      exact ⟨by rw [← hv.len]; exact hl, sp_of rl hv hl h⟩
    · simp only [hl, if_false] at h
      exact False.elim h
  have wiK : ∀ {us ws : List W} {S : So} {H : Hp} {I : Ix} {vs zs : List V} {Q : VK} {kw : Keyword} {kr : List Keyword}, kws = kw :: kr → ws.length = kws.length → Rel G H I S → RWs G H I us vs → RWs G H I ws zs → RE G (EKof G E) H I (kV' G Q) (ownR call f fi (kws.map (·.arg)) us ws S) →
      (vs.length, (kws.map (·.arg)).filterMap id) ∈ fi.kws ∧ zs.length = ((kws.map (·.arg)).filterMap id).length ∧ spZ G call f fi.ps.length (ordK fi.ps ((kws.map (·.arg)).filterMap id) vs zs) H Q E := fun {us ws S H I vs zs Q kw kr} ek hwl rl hv hz h => by
    unfold ownR argsOf at h
    have he : (kws.map (·.arg)).isEmpty = false := by rw [ek]; rfl
    simp only [he, Bool.false_eq_true, if_false] at h
    split at h
    · rename_i q
      split at q
      · rename_i hm
        cases q
        have hfl : ((kws.map (·.arg)).filterMap id).length = kws.length := by
          have : ∀ l : List Keyword, (l.map (·.arg)).all (·.isSome) = true → ((l.map (·.arg)).filterMap id).length = l.length := by
            intro l
            induction l with
            | nil => intro _; rfl
            | cons a r ih =>
              intro ha
              simp only [List.map_cons, List.all_cons, Bool.and_eq_true] at ha
              obtain ⟨y, hy⟩ := Option.isSome_iff_exists.mp ha.1
              rw [List.map_cons, List.filterMap_cons, hy]
              show (_ :: _).length = _
              rw [List.length_cons, List.length_cons, ih ha.2]
          exact this kws hkw
        have hzl : zs.length = ((kws.map (·.arg)).filterMap id).length := by rw [hfl, ← hwl, hz.len]
        refine ⟨by rw [← hv.len]; exact hm.1, hzl, sp_of rl (.ofP (ord_pair hv.paired hz.paired)) ?_ h⟩
        obtain ⟨_, hb⟩ := cf.kws _ _ hm.1
        obtain ⟨h1, _⟩ := hb (us.map fun _ => Value.none) (ws.map fun _ => Value.none) (by simp) (by rw [List.length_map, hwl, hfl])
        have h2 : (ordK fi.ps ((kws.map (·.arg)).filterMap id) us ws).length = (ordK fi.ps ((kws.map (·.arg)).filterMap id) (us.map fun _ => Value.none) (ws.map fun _ => Value.none)).length := by
          have pr : ∀ l : List W, Paired (fun (_ : W) (_ : Value) => True) l (l.map fun _ => Value.none) := fun l => by
            induction l with
            | nil => exact .nil
            | cons a r ih => exact .cons True.intro ih
          exact Paired.length (ord_pair (R := fun (_ : W) (_ : Value) => True) (pr us) (pr ws))
        rw [h2]; exact h1
      · cases q
    · exact False.elim h
  have kLen : ∀ {e : En} {S S' : So} {ws : List W} {l : List Keyword}, evK (fun x => g x e) l S = .ok ws S' → ws.length = l.length := by
    intro e S S' ws l
    induction l generalizing S ws with
    | nil => intro h; unfold evK at h; cases h; rfl
    | cons a r ih =>
      intro h
      unfold evK at h
      cases q : g a.value e S with
      | ok w S1 =>
        simp only [q, Res.bind] at h
        cases q2 : evK (fun x => g x e) r S1 with
        | ok r' S2 => simp only [q2] at h; cases h; simp [ih q2]
        | exn _ _ => simp only [q2] at h; cases h
        | bad => simp only [q2] at h; cases h
      | exn _ _ => simp only [q, Res.bind] at h; cases h
      | bad => simp only [q, Res.bind] at h; cases h
  cases kws with
  | nil =>
    cases es with
    | nil =>
      refine (own0 C hok hg cf F).of fun σ H Q ⟨I, S, e, rl, rs, h⟩ => ?_
      exact noK (us := []) (vs := []) rl .nil h
    | cons x r =>
      refine (own1 C hok hg cf F ha hst).of fun σ H Q ⟨I, S, e, rl, rs, h⟩ => ?_
      exact tAs.step rl rs h fun us S1 H1 I1 vs k1 rl1 hv h1 => noK rl1 hv h1
  | cons kw kr =>
    have kstep : ∀ {σ : L2.St} {H : Hp} {I : Ix} {S : So} {e : En} {us : List W} {vs : List V} {Q : VK}, Rel G H I S → RS G H I e σ → RWs G H I us vs → RE G (EKof G E) H I (kV' G Q) ((evK (fun x => g x e) (kw :: kr) S).bind fun ws S2 => ownR call f fi ((kw :: kr).map (·.arg)) us ws S2) →
        tAs G (EKof G E) (fun e S => evK (fun x => g x e) (kw :: kr) S) σ H (fun zs H1 => (vs.length, ((kw :: kr).map (·.arg)).filterMap id) ∈ fi.kws ∧ zs.length = (((kw :: kr).map (·.arg)).filterMap id).length ∧ spZ G call f fi.ps.length (ordK fi.ps (((kw :: kr).map (·.arg)).filterMap id) vs zs) H1 Q E) := fun {σ H I S e us vs Q} rl rs hv h => by
      refine ⟨I, S, e, rl, rs, ?_⟩
      show RE G (EKof G E) H I _ (evK (fun x => g x e) (kw :: kr) S)
      cases q : evK (fun x => g x e) (kw :: kr) S with
      | bad => rw [q] at h; exact h
      | exn x S1 => rw [q] at h; exact h
      | ok ws S1 =>
        rw [q] at h
        exact fun H1 I1 k1 rl1 zs hz => wiK rfl (kLen q) rl1 (hv.mono k1) hz (RE.mono k1 h)
    cases es with
    | nil =>
      refine (own2 C hok hg cf F hk hkw).of fun σ H Q ⟨I, S, e, rl, rs, h⟩ => ?_
      exact kstep (us := []) (vs := []) rl rs .nil h
    | cons x r =>
      refine (own3 C hok hg cf F ha hst hk hkw).of fun σ H Q ⟨I, S, e, rl, rs, h⟩ => ?_
      exact tAs.step rl rs h fun us S1 H1 I1 vs k1 rl1 hv h1 => kstep rl1 (rs.mono k1) hv h1
end
end Y

/-! Walks, targets, comprehensions. -/
namespace Y
open PySem PySem.Spec PyProof.Rows L2
open D (model2 Kept Cl Alike deadS)
section
variable {P : Pg} {call : Cf} {CX : CXT} {k : Nat} {sx : Sx} {G : Gd} {E : XK} {X : Cx} {EE : EK}
/-- the layer's walk J does what ours does -/
def WkJ (G : Gd) (q : Wk) (J : It) (H : Hp) (I : Ix) : Prop := ∀ H2 I2 S2 j, Mv H I H2 I2 → Rel G H2 I2 S2 →
  (∀ w, q.at j S2 = some (some w) → J.go j H2 ∧ ∀ x H3, J.yld j H2 x H3 → Keep H2 I2 H3 I2 ∧ Rel G H3 I2 S2 ∧ RW G H3 I2 w x) ∧ (q.at j S2 = some none → J.stop j H2)
def kW (G : Gd) (R : It → Hp → Prop) : AK Wk := fun q _ H I => ∀ J, WkJ G q J H I → R J H
def tI (G : Gd) (EE : EK) (r : En → So → Res Wk) : TI := fun σ H R => ∃ I S e, Rel G H I S ∧ RS G H I e σ ∧ RE G EE H I (kW G R) (r e S)
theorem RWs.inv2 {H : Hp} {I : Ix} {ws : List W} {vs us : List V} (h : RWs G H I ws vs) (j : Nat) {w : W} (e : ws[j]? = some w) : ∃ v, vs[j]? = some v ∧ RW G H I w v := h.get e
theorem wk_tup (hG : G.K = X.K) {pins : List (Addr × Obj)} {σ : L2.St} {s : Shared} {H : Hp} {I : Ix} {a : Addr} {ws : List W} {vs : List V} (sq : SqT G.K H a vs) (z : RWs G H I ws vs)
    : WkJ G (.seq ws) (Itt X.K a) H I := by
  intro H2 I2 S2 j k2 rl2
  rw [hG] at sq
  have sq2 := k2.sqT sq
  have z2 := z.mv k2
  refine ⟨fun w e => ?_, fun e => ?_⟩
  · have e' : ws[j]? = some w := Option.some.inj e
    obtain ⟨v, e1, hv⟩ := z2.get e'
    refine ⟨⟨vs, v, sq2, e1⟩, fun x H3 ⟨e2, e3⟩ => ?_⟩
    subst e2
    have e4 := e3 vs sq2
    rw [e1] at e4; cases e4
    exact ⟨Keep.refl _ _, rl2, hv⟩
  · have e' : ws[j]? = none := Option.some.inj e
    have e1 := z2.getN e'
    exact ⟨vs, sq2, by rw [List.getElem?_eq_none_iff] at e1; exact e1⟩
theorem wk_fl (hG : G.K = X.K) {H : Hp} {I : Ix} {t : Bool} {a : Addr} {ws : List W} {vs : List V} (sq : FzL G.K H I t a vs) (z : RWs G H I ws vs) : WkJ G (.seq ws) (Itl X.K a) H I := by
  intro H2 I2 S2 j k2 rl2
  have sq2 := (k2.fzL sq).now
  rw [hG] at sq2
  have z2 := z.mv k2
  refine ⟨fun w e => ?_, fun e => ?_⟩
  · have e' : ws[j]? = some w := Option.some.inj e
    obtain ⟨v, e1, hv⟩ := z2.get e'
    refine ⟨⟨vs, v, sq2, e1⟩, fun x H3 ⟨e2, e3⟩ => ?_⟩
    subst e2
    have e4 := e3 vs sq2
    rw [e1] at e4; cases e4
    exact ⟨Keep.refl _ _, rl2, hv⟩
  · have e' : ws[j]? = none := Option.some.inj e
    have e1 := z2.getN e'
    exact ⟨vs, sq2, by rw [List.getElem?_eq_none_iff] at e1; exact e1⟩
theorem wk_live {H : Hp} {I : Ix} {a : Addr} {i n : Nat} (hi : I.st[i]? = some a) : WkJ G (.live i n) (Itl X.K a) H I := by
  intro H2 I2 S2 j k2 rl2
  have hi2 := pre_get k2.st hi
  refine ⟨fun w e => ?_, fun e => ?_⟩
  · unfold Wk.at at e
    simp only at e
    split at e
    · rename_i xs hS
      have e' : xs[j]? = some w := Option.some.inj e
      obtain ⟨vs, q, z⟩ := rl2.obj _ _ _ hS hi2
      obtain ⟨v, e1, hv⟩ := z.get e'
      refine ⟨⟨vs, v, .of q, e1⟩, fun x H3 ⟨e2, e3⟩ => ?_⟩
      subst e2
      have e4 := e3 vs (.of q)
      rw [e1] at e4; cases e4
      exact ⟨Keep.refl _ _, rl2, hv⟩
    · cases e
  · unfold Wk.at at e
    simp only at e
    split at e
    · rename_i xs hS
      have e' : xs[j]? = none := Option.some.inj e
      obtain ⟨vs, q, z⟩ := rl2.obj _ _ _ hS hi2
      have e1 := z.getN e'
      exact ⟨vs, .of q, by rw [List.getElem?_eq_none_iff] at e1; exact e1⟩
    · cases e
theorem wk_str {H : Hp} {I : Ix} (z : Str) : WkJ G (.seq (z.cps.toList.map fun c => W.str ⟨#[c]⟩)) (Its z) H I := by
  intro H2 I2 S2 j k2 rl2
  refine ⟨fun w e => ?_, fun e => ?_⟩
  · have e' := Option.some.inj e
    rw [List.getElem?_map] at e'
    obtain ⟨c, e1, e2⟩ := Option.map_eq_some_iff.mp e'
    rw [Array.getElem?_toList] at e1
    refine ⟨(Array.getElem?_eq_some_iff.mp e1).1, fun x H3 ⟨e3, c', e4, e5⟩ => ?_⟩
    subst e3 e5 e2
    rw [e1] at e4; cases e4
    exact ⟨Keep.refl _ _, rl2, by unfold RW; rfl⟩
  · have e' := Option.some.inj e
    rw [List.getElem?_map, Option.map_eq_none_iff, Array.getElem?_toList] at e'
    exact Array.getElem?_eq_none_iff.mp e'
theorem wk_range {H : Hp} {I : Ix} (lo : Int) (n : Nat) : WkJ G (.seq (rangeW lo n)) (Itr lo n) H I := by
  intro H2 I2 S2 j k2 rl2
  unfold rangeW
  refine ⟨fun w e => ?_, fun e => ?_⟩
  · have e' := Option.some.inj e
    rw [List.getElem?_map] at e'
    obtain ⟨c, e1, e2⟩ := Option.map_eq_some_iff.mp e'
    obtain ⟨hl, e3⟩ := List.getElem?_eq_some_iff.mp e1
    rw [List.getElem_range] at e3
    rw [List.length_range] at hl
    subst e3
    refine ⟨hl, fun x H3 ⟨e4, e5⟩ => ?_⟩
    subst e4 e5 e2
    exact ⟨Keep.refl _ _, rl2, by unfold RW; rfl⟩
  · have e' := Option.some.inj e
    rw [List.getElem?_map, Option.map_eq_none_iff, List.getElem?_eq_none_iff, List.length_range] at e'
    exact e'
theorem enumW_get : ∀ {ws : List W} (i j : Nat), (enumW i ws)[j]? = (ws[j]?).map fun w => W.tup [.int ((i + j : Nat) : Int), w]
  | [], i, j => by simp [enumW]
  | w :: ws, i, 0 => by simp [enumW]
  | w :: ws, i, j + 1 => by
    simp only [enumW, List.getElem?_cons_succ]
    rw [enumW_get (i + 1) j, show i + 1 + j = i + (j + 1) by omega]
theorem wk_enum (hG : G.K = X.K) {H : Hp} {I : Ix} {t : Bool} {a : Addr} {ws : List W} {vs : List V} (sq : FzL G.K H I t a vs) (z : RWs G H I ws vs) : WkJ G (.seq (enumW 0 ws)) (Ite X.K a) H I := by
  intro H2 I2 S2 j k2 rl2
  have sq2 := (k2.fzL sq).now
  rw [hG] at sq2
  have z2 := z.mv k2
  refine ⟨fun w e => ?_, fun e => ?_⟩
  · have e' : (enumW 0 ws)[j]? = some w := Option.some.inj e
    rw [enumW_get] at e'
    obtain ⟨y, e1, rfl⟩ := Option.map_eq_some_iff.mp e'
    obtain ⟨v, e2, hv⟩ := z2.get e1
    refine ⟨⟨vs, v, sq2, e2⟩, fun x H3 ⟨T, x', ex, hT, e3, e4⟩ => ?_⟩
    subst ex e3
    have e5 := e4 vs sq2
    rw [e2] at e5; cases e5
    have k3 : Keep H2 I2 (L2.upd H2 T (.tup [.int (j : Nat), v])) I2 := Keep.junk hT
    refine ⟨k3, rl2.junk hT, ?_⟩
    rw [RW]
    refine ⟨T, _, rfl, .inl (.inl upd_same), .cons ?_ (.cons (hv.mono k3) .nil)⟩
    rw [RW, Nat.zero_add]
  · have e' : (enumW 0 ws)[j]? = none := Option.some.inj e
    rw [enumW_get, Option.map_eq_none_iff] at e'
    have e1 := z2.getN e'
    exact ⟨vs, sq2, by rw [List.getElem?_eq_none_iff] at e1; exact e1⟩
theorem isEnum_ok {iter x : Expr} (h : isEnum iter = some x) : ∃ p pos, iter = .Call (.Name "enumerate" p) [x] [] pos ∧ isStar x = false := by
  unfold isEnum at h
  split at h
  · split at h
    · rename_i hc
      cases h
      obtain ⟨rfl, h1⟩ := hc
      exact ⟨_, _, rfl, h1⟩
    · cases h
  · cases h
theorem isTupE_ok {tg : Expr} (h : isTupE tg = true) : ∃ es k p, tg = .Tuple es k p := by
  cases tg <;> first | exact ⟨_, _, _, rfl⟩ | cases h
theorem fold_ok {iter : Expr} {env : Env} (h : isSet iter = false) (x : Value) : foldedSetIterable iter env x = pure x := by
  cases iter <;> first | rfl | cases h
theorem isRange_ok {iter : Expr} {es : List Expr} (h : isRange iter = some es) : ∃ p pos, iter = .Call (.Name "range" p) es [] pos ∧ es.all (fun e => !isStar e) = true ∧ (es.length = 1 ∨ es.length = 2) := by
  unfold isRange at h
  split at h
  · split at h
    · rename_i hc
      cases h
      obtain ⟨rfl, h1, h2⟩ := hc
      exact ⟨_, _, rfl, h1, h2⟩
    · cases h
  · cases h
theorem pi_Z (C : Cz P call CX k sx G E X) {tg : Expr} {f : Expr → En → So → Res W} (hf : ∀ x, PE X x (tE G EE (f x))) (hs : ∀ x e S, isStar x = true → f x e S = .bad) (iter : Expr) : PI X tg iter (tI G EE fun e S => walkE (rgF P sx) tg (fun x => f x e) iter S) := by
  refine ⟨fun pins s σ H R J ⟨I, S, e, rl, rs, h⟩ => ?_⟩
  unfold walkE at h
  simp only at h
  split at h
  · exact False.elim h
  · rename_i hset
    split at h
    · rename_i x er
      obtain ⟨p, pos, rfl, hst⟩ := isEnum_ok er
      split at h
      · rename_i hrt
        obtain ⟨hrg, htg⟩ := hrt
        obtain ⟨elts, kk, tpos, rfl⟩ := isTupE_ok htg
        unfold rgF at hrg
        rw [Bool.and_eq_true] at hrg
        replace hrg := hrg.2
        unfold rgOk at hrg
        rw [Bool.and_eq_true, Bool.and_eq_true] at hrg
        have hm := C.en (by
          have q := hrg.1.1
          rw [Bool.or_eq_true, decide_eq_true_iff] at q
          exact q.resolve_left (by decide))
        have hg := C.gl (of_decide_eq_true hrg.2)
        have ha := pa_Z hf hs [x]
        refine (pi_enum hg hm ha (by rw [starE hst]; rfl)).run pins s σ H R J ⟨I, S, e, rl, rs, ?_⟩
        show RE G EE H I _ ((f x e S).bind fun w S1 => (Res.ok [] S1).bind fun ws S2 => .ok (w :: ws) S2)
        cases q : f x e S with
        | bad => rw [q] at h; exact False.elim h
        | exn y S1 => rw [q] at h; exact h
        | ok u S1 =>
          rw [q] at h
          simp only [Res.bind] at h ⊢
          unfold enumV at h
          cases u with
          | fl tg' ws =>
            intro H1 I1 k1 rl1 vs hv
            obtain ⟨v, rfl, q⟩ := hv.one
            rw [RW] at q
            obtain ⟨a, zs, rfl, sq, z⟩ := q
            exact ⟨a, zs, rfl, by rw [← C.K]; exact sq.now, h H1 I1 k1 rl1 _ (wk_enum C.K sq z)⟩
          | _ => exact False.elim h
      · exact False.elim h
    split at h
    · rename_i es er
      obtain ⟨p, pos, rfl, hst, hl⟩ := isRange_ok er
      split at h
      · rename_i hrg
        unfold rgF at hrg
        rw [Bool.and_eq_true] at hrg
        replace hrg := hrg.2
        unfold rgOk at hrg
        rw [Bool.and_eq_true, Bool.and_eq_true] at hrg
        have hF : P.F "range" = none := by simpa using hrg.1.2
        have hg := C.gl (of_decide_eq_true hrg.2)
        have hm := C.bi "range" List.mem_cons_self hF
        have ha := pa_Z hf hs es
        cases q : evL (fun x => f x e) es S with
        | bad => rw [q] at h; exact False.elim h
        | exn y S1 =>
          rw [q] at h
          cases es with
          | nil => rcases hl with h | h <;> simp at h
          | cons a r =>
            rw [List.all_cons, Bool.and_eq_true] at hst
            cases r with
            | nil => exact (pi_range1 hg hm ha (by rw [starE (by simpa using hst.1)]; rfl)).run pins s σ H R J ⟨I, S, e, rl, rs, by show RE G EE H I _ (evL (fun x => f x e) _ S); rw [q]; exact h⟩
            | cons b r =>
              rw [List.all_cons, Bool.and_eq_true] at hst
              cases r with
              | nil => exact (pi_range2 hg hm ha (by rw [starE (by simpa using hst.1), starE (by simpa using hst.2.1)]; rfl) (by rw [starE (by simpa using hst.2.1)]; rfl)).run pins s σ H R J ⟨I, S, e, rl, rs, by show RE G EE H I _ (evL (fun x => f x e) _ S); rw [q]; exact h⟩
              | cons c r => rcases hl with h | h <;> simp at h
        | ok us S1 =>
          rw [q] at h
          simp only [Res.bind] at h
          have hul := evL_len q
          cases es with
          | nil => rcases hl with h | h <;> simp at h
          | cons a r =>
            rw [List.all_cons, Bool.and_eq_true] at hst
            cases r with
            | nil =>
              refine (pi_range1 hg hm ha (by rw [starE (by simpa using hst.1)]; rfl)).run pins s σ H R J ⟨I, S, e, rl, rs, ?_⟩
              show RE G EE H I _ (evL (fun x => f x e) _ S)
              rw [q]
              intro H1 I1 k1 rl1 vs hv
              split at h
              · obtain ⟨v, rfl, q⟩ := hv.one
                unfold RW at q; subst q
                split at h
                · rename_i hb
                  exact ⟨_, rfl, hb.1, hb.2, h H1 I1 k1 rl1 _ (wk_range 0 _)⟩
                · exact False.elim h
              · simp at hul
              · exact False.elim h
            | cons b r =>
              rw [List.all_cons, Bool.and_eq_true] at hst
              cases r with
              | nil =>
                refine (pi_range2 hg hm ha (by rw [starE (by simpa using hst.1), starE (by simpa using hst.2.1)]; rfl) (by rw [starE (by simpa using hst.2.1)]; rfl)).run pins s σ H R J ⟨I, S, e, rl, rs, ?_⟩
                show RE G EE H I _ (evL (fun x => f x e) _ S)
                rw [q]
                intro H1 I1 k1 rl1 vs hv
                split at h
                · simp at hul
                · obtain ⟨v, u, rfl, q1, q2⟩ := hv.two
                  unfold RW at q1 q2; subst q1 q2
                  split at h
                  · rename_i hb
                    exact ⟨_, _, rfl, ⟨hb.1.1, hb.1.2, hb.2.1, hb.2.2⟩, h H1 I1 k1 rl1 _ (wk_range _ _)⟩
                  · exact False.elim h
                · exact False.elim h
              | cons c r => rcases hl with h | h <;> simp at h
      · exact False.elim h
    split at h
    · split at h
      · rename_i hrg
        unfold rgF at hrg
        simp at hrg
      · exact False.elim h
    · cases q : f iter e S with
      | bad => rw [q] at h; exact False.elim h
      | exn x S1 =>
        rw [q] at h
        exact (pi_list (hf iter)).run pins s σ H R J ⟨I, S, e, rl, rs, by rw [q]; exact h⟩
      | ok u S1 =>
        rw [q] at h
        simp only [Res.bind] at h
        unfold walkV at h
        cases u with
        | tup ws =>
          refine (pi_tup (hf iter)).run pins s σ H R J ⟨I, S, e, rl, rs, ?_⟩
          rw [q]
          intro H1 I1 k1 rl1 v hv
          unfold RW at hv
          obtain ⟨a, vs, rfl, sq, z⟩ := hv
          exact ⟨a, rfl, ⟨vs, by rw [← C.K]; exact sq⟩, h H1 I1 k1 rl1 _ (wk_tup (pins := pins) (σ := σ) (s := s) C.K sq z)⟩
        | fl tg' ws =>
          refine (pi_list (hf iter)).run pins s σ H R J ⟨I, S, e, rl, rs, ?_⟩
          rw [q]
          intro H1 I1 k1 rl1 v hv
          unfold RW at hv
          obtain ⟨a, vs, rfl, sq, z⟩ := hv
          exact ⟨a, rfl, ⟨vs, by rw [← C.K]; exact sq.now⟩, h H1 I1 k1 rl1 _ (wk_fl C.K sq z)⟩
        | str z =>
          refine (pi_str (hf iter)).run pins s σ H R J ⟨I, S, e, rl, rs, ?_⟩
          rw [q]
          intro H1 I1 k1 rl1 v hv
          unfold RW at hv
          subst hv
          exact ⟨z, rfl, h H1 I1 k1 rl1 _ (wk_str z)⟩
        | ref i =>
          simp only at h
          split at h
          · rename_i xs hS
            refine (pi_list (hf iter)).run pins s σ H R J ⟨I, S, e, rl, rs, ?_⟩
            rw [q]
            intro H1 I1 k1 rl1 v hv
            unfold RW at hv
            obtain ⟨a, rfl, hi⟩ := hv
            obtain ⟨vs, q1, z⟩ := rl1.obj _ _ _ hS hi
            exact ⟨a, rfl, ⟨vs, .of q1⟩, h H1 I1 k1 rl1 _ (wk_live hi)⟩
          · exact False.elim h
        | _ => exact False.elim h

theorem walk_F {tg iter : Expr} {f : Expr → So → Res W} {S : So} (hp : isParts iter = none) : walkE (rgOk P sx) tg f iter S = walkE (rgF P sx) tg f iter S := by
  have e1 : rgF P sx "enumerate" = rgOk P sx "enumerate" := by unfold rgF; rfl
  have e2 : rgF P sx "range" = rgOk P sx "range" := by unfold rgF; rfl
  unfold walkE
  rw [hp, e1, e2]
/-! ### targets -/
theorem loc_ok {sc : Scope} {x : Str} (h : sc.names.lookup x = some .local ∨ sc.names.lookup x = some .cell) : Loc sc x := h
/-- what a store leaves: the names' new values; other slots as they were -/
def gZ (G : Gd) (sx : Sx) (tg : Expr) : TG := fun v σ H Q => ∃ I S e w e2, Rel G H I S ∧ RS G H I e σ ∧ RW G H I w v ∧ asg sx e tg w = some e2 ∧
  ∀ σ', RS G H I e2 σ' → σ'.length = σ.length → (∀ i, i ∉ slotsT sx.N tg → σ'[i]? = σ[i]?) → Q σ' H
theorem asgN_ok {e e2 : En} {x : Str} {w : W} (h : asgN sx e x w = some e2) : ∃ i, idx sx.N x = some i ∧ e2 = e.set i (some w) ∧ (sx.sc.names.lookup x = some .local ∨ (sx.sc.names.lookup x = some .cell ∧ sx.fn x = true)) := by
  unfold asgN at h
  split at h
  · rename_i hl
    obtain ⟨i, e1, rfl⟩ := Option.map_eq_some_iff.mp h
    exact ⟨i, e1, rfl, .inl hl⟩
  · rename_i hl
    split at h
    · rename_i hf
      obtain ⟨i, e1, rfl⟩ := Option.map_eq_some_iff.mp h
      exact ⟨i, e1, rfl, .inr ⟨hl, hf⟩⟩
    · cases h
  · cases h
theorem pg_nameZ (C : Cz P call CX k sx G E X) {x : Str} {p : Pos} {i : Nat} (h1 : idx sx.N x = some i) (h2 : sx.sc.names.lookup x = some .local ∨ (sx.sc.names.lookup x = some .cell ∧ sx.fn x = true)) : PG X (.Name x p) (gName i) := by
  refine pg_name (by rw [C.hN]; exact C.nd) (by rw [C.hN]; exact idx_ok h1) (by rw [C.sc]; exact h2.elim .inl fun q => .inr q.1) ?_
  rcases h2 with q | q
  · exact .inr (by rw [C.sc]; exact q)
  · exact .inl (C.fn x q.2)
theorem set_other {σ : L2.St} {i j : Nat} {v : Option V} (h : j ≠ i) : (σ.set i v)[j]? = σ[j]? := List.getElem?_set_ne (Ne.symm h)
/-- several names, one after another -/
theorem pgs_Z (C : Cz P call CX k sx G E X) : ∀ (es : List Expr) (ws : List W) (e e2 : En), asgL sx es ws e = some e2 → ∃ t, PGs X es t ∧ ws.length = es.length ∧ ∀ (vs : List V) (σ : L2.St) (H : Hp) (I : Ix) (Q : L2.St → Hp → Prop), RS G H I e σ → RWs G H I ws vs →
    (∀ σ', RS G H I e2 σ' → σ'.length = σ.length → (∀ i, i ∉ slotsL sx.N es → σ'[i]? = σ[i]?) → Q σ' H) → t vs σ H Q
  | [], [], e, e2, h => by
    unfold asgL at h; cases h
    exact ⟨gNil, pgs_nil, rfl, fun vs σ H I Q rs z q => ⟨z.inv0, q σ rs rfl fun _ _ => rfl⟩⟩
  | x :: r, w :: ws, e, e2, h => by
    cases x with
    | Name x p =>
      unfold asgL at h
      obtain ⟨e1, h1, h2⟩ := Option.bind_eq_some_iff.mp h
      obtain ⟨i, hi, rfl, hk⟩ := asgN_ok h1
      obtain ⟨t, pt, hl, ht⟩ := pgs_Z C r ws _ e2 h2
      refine ⟨_, pgs_cons (pg_nameZ C hi hk) pt, by simp [hl], fun vs σ H I Q rs z q => ?_⟩
      obtain ⟨v, vr, rfl, hv, hz⟩ := z.inv
      refine ⟨v, vr, rfl, ht vr _ H I Q (rs.put hv i) hz fun σ' rs' hl' ho => q σ' rs' (by rw [hl']; simp) fun j hj => ?_⟩
      have hj' : j ∉ (idx sx.N x).toList ++ slotsL sx.N r := hj
      rw [hi] at hj'
      simp only [Option.toList_some, List.mem_append, List.mem_singleton, not_or] at hj'
      rw [ho j hj'.2, set_other hj'.1]
    | _ => simp [asgL] at h
  | [], _ :: _, _, _, h => by simp [asgL] at h
  | .Name _ _ :: _, [], _, _, h => by simp [asgL] at h
  | _ :: _, [], _, _, h => by simp [asgL] at h
theorem each_len {env : Env} : ∀ {es : List Expr}, (∀ x ∈ es, ∃ y p, x = .Name y p) → (assignEach es env).length = es.length ∧ (assignEach es env).findIdx? (·.1) = none
  | [], _ => ⟨rfl, rfl⟩
  | x :: es, h => by
    obtain ⟨y, p, rfl⟩ := h x List.mem_cons_self
    obtain ⟨a, b⟩ := each_len (es := es) (env := env) fun z hz => h z (List.mem_cons_of_mem _ hz)
    refine ⟨?_, ?_⟩
    · show ((false, assign (.Name y p) env) :: assignEach es env).length = _
      rw [List.length_cons, a]; rfl
    · show ((false, assign (.Name y p) env) :: assignEach es env).findIdx? (·.1) = none
      rw [List.findIdx?_cons, b]; rfl
theorem asgL_names : ∀ {es : List Expr} {ws : List W} {e e2 : En}, asgL sx es ws e = some e2 → ∀ x ∈ es, ∃ y p, x = .Name y p
  | [], _, _, _, _, x, hx => by cases hx
  | x :: r, [], e, e2, h, _, _ => by cases x <;> simp [asgL] at h
  | x :: r, w :: ws, e, e2, h, y, hy => by
    cases x with
    | Name x p =>
      unfold asgL at h
      obtain ⟨e1, h1, h2⟩ := Option.bind_eq_some_iff.mp h
      rcases List.mem_cons.mp hy with rfl | hy
      · exact ⟨x, p, rfl⟩
      · exact asgL_names h2 y hy
    | _ => simp [asgL] at h
theorem pg_Z (C : Cz P call CX k sx G E X) (tg : Expr) : PG X tg (gZ G sx tg) := by
  refine ⟨fun pins s σ H v u Q J rv ⟨I, S, e, w, e2, rl, rs, hw, ha, q⟩ => ?_⟩
  cases tg with
  | Name x p =>
    obtain ⟨i, hi, rfl, hk⟩ := asgN_ok ha
    refine (pg_nameZ C hi hk).run pins s σ H v u Q J rv (q _ (rs.put hw i) (by simp) fun j hj => set_other ?_)
    have hj' : j ∉ (idx sx.N x).toList := hj
    rw [hi] at hj'
    simpa using hj'
  | Tuple es kk p =>
    unfold asg at ha
    simp only at ha
    split at ha
    · rename_i ws
      obtain ⟨t, pt, hl, ht⟩ := pgs_Z C es ws e e2 ha
      obtain ⟨l1, l2⟩ := each_len (env := X.env) (asgL_names ha)
      unfold RW at hw
      obtain ⟨a, vs, rfl, sq, z⟩ := hw
      rw [C.K] at sq
      exact (pg_tup C.calm pt l1 l2).run pins s σ H _ u Q J rv ⟨a, vs, rfl, sq, by rw [← z.len]; exact hl, ht vs σ H I Q rs z q⟩
    · cases ha
  | _ => cases ha
/-! ### parts -/
open D (Dt Fit ysL)
theorem DTH.mv {G : Gd} {H H' : Hp} {I I' : Ix} {d : Dt} (k : Mv H I H' I') (h : DTH G.K H d) : DTH G.K H' d := by
  induction h with
  | «at» x => exact .at x
  | nd a ks q n _ ih => exact .nd a ks (k.sqT q) n ih
theorem parts_dts {G : Gd} {H : Hp} {I : Ix} {f : W → Option (List W)} {n : Nat} (hf : ∀ w ws v, f w = some ws → RW G H I w v → ∃ d : Dt, d.v = v ∧ Fit n d ∧ DTH G.K H d ∧ RWs G H I ws d.ys) : ∀ (r : List W) (l : List W) (vs : List V), partsL f r = some l → RWs G H I r vs →
    ∃ ks : List Dt, ks.map Dt.v = vs ∧ (∀ k ∈ ks, Fit n k ∧ DTH G.K H k) ∧ RWs G H I l (ysL ks)
  | [], l, vs, h, hv => by
    cases h
    exact ⟨[], by rw [hv.inv0]; rfl, by simp, by rw [ysL]; exact .nil⟩
  | w :: r, l, vs, h, hv => by
    obtain ⟨v, vs', rfl, h1, h2⟩ := hv.inv
    cases w with
    | str y =>
      obtain ⟨ks, e, q, z⟩ := parts_dts hf r l vs' h h2
      unfold RW at h1
      subst h1
      refine ⟨.at y :: ks, by rw [List.map_cons, e]; rfl, fun k hk => ?_, by rw [ysL, Dt.ys]; exact z⟩
      rcases List.mem_cons.mp hk with rfl | hk
      · exact ⟨.at _ _, .at _⟩
      · exact q k hk
    | tup ws =>
      obtain ⟨a, ea, h⟩ := Option.bind_eq_some_iff.mp (show (f (.tup ws)).bind (fun a => (partsL f r).map (a ++ ·)) = some l from h)
      obtain ⟨b, eb, rfl⟩ := Option.map_eq_some_iff.mp h
      obtain ⟨d, dv, df, dh, dz⟩ := hf _ _ _ ea h1
      obtain ⟨ks, e, q, z⟩ := parts_dts hf r b vs' eb h2
      refine ⟨d :: ks, by rw [List.map_cons, e, dv], fun k hk => ?_, by rw [ysL]; exact .ofP (Paired.app dz.paired z.paired)⟩
      rcases List.mem_cons.mp hk with rfl | hk
      · exact ⟨df, dh⟩
      · exact q k hk
    | _ => cases h
theorem parts_dt {G : Gd} {H : Hp} {I : Ix} : ∀ (n : Nat) (w : W) (ws : List W) (v : V), partsN n w = some ws → RW G H I w v → ∃ d : Dt, d.v = v ∧ Fit n d ∧ DTH G.K H d ∧ RWs G H I ws d.ys
  | 0, w, ws, v, h, _ => by unfold partsN at h; cases h
  | n + 1, w, ws, v, h, hv => by
    unfold partsN at h
    split at h
    · rename_i n' x r e1
      cases e1
      obtain ⟨l, el, rfl⟩ := Option.map_eq_some_iff.mp h
      have hv0 := hv
      unfold RW at hv
      obtain ⟨a, vs, rfl, sq, z⟩ := hv
      obtain ⟨v0, vs', rfl, h1, h2⟩ := z.inv
      obtain ⟨ks, e, q, zz⟩ := parts_dts (n := n) (fun w ws v => parts_dt n w ws v) r l vs' el h2
      unfold RW at h1
      subst h1
      refine ⟨.nd a (.at x :: ks), rfl, .nd _ _ _ fun k hk => ?_, .nd _ _ (by rw [List.map_cons, e]; exact sq) (by simp) fun k hk => ?_, by rw [Dt.ys]; exact .cons hv0 zz⟩
      · rcases List.mem_cons.mp hk with rfl | hk
        · exact .at _ _
        · exact (q k hk).1
      · rcases List.mem_cons.mp hk with rfl | hk
        · exact .at _
        · exact (q k hk).2
    · cases h
theorem wk_gen {G : Gd} {X : Cx} (hG : G.K = X.K) {H : Hp} {I : Ix} {ws : List W} {d : Dt} (t : DTH G.K H d) (z : RWs G H I ws d.ys) : WkJ G (.seq ws) (Itd X.K d) H I := by
  intro H2 I2 S2 j k2 rl2
  have t2 : DTH X.K H2 d := by rw [← hG]; exact t.mv k2
  have z2 := z.mv k2
  refine ⟨fun w e => ?_, fun e => ?_⟩
  · have e' : ws[j]? = some w := Option.some.inj e
    obtain ⟨v, e1, hv⟩ := z2.get e'
    refine ⟨⟨t2, (List.getElem?_eq_some_iff.mp e1).1⟩, fun x H3 ⟨e2, e3⟩ => ?_⟩
    subst e2
    have e3 : d.ys[j]? = some x := e3
    rw [e1] at e3; cases e3
    exact ⟨Keep.refl _ _, rl2, hv⟩
  · have e' : ws[j]? = none := Option.some.inj e
    have e1 := z2.getN e'
    exact ⟨t2, List.getElem?_eq_none_iff.mp e1⟩
theorem kept_fresh (G : Array GenState) (c : Code) : Kept G (G.push (.fresh c)) where
  sleep := fun i z e _ => by
    rw [Array.getElem?_push, if_neg (Nat.ne_of_lt (Array.getElem?_eq_some_iff.mp e).1)]; exact e
  mark := fun i k l c' p fs cl e _ => by
    rw [Array.getElem?_push] at e
    split at e
    · cases e
    · exact e
  size := by rw [Array.size_push]; exact Nat.le_succ _
theorem isParts_ok {iter x : Expr} (h : isParts iter = some x) : ∃ p pos, iter = .Call (.Name "parts" p) [x] [] pos ∧ isStar x = false := by
  unfold isParts at h
  split at h
  · split at h
    · rename_i hc
      cases h
      obtain ⟨rfl, h1⟩ := hc
      exact ⟨_, _, rfl, h1⟩
    · cases h
  · cases h
theorem pig_Z (C : Cz P call CX k sx G E X) {tg : Expr} {f : Expr → En → So → Res W} (hf : ∀ x, PE X x (tE G EE (f x))) {iter x : Expr} (hp : isParts iter = some x) : PIg X iter (tI G EE fun e S => walkE (rgOk P sx) tg (fun x => f x e) iter S) := by
  obtain ⟨p, pos, rfl, hst⟩ := isParts_ok hp
  refine ⟨fun pins s σ H R J ⟨I, S, e, rl, rs, h⟩ G0 g0 => ?_⟩
  have hw : walkE (rgOk P sx) tg (fun x => f x e) (.Call (.Name "parts" p) [x] [] pos) S = if rgOk P sx "parts" = true then (f x e S).bind partsV else .bad := by
    unfold walkE
    have e1 : isEnum (.Call (.Name "parts" p) [x] [] pos) = none := by unfold isEnum; simp only [show ¬ (("parts" : Str) = "enumerate") by decide, false_and, if_false]
    have e2 : isRange (.Call (.Name "parts" p) [x] [] pos) = none := by unfold isRange; simp only [show ¬ (("parts" : Str) = "range") by decide, false_and, if_false]
    rw [if_neg (show ¬ (isSet (.Call (.Name "parts" p) [x] [] pos) = true) from Bool.false_ne_true), e1, e2, hp]
  have h : RE G EE H I (kW G R) (walkE (rgOk P sx) tg (fun x => f x e) (.Call (.Name "parts" p) [x] [] pos) S) := h
  rw [hw] at h
  split at h
  · rename_i hrg
    unfold rgOk at hrg
    rw [Bool.and_eq_true, Bool.and_eq_true, Bool.or_eq_true] at hrg
    have hgn : P.gn = true := by
      rcases hrg.1.1 with q | q
      · exact absurd (of_decide_eq_true q) (by decide)
      · rw [if_pos rfl] at q; exact q
    have hg := C.gl (of_decide_eq_true hrg.2)
    obtain ⟨fa, cd, p1, p2, p3, p4, p5, p6, p7, p8, p9, q1, q2, q3, q4, q5, q6, q7, q8, q9, q10, gp, g2⟩ := C.gn hgn
    have rm : Room 9 X.A := C.room.mono (by omega)
    have hs1 := starE (es := []) (env := X.env) (e := x) hst
    refine wpAny_Call_Name_kw (ldG J hg gp.p ?_)
    refine PySem.W.callWith_K (h₀ := X.base) J.ok.mod.kin gp.kp ?_ hs1 rfl
    rw [hs1]
    show wpAny _ _ (spliced ((false, eval x X.env) :: backTo pos (starEach [] X.env))) _ _ s
    refine Calls.spliced_cons (((hf x).run pins s σ H (fun v H1 => ∃ I1 S1 w, Rel G H1 I1 S1 ∧ RW G H1 I1 w v ∧ RE G EE H1 I1 (kW G R) (partsV w S1)) J (tE.step rl rs h fun w S1 H1 I1 v k1 rl1 hv h1 => ⟨I1, S1, w, rl1, hv, h1⟩)).th g0 fun u s1 g1 ⟨v, H1, J1, r1, I1, S1, w, rl1, hv, h1⟩ => Calls.spliced_nil ⟨J1.kIn, ?_⟩)
    unfold partsV at h1
    split at h1
    · rename_i ws ew
      obtain ⟨d, rfl, df, dh, dz⟩ := parts_dt 8 w ws v ew hv
      obtain ⟨a0, ks, rfl⟩ : ∃ a ks, d = Dt.nd a ks := by
        cases d with
        | nd a ks => exact ⟨a, ks, rfl⟩
        | «at» y =>
          cases df
          unfold partsN at ew
          split at ew
          · rename_i e1
            cases e1
            unfold RW at hv
            obtain ⟨_, _, q, _⟩ := hv
            cases q
          · cases ew
      obtain rfl : u = Value.ref a0 := r1
      refine D.call_parts gp g2 J1.bk rm.depth fun s' L a M => ?_
      obtain ⟨oG, ho, hO, hsl⟩ := M.obj
      obtain ⟨m, hm, hr⟩ := M.ns
      obtain ⟨oL, eL, hns⟩ := D.NsO.of hm
      have J2 : Inv X pins σ H1 s' := J1.call' (ch := []) M.os (Un.kept M.keep) (J1.hok.kept M.keep) (by rw [M.gens]; exact AllBare.push J1.bare rfl) fun b hb => by cases hb
      have st := D.parts_strm (P := X.prog) (w := X.w) X gp g2 8 _ df a0 ks rfl L oL m hns hr
      have nL : FpOk X pins H1 L := J1.fpOk M.Lge (J1.hok.fresh M.Lge)
      have age : s1.heap.objs.size ≤ a := Nat.le_of_lt (Nat.lt_of_le_of_lt M.Lge M.La)
      have nA : FpOk X pins H1 a := J1.fpOk age (J1.hok.fresh age)
      have bz : X.base.objs.size ≤ s1.heap.objs.size := Nat.le_trans J1.ok.bsz (Nat.le_trans J1.ok.above (Nat.le_of_lt J1.lt))
      refine ⟨g1.trans (by rw [M.gens]; exact kept_fresh _ _), a, s1.gens.size, oG, _, 8, _, [(L, oL)], H1, rfl, J2, rm, hsl, g1.size, ⟨_, rfl⟩, ho, hO, by rw [M.gens, Array.getElem?_push, if_pos rfl], ⟨fun q hq => ?_, fun q hq => ?_, fun q hq => ?_, fun q hq => by cases hq⟩, fun b hb => ?_, fun hb => ?_, st, h1 H1 I1 (Keep.refl _ _) rl1 _ (wk_gen C.K dh dz)⟩
      · obtain rfl := List.mem_singleton.mp hq
        exact Nat.le_trans bz M.Lge
      · obtain rfl := List.mem_singleton.mp hq
        exact eL
      · obtain rfl := List.mem_singleton.mp hq
        obtain ⟨es, ep, e, _⟩ := hns
        exact fun v q => by rw [e] at q; cases q
      · rcases List.mem_cons.mp hb with rfl | hb
        · exact nA
        · obtain rfl : b = L := by simpa using hb
          exact nL
      · exact absurd (by simpa using hb : a = L) (Nat.ne_of_gt M.La)
    · exact False.elim h1
  · exact False.elim h
end
end Y

/-! Comprehensions; every expression. -/
namespace Y
open PySem PySem.Spec PyProof.Rows L2
open D (model2 Kept Cl Alike deadS)
theorem RE.noX {α : Type} {G : Gd} {E E' : EK} {H : Hp} {I : Ix} {k : AK α} {r : Res α} (h : RE G E H I k (noX r)) : RE G E' H I k r := by
  cases r with
  | ok a S => exact h
  | exn x S => exact False.elim h
  | bad => exact h
/-- forgotten slots: two lists that differ in them alone are the same behind -/
theorem wipe_at {σ : L2.St} {i : Nat} : ∀ {vs : List Nat}, i ∈ vs → i < σ.length → (wipe σ vs)[i]? = some none
  | v :: vs, h, hl => by
    unfold wipe
    by_cases e : v = i
    · subst e
      exact List.getElem?_set_self (by rw [wipe_length]; exact hl)
    · rw [List.getElem?_set_ne e]
      exact wipe_at ((List.mem_cons.mp h).resolve_left fun q => e q.symm) hl
theorem wipe_eq {σ σ2 : L2.St} {vs : List Nat} (hl : σ2.length = σ.length) (h : ∀ i, i ∉ vs → σ2[i]? = (wipe σ vs)[i]?) : wipe σ2 vs = wipe σ vs := by
  apply List.ext_getElem?
  intro i
  by_cases hi : i ∈ vs
  · by_cases hlt : i < σ.length
    · rw [wipe_at hi hlt, wipe_at hi (by rw [hl]; exact hlt)]
    · rw [List.getElem?_eq_none (by rw [wipe_length]; omega), List.getElem?_eq_none (by rw [wipe_length]; omega)]
  · rw [wipe_out hi, h i hi]
section
variable {P : Pg} {call : Cf} {CX : CXT} {k : Nat} {sx : Sx} {G : Gd} {E : XK} {X : Cx} {EE : EK}
abbrev E0' : XK := fun _ _ _ => False
/-- the context of a comprehension's block -/
def sxB (sx : Sx) (scope : Scope) : Sx := ⟨sx.N, relS scope sx.sc, fun x => scope.names.lookup x == some .cell⟩
theorem Cz.blk (C : Cz P call CX k sx G E X) {scope : Scope} (hk : scope.kind = .function) (s : Shared) (H : Hp) (D : Addr) (cl : List (Str × Addr)) (fp : List Addr) :
    Cz P call CX k (sxB sx scope) G E0' (X.blk s H scope (compEnvC scope cl D X.env) fp) where
  hN := C.hN
  nd := C.nd
  sc := by
    show relS scope X.env.scope = relS scope sx.sc
    rw [C.sc]
  kind := hk
  K := C.K
  mg := C.mg
  wd := C.wd
  calm := C.calm
  room := C.room
  grd := C.grd
  sys := C.sys
  fn := fun x h => h
  glb := C.glb
  bi := C.bi
  en := C.en
  er := C.er
  isa := C.isa
  cal := C.cal
  nx := fun _ _ z => z
  gn := C.gn
  px := fun pins σ H' s' e t J h => C.p0 _ _ _ _ _ h
  p0 := C.p0
theorem pts_Z {f : Expr → En → So → Res W} {Y : Cx} (hf : ∀ x, PT Y x (tT G EE (tst (f x)))) : ∀ ifs : List Expr, ifs.length ≤ 1 → PTs Y ifs (tT G EE fun e S => ifsE (fun x => f x e) ifs S)
  | [], _ => ⟨fun pins s σ H Q J ⟨I, S, e, rl, rs, h⟩ => pts_nil.run pins s σ H Q J (RE.now (k := kB Q) h rl)⟩
  | [c], _ => ⟨fun pins s σ H Q J q => (pts_one (hf c)).run pins s σ H Q J q⟩
  | _ :: _ :: _, h => by simp at h
theorem lcTurn_eq {f : En → Expr → So → Res W} {sx : Sx} {e : En} {tg : Expr} {ifs : List Expr} {elt : Expr} {w : W} {acc : List W} {S : So} : lcTurn f sx e tg ifs elt w acc S = (match asg sx e tg w with
  | none => .bad
  | some e2 => (ifsE (f e2) ifs S).bind fun b S3 => if b then (f e2 elt S3).bind fun y S4 => if acc.length < sizeLine then .ok (acc ++ [y], true) S4 else .bad
    else .ok (acc, true) S3) := rfl
abbrev compR (P : Pg) (sx : Sx) (f : Sx → En → Expr → So → Res W) (m : Bool) (elt tg iter : Expr) (ifs : List Expr) (scope : Scope) : En → So → Res W := fun e S => (walkE (rgOk P sx) tg (f sx e) iter S).bind fun q S1 =>
      (noX (turns q (lcTurn (f (sxB sx scope)) (sxB sx scope) (wipeW e ((ownOf sx.N scope).map (·.2))) tg ifs elt) q.len 0 [] S1)).bind fun acc S6 => mk m acc S6
abbrev compT (P : Pg) (sx : Sx) (G : Gd) (E : XK) (f : Sx → En → Expr → So → Res W) (elt tg iter : Expr) (ifs : List Expr) (scope : Scope) : TE :=
  tLc (tI G (EKof G E) fun e S => walkE (rgOk P sx) tg (fun x => f sx e x) iter S) (gZ G (sxB sx scope) tg) (tT G (EKof G E0') fun e S => ifsE (fun x => f (sxB sx scope) e x) ifs S) (tE G (EKof G E0') fun e S => f (sxB sx scope) e elt S) ((ownOf sx.N scope).map (·.2))
/-- what is wished behind the list's last turn -/
abbrev kLc (G : Gd) (E : XK) (Q : VK) (m : Bool) (D : Addr) : AK (List W) := fun acc S6 H6 I6 => ∀ H', (∀ b, b ≠ D → H' b = H6 b) → RE G (EKof G E) H' I6.unb (kV' G Q) (mk m acc S6)
theorem kLc_ok {G : Gd} {E : XK} {Q : VK} {m : Bool} {D : Addr} {a : List W} {S : So} {H H' : Hp} {I : Ix} (o : ∀ b, b ≠ D → H' b = H b) (h : kLc G E Q m D a S H I) : kLc G E Q m D a S H' I :=
  fun H2 o2 => h H2 fun b n => (o2 b n).trans (o b n)
theorem upd_id {H : Hp} {D : Addr} {u : HO} (h : H D = some u) : upd H D u = H := by
  funext b
  unfold upd
  split
  · rename_i e; rw [e, h]
  · rfl
theorem lc_Z {f : Sx → En → Expr → So → Res W} {m : Bool} {elt tg iter : Expr} {ifs : List Expr} {scope : Scope} (ho : ((slotsT sx.N tg).all fun i => ((ownOf sx.N scope).map (·.2)).contains i) = true) :
    ∀ (σ : L2.St) (H : Hp) (Q : VK), tE G (EKof G E) (compR P sx f m elt tg iter ifs scope) σ H Q → compT P sx G E f elt tg iter ifs scope σ H Q := by
  rintro σ H Q ⟨I, S, e, rl, rs, h⟩
  refine ⟨I, S, e, rl, rs, (RE.bind h).imp fun q S1 H1 I1 k1 rl1 h1 J hJ D hD => ?_⟩
  -- the new list
  have rl2 : Rel G (upd H1 D (.lst [])) (I1.bld D) S1 := rl1.bld hD
  have rs1 := rs.mono k1
  have ap := rl1.apart hD
  have h2 : RE G (EKof G E0') (upd H1 D (.lst [])) (I1.bld D) (kLc G E Q m D) (turns q (lcTurn (f (sxB sx scope)) (sxB sx scope) (wipeW e ((ownOf sx.N scope).map (·.2))) tg ifs elt) q.len 0 [] S1) :=
    RE.bld rl1 hD rfl (RE.noX (E' := EKof G E0') (RE.bind h1))
  refine ⟨fun j m' Hj => ∃ Ij Sj acc vs, Rel G Hj Ij Sj ∧ Mv H1 I1 Hj Ij ∧ Ij.bd = D :: I1.bd ∧ Ij.bz = I1.bz ∧ Hj D = some (.lst vs) ∧ RWs G Hj Ij acc vs ∧ RE G (EKof G E0') Hj Ij (kLc G E Q m D) (turns q (lcTurn (f (sxB sx scope)) (sxB sx scope) (wipeW e ((ownOf sx.N scope).map (·.2))) tg ifs elt) m' j acc Sj), ⟨q.len, _, _, [], [], rl2, Mv.bld hD, rfl, rfl, upd_same, .nil, h2⟩, ?_⟩
  rintro j m' Hj ⟨Ij, Sj, acc, vs, rlj, kj, bdj, bzj, hDj, zj, hj⟩
  have inD : D ∈ Ij.bd := by rw [bdj]; exact List.mem_cons_self
  have outD := (rlj.bt D (.inr inD)).2
  obtain ⟨w1, w2⟩ := hJ Hj Ij Sj j kj rlj
  unfold turns at hj
  cases qa : q.at j Sj with
  | none => rw [qa] at hj; exact False.elim hj
  | some o =>
    rw [qa] at hj
    cases o with
    | none =>
      have h3 := RE.now (k := kLc G E Q m D) hj rlj (del Hj D) fun b n => del_ne n
      have r3 : Rel G (del Hj D) Ij.unb Sj := rlj.unb bdj hDj rfl (fun b n => del_ne n) (by rw [bzj]; exact ap)
      have q3 := mk_lst r3 (zj.mv (Mv.unb bdj hDj rfl fun b n => del_ne n)) h3 D del_at
      rw [upd_del, upd_id hDj] at q3
      exact .inl ⟨w2 qa, q3⟩
    | some w =>
      cases m' with
      | zero => exact False.elim hj
      | succ m' =>
        simp only at hj
        obtain ⟨jg, jy⟩ := w1 w qa
        refine .inr ⟨jg, fun H' => ∃ I' S' acc' vs', Rel G H' I' S' ∧ Mv H1 I1 H' I' ∧ I'.bd = D :: I1.bd ∧ I'.bz = I1.bz ∧ H' D = some (.lst vs') ∧ RWs G H' I' acc' vs' ∧ RE G (EKof G E0') H' I' (kLc G E Q m D) (turns q (lcTurn (f (sxB sx scope)) (sxB sx scope) (wipeW e ((ownOf sx.N scope).map (·.2))) tg ifs elt) m' (j + 1) acc' S'),
          fun H' nx => ⟨m', Nat.lt_succ_self m', nx⟩, fun x H3 hy => ?_⟩
        obtain ⟨k3, rl3, hw3⟩ := jy x H3 hy
        have hj3 := hj.mono k3
        have hD3 := (k3.kp D _ hDj outD).1
        rw [lcTurn_eq] at hj3
        cases ea : asg (sxB sx scope) (wipeW e ((ownOf sx.N scope).map (·.2))) tg w with
        | none => rw [ea] at hj3; exact False.elim hj3
        | some e2 =>
          rw [ea] at hj3
          simp only at hj3
          have m3 := kj.trans k3.mv
          have rs3 : RS G H3 Ij (wipeW e ((ownOf sx.N scope).map (·.2))) (wipe σ ((ownOf sx.N scope).map (·.2))) := (rs1.mv m3).wipe _
          refine ⟨Ij, Sj, _, w, e2, rl3, rs3, hw3, ea, fun σ2 rs4 hl4 ho4 => ?_⟩
          refine ⟨wipe_eq (by rw [hl4, wipe_length]) fun i hi => ho4 i fun hm => ?_, ?_⟩
          · have := List.all_eq_true.mp ho i hm
            exact hi (List.contains_iff_mem.mp this)
          · refine ⟨Ij, Sj, e2, rl3, rs4, (RE.bind (RE.bind hj3)).imp fun b S4 H4 I4 k4 rl4 h4 => ?_⟩
            cases b with
            | false =>
              unfold kB
              simp only [Bool.false_eq_true, if_false] at h4 ⊢
              exact ⟨I4, S4, acc, vs, rl4, m3.trans k4.mv, k4.bd.trans bdj, k4.bz.trans bzj, (k4.kp D _ hD3 outD).1, (zj.mono k3).mono k4, RE.now h4 rl4⟩
            | true =>
              unfold kB
              simp only [if_true] at h4 ⊢
              have hD4 := k4.kp D _ hD3 outD
              refine ⟨I4, S4, e2, rl4, rs4.mono k4, (RE.bind h4).imp fun y S5 H5 I5 k5 rl5 h5 v hv => ?_⟩
              have hD5 := k5.kp D _ hD4.1 hD4.2
              have in5 : D ∈ I5.bd := by rw [k5.bd, k4.bd]; exact inD
              have z5 := ((zj.mono k3).mono k4).mono k5
              split at h5
              · rename_i hlt
                have mc := Mv.chg (H' := upd H5 D (.lst (vs ++ [v]))) in5 hD5.1 rfl fun b n => upd_ne n
                refine ⟨vs, hD5.1, by rw [← z5.len]; exact hlt, I5, S5, acc ++ [y], vs ++ [v], rl5.chg in5 hD5.1 rfl (fun b n => upd_ne n) (by rw [upd_same]; simp), ((m3.trans k4.mv).trans k5.mv).trans mc, (k5.bd.trans k4.bd).trans bdj, (k5.bz.trans k4.bz).trans bzj, upd_same, (z5.append (.cons hv .nil)).mv mc, ?_⟩
                have h6 : RE G (EKof G E0') H5 I5 (kLc G E Q m D) (turns q (lcTurn (f (sxB sx scope)) (sxB sx scope) (wipeW e ((ownOf sx.N scope).map (·.2))) tg ifs elt) m' (j + 1) (acc ++ [y]) S5) := RE.now h5 rl5
                exact RE.chg rl5 in5 hD5.1 rfl rfl (fun a S H H' I o h => kLc_ok o h) h6 fun _ _ _ _ _ q => q
              · exact False.elim h5
theorem se_comp (C : Cz P call CX k sx G E X) {f : Sx → En → Expr → So → Res W}
    (hE : ∀ sx E X, Cz P call CX k sx G E X → ∀ x, PE X x (tE G (EKof G E) fun e => f sx e x))
    (hT : ∀ sx E X, Cz P call CX k sx G E X → ∀ x, PT X x (tT G (EKof G E) (tst fun e => f sx e x)))
    (hs : ∀ sx x e S, isStar x = true → f sx e x S = .bad) {m : Bool} {elt tg iter : Expr} {ifs : List Expr} {scope : Scope} {pos : Pos}
    (hb : blkC sx.N sx.sc scope (ownOf sx.N scope) = true) (ho : ((slotsT sx.N tg).all fun i => ((ownOf sx.N scope).map (·.2)).contains i) = true) (hi1 : ifs.length ≤ 1) (hset : isSet iter = false) :
    PE X (.ListComp elt [⟨tg, iter, ifs, 0⟩] scope pos) (tE G (EKof G E) (compR P sx f m elt tg iter ifs scope)) := by
  have ok := blkOk_by hb
  have ok' : BlkOk X.N X.env.scope scope (ownOf sx.N scope) := by rw [C.hN, C.sc]; exact ok
  cases hip : isParts iter with
  | some x0 => exact (pe_lcG (own := ownOf sx.N scope) C.calm (by rw [C.hN]; exact C.nd) (pig_Z (tg := tg) C (hE sx E X C) hip) ok' (fun s H D cl fp => pg_Z (C.blk ok.kind s H D cl fp) tg) (fun s H D cl fp => pts_Z (hT _ _ _ (C.blk ok.kind s H D cl fp)) ifs hi1) (fun s H D cl fp => hE _ _ _ (C.blk ok.kind s H D cl fp) elt) (fold_ok hset)).of (lc_Z ho)
  | none =>
  have hw := pi_Z (tg := tg) C (hE sx E X C) (fun x e S h => hs sx x e S h) iter
  simp only [← walk_F hip] at hw
  exact (pe_lc (own := ownOf sx.N scope) C.calm (by rw [C.hN]; exact C.nd) hw ok' (fun s H D cl fp => pg_Z (C.blk ok.kind s H D cl fp) tg) (fun s H D cl fp => pts_Z (hT _ _ _ (C.blk ok.kind s H D cl fp)) ifs hi1) (fun s H D cl fp => hE _ _ _ (C.blk ok.kind s H D cl fp) elt) (fold_ok hset)).of (lc_Z ho)
/-- name = [..] where the list's name is stored ahead of the block's end -/
theorem ss_comp (C : Cz P call CX k sx G E X) {f : Sx → En → Expr → So → Res W}
    (hE : ∀ sx E X, Cz P call CX k sx G E X → ∀ x, PE X x (tE G (EKof G E) fun e => f sx e x))
    (hT : ∀ sx E X, Cz P call CX k sx G E X → ∀ x, PT X x (tT G (EKof G E) (tst fun e => f sx e x)))
    (hs : ∀ sx x e S, isStar x = true → f sx e x S = .bad) {m : Bool} {elt tg iter : Expr} {ifs : List Expr} {scope : Scope} {pos py spos : Pos} {y : Str} {i : Nat}
    (hb : blkC sx.N sx.sc scope (ownOf sx.N scope) = true) (hi1 : ifs.length ≤ 1) (hset : isSet iter = false) (hy : idx sx.N y = some i) (hyl : sx.sc.names.lookup y = some .local)
    (hsw : swapsWith (.ListComp elt [⟨tg, iter, ifs, 0⟩] scope pos) (some (.Name y py)) spos.line X.env = pure true) :
    PS X (.Assign [.Name y py] (.ListComp elt [⟨tg, iter, ifs, 0⟩] scope pos) spos) (tAsg (compT P sx G E f elt tg iter ifs scope) (gName i)) := by
  have ok := blkOk_by hb
  have ok' : BlkOk X.N X.env.scope scope (ownOf sx.N scope) := by rw [C.hN, C.sc]; exact ok
  cases hip : isParts iter with
  | some x0 =>
    have hw := pig_Z (tg := tg) C (hE sx E X C) hip
    exact ps_setLcG (own := ownOf sx.N scope) C.calm (by rw [C.hN]; exact C.nd) (by rw [C.hN]; exact idx_ok hy) (by rw [C.sc]; exact hyl) hsw hw ok' (fun s H D cl fp => pg_Z (C.blk ok.kind s H D cl fp) tg) (fun s H D cl fp => pts_Z (hT _ _ _ (C.blk ok.kind s H D cl fp)) ifs hi1) (fun s H D cl fp => hE _ _ _ (C.blk ok.kind s H D cl fp) elt) (fold_ok hset)
  | none =>
  have hw := pi_Z (tg := tg) C (hE sx E X C) (fun x e S h => hs sx x e S h) iter
  simp only [← walk_F hip] at hw
  exact ps_setLc (own := ownOf sx.N scope) C.calm (by rw [C.hN]; exact C.nd) (by rw [C.hN]; exact idx_ok hy) (by rw [C.sc]; exact hyl) hsw hw ok' (fun s H D cl fp => pg_Z (C.blk ok.kind s H D cl fp) tg) (fun s H D cl fp => pts_Z (hT _ _ _ (C.blk ok.kind s H D cl fp)) ifs hi1) (fun s H D cl fp => hE _ _ _ (C.blk ok.kind s H D cl fp) elt) (fold_ok hset)
end
end Y

/-! Every expression. -/
namespace Y
open PySem PySem.Spec PyProof.Rows L2
open D (model2 Kept Cl Alike deadS)
section
variable {P : Pg} {call : Cf} {CX : CXT} {k : Nat} {G : Gd}
def SE (P : Pg) (call : Cf) (CX : CXT) (k : Nat) (G : Gd) (d : Nat) : Prop := ∀ (sx : Sx) (E : XK) (X : Cx), Cz P call CX k sx G E X → ∀ x, PE X x (tE G (EKof G E) fun e S => evalE P call d sx e x S)
def ST (P : Pg) (call : Cf) (CX : CXT) (k : Nat) (G : Gd) (d : Nat) : Prop := ∀ (sx : Sx) (E : XK) (X : Cx), Cz P call CX k sx G E X → ∀ x, PT X x (tT G (EKof G E) (tst fun e S => evalE P call d sx e x S))
theorem star_bad {d : Nat} {sx : Sx} {e : En} {x : Expr} {S : So} (h : isStar x = true) : evalE P call d sx e x S = .bad := by
  cases x <;> first | (cases d <;> rfl) | cases h
theorem se_bad {X : Cx} {x : Expr} {EE : EK} {r : En → So → Res W} (h : ∀ e S, r e S = .bad) : PE X x (tE G EE r) := PE.never fun σ H Q ⟨I, S, e, rl, rs, q⟩ => by rw [h] at q; exact q
theorem se_of {X : Cx} {x : Expr} {EE : EK} {r r' : En → So → Res W} (h : PE X x (tE G EE r)) (q : ∀ e S, r' e S = r e S) : PE X x (tE G EE r') := by
  have : r' = r := funext fun e => funext fun S => q e S
  rw [this]; exact h
theorem se_succ {d : Nat} (hE : SE P call CX k G d) (hT : ST P call CX k G d) : SE P call CX k G (d + 1) := by
  intro sx E X C x
  have hf := hE sx E X C
  have sb : ∀ x e S, isStar x = true → evalE P call d sx e x S = .bad := fun x e S h => star_bad h
  cases x with
  | Constant c j p => exact se_const c j p
  | Name n p => exact se_name C n p
  | BinOp a op b p => exact se_bin C (hf a) (hf b)
  | UnaryOp op a p =>
    cases op with
    | Not => exact se_not C.K (hf a)
    | USub => exact se_neg (hf a)
    | _ => exact se_bad fun e S => rfl
  | BoolOp op vs p => exact se_bool (f := fun x e S => evalE P call d sx e x S) C.K hf vs
  | Compare a ops cs p =>
    cases ops with
    | nil => exact se_bad fun e S => by cases cs <;> rfl
    | cons op r =>
      cases r with
      | nil =>
        cases cs with
        | nil => exact se_bad fun e S => rfl
        | cons b t =>
          cases t with
          | nil => exact se_cmp C (hf a) (hf b)
          | cons c t => exact se_bad fun e S => rfl
      | cons op' r =>
        cases r with
        | nil =>
          cases cs with
          | nil => exact se_bad fun e S => rfl
          | cons b t =>
            cases t with
            | nil => exact se_bad fun e S => rfl
            | cons c t =>
              cases t with
              | nil => exact se_cmp2 C (hf a) (hf b) (hf c)
              | cons _ _ => exact se_bad fun e S => rfl
        | cons _ _ => exact se_bad fun e S => by cases cs with | nil => rfl | cons _ t => (cases t with | nil => rfl | cons _ t => (cases t <;> rfl))
  | IfExp c a b p => exact se_if (rc := fun e S => evalE P call d sx e c S) (hT sx E X C c) (hf a) (hf b)
  | Tuple es j p => exact se_tup (pa_Z (f := fun x e S => evalE P call d sx e x S) hf sb es)
  | List es p => exact se_lst (pa_Z (f := fun x e S => evalE P call d sx e x S) hf sb es)
  | Dict ks vs p =>
    by_cases h0 : ks = []
    · subst h0
      cases vs with
      | nil => exact se_dict0
      | cons v r => exact se_bad fun e S => rfl
    · have hd : ∀ e S, evalE P call (d + 1) sx e (.Dict ks vs p) S = (if (ks.all (·.isSome) = true ∧ ks.length = vs.length) ∧ ks.length ≤ 15 then (evP (evalE P call d sx e) ks vs S).bind fun kvs S1 =>
        if kvs.length ≤ 15 ∧ (kvs.all fun kv => flatK kv.1) = true then mkD (P.mu p) (kvs.foldl (fun r kv => putW r kv.1 kv.2) []) S1 else .bad
      else .bad) := fun e S => by
        cases ks with
        | nil => exact absurd rfl h0
        | cons a r => rfl
      by_cases h : (ks.all (·.isSome) = true ∧ ks.length = vs.length) ∧ ks.length ≤ 15
      · refine se_of (se_dict (m := P.mu p) (f := fun x e S => evalE P call d sx e x S) (p := p) hf h.1.1 h.1.2 h0 h.2) fun e S => ?_
        rw [hd, if_pos h]
        try rfl
      · exact se_bad fun e S => by rw [hd, if_neg h]
  | Subscript a b p =>
    by_cases hb : ∃ lo hi q, b = .Slice lo hi none q
    · obtain ⟨lo, hi, q, rfl⟩ := hb
      exact se_slice (f := fun x e S => evalE P call d sx e x S) C (hf a) hf
    · refine se_of (se_item C (hf a) (hf b)) fun e S => ?_
      cases b with
      | Slice lo hi st q =>
        cases st with
        | none => exact absurd ⟨lo, hi, q, rfl⟩ hb
        | some _ => rfl
      | _ => rfl
  | JoinedStr es p =>
    by_cases h : es.all partJ = true ∧ 2 ≤ es.length
    · refine se_of (se_joined (f := fun x e S => evalE P call d sx e x S) (p := p) hf h.1 h.2) fun e S => ?_
      show (if es.all partJ = true ∧ 2 ≤ es.length then _ else _) = _
      rw [if_pos h]
    · exact se_bad fun e S => by
        show (if es.all partJ = true ∧ 2 ≤ es.length then _ else _) = _
        rw [if_neg h]
  | Call fn es kws pos =>
    cases fn with
    | Name f p =>
      have hd : ∀ e S, evalE P call (d + 1) sx e (.Call (.Name f p) es kws pos) S = (if (okN f = true ∧ plainA es kws = true) ∧ sx.sc.names.lookup f = some .globalImplicit then match P.F f with
        | some fi => (evL (evalE P call d sx e) es S).bind fun us S1 => (evK (evalE P call d sx e) kws S1).bind fun ws S2 => ownR call f fi (kws.map (·.arg)) us ws S2
        | none => if kws.isEmpty = true ∧ f ∈ builtins then (evL (evalE P call d sx e) es S).bind fun us S1 => builtinI P.isa (P.mu pos) f us S1 else .bad
        else .bad) := fun e S => rfl
      by_cases h : (okN f = true ∧ plainA es kws = true) ∧ sx.sc.names.lookup f = some .globalImplicit
      · cases hF : P.F f with
        | some fi =>
          refine se_of (se_own (g := fun x e S => evalE P call d sx e x S) (p := p) (pos := pos) C hF h.1.1 h.2 hf sb h.1.2) fun e S => ?_
          rw [hd, if_pos h, hF]
        | none =>
          by_cases hb : kws.isEmpty = true ∧ f ∈ builtins
          · have hk : kws = [] := List.isEmpty_iff.mp hb.1
            subst hk
            have hst : es.all (fun e => !isStar e) = true := by
              have := h.1.2
              unfold plainA at this
              rw [Bool.and_eq_true] at this
              exact this.1
            refine se_of (se_builtin (m := P.mu pos) (p := p) (pos := pos) C hF hb.2 h.2 (pa_Z (f := fun x e S => evalE P call d sx e x S) hf sb es) hst fun e S he => by subst he; rfl) fun e S => ?_
            rw [hd, if_pos h, hF]
            exact if_pos hb
          · exact se_bad fun e S => by
              rw [hd, if_pos h, hF]
              exact if_neg hb
      · exact se_bad fun e S => by rw [hd, if_neg h]
    | Attribute o m ap =>
      cases kws with
      | cons _ _ => exact se_bad fun e S => rfl
      | nil =>
        have hd : ∀ e S, evalE P call (d + 1) sx e (.Call (.Attribute o m ap) es [] pos) S = (match methTy m with
          | none => .bad
          | some T => if ((ap.endLine == pos.line) = true ∧ plainA es [] = true) ∧ ((1 ≤ es.length ∨ m = "pop") ∧ es.length < 20) ∧ isSuper o = false then
              (evalE P call d sx e o S).bind fun u S1 => if valTy u S1 = some T then (evL (evalE P call d sx e) es S1).bind fun us S2 => method (P.mu pos) u m us S2 else .bad
            else .bad) := fun e S => rfl
        cases hT : methTy m with
        | none => exact se_bad fun e S => by rw [hd, hT]
        | some T =>
          by_cases h : ((ap.endLine == pos.line) = true ∧ plainA es [] = true) ∧ ((1 ≤ es.length ∨ m = "pop") ∧ es.length < 20) ∧ isSuper o = false
          · have hst : es.all (fun e => !isStar e) = true := by
              have := h.1.2
              unfold plainA at this
              rw [Bool.and_eq_true] at this
              exact this.1
            by_cases h1 : 1 ≤ es.length
            · refine se_of (se_meth (mu := P.mu pos) (ap := ap) (cp := pos) C (hf o) (pa_Z (f := fun x e S => evalE P call d sx e x S) hf sb es) h.1.1 hst h1 h.2.1.2 h.2.2 hT) fun e S => ?_
              rw [hd, hT]
              exact if_pos h
            · have hm := h.2.1.1.resolve_left h1
              subst hm
              have h0 : es = [] := by
                cases es with
                | nil => rfl
                | cons a r => exact absurd (Nat.succ_le_succ (Nat.zero_le _)) h1
              subst h0
              cases hT
              refine se_of (se_pop0 (mu := P.mu pos) (ap := ap) (cp := pos) C (hf o) h.1.1 h.2.2) fun e S => ?_
              rw [hd]
              exact if_pos h
          · exact se_bad fun e S => by
              rw [hd, hT]
              exact if_neg h
    | _ => exact se_bad fun e S => rfl
  | Attribute o n pos =>
    by_cases hs : isSuper o = false
    · refine se_of (se_attr (n := n) (pos := pos) C (hf o) (base_ok hs)) fun e S => ?_
      show (if isSuper o = false then _ else _) = _
      rw [if_pos hs]
    · exact se_bad fun e S => by
        show (if isSuper o = false then _ else _) = _
        rw [if_neg hs]
  | ListComp elt gs scope pos =>
    cases gs with
    | nil => exact se_bad fun e S => rfl
    | cons g r =>
      cases r with
      | cons _ _ => exact se_bad fun e S => by obtain ⟨tg, iter, ifs, a⟩ := g; cases a with | ofNat n => (cases n <;> rfl) | negSucc n => rfl
      | nil =>
        obtain ⟨tg, iter, ifs, a⟩ := g
        by_cases ha : a = 0
        · subst ha
          have hd : ∀ e S, evalE P call (d + 1) sx e (.ListComp elt [⟨tg, iter, ifs, 0⟩] scope pos) S = (if blkC sx.N sx.sc scope (ownOf sx.N scope) = true ∧ ((slotsT sx.N tg).all fun i => ((ownOf sx.N scope).map (·.2)).contains i) = true ∧ ifs.length ≤ 1 then
              (walkE (rgOk P sx) tg (evalE P call d sx e) iter S).bind fun q S1 =>
              (noX (turns q (lcTurn (evalE P call d (sxB sx scope)) (sxB sx scope) (wipeW e ((ownOf sx.N scope).map (·.2))) tg ifs elt) q.len 0 [] S1)).bind fun acc S6 => mk (P.mu pos) acc S6
            else .bad) := fun e S => rfl
          by_cases h : blkC sx.N sx.sc scope (ownOf sx.N scope) = true ∧ ((slotsT sx.N tg).all fun i => ((ownOf sx.N scope).map (·.2)).contains i) = true ∧ ifs.length ≤ 1
          · by_cases hset : isSet iter = true
            · exact se_bad fun e S => by
                rw [hd, if_pos h]
                unfold walkE
                rw [if_pos hset]; rfl
            · refine se_of (se_comp (m := P.mu pos) (f := fun sx e x S => evalE P call d sx e x S) (pos := pos) C hE hT (fun sx x e S h => star_bad h) h.1 h.2.1 h.2.2 (by simpa using hset)) fun e S => ?_
              rw [hd, if_pos h]
          · exact se_bad fun e S => by rw [hd, if_neg h]
        · exact se_bad fun e S => by
            cases a with
            | ofNat n => cases n with
              | zero => exact absurd rfl ha
              | succ n => rfl
            | negSucc n => rfl
  | _ => exact se_bad fun e S => rfl
/-! ### tests -/
theorem tst_Z {X : Cx} {EE : EK} (hG : G.K = X.K) {a : Expr} {r : En → So → Res W} (h : PE X a (tE G EE r)) (he : ∀ whole, isTrue a X.env whole = (do let v ← whole; standAt a.pos; holding [v] (truthy v))) : PT X a (tT G EE (tst r)) := by
  refine (pt_truth h he).of fun σ H Q ⟨I, S, e, rl, rs, h⟩ => ?_
  unfold tst at h
  refine tE.step rl rs h fun w S1 H1 I1 v k1 rl1 hv h1 => ?_
  obtain ⟨b, e1, h2⟩ := RE.ofO h1
  exact ⟨b, by rw [← hG]; exact truth_ok rl1 hv e1, RE.now (k := kB Q) h2 rl1⟩
theorem PT.never' {X : Cx} {e : Expr} {t : TT} (h : ∀ σ H Q, t σ H Q → False) : PT X e t := ⟨fun _ _ σ H Q _ q => (h σ H Q q).elim⟩
theorem st_bad {X : Cx} {x : Expr} {EE : EK} {r : En → So → Res W} (h : ∀ e S, r e S = .bad) : PT X x (tT G EE (tst r)) := PT.never' fun σ H Q ⟨I, S, e, rl, rs, q⟩ => by unfold tst at q; rw [h] at q; exact q
theorem st_of {X : Cx} {x : Expr} {EE : EK} {r r' : En → So → Res Bool} (h : PT X x (tT G EE r)) (q : ∀ e S, r' e S = r e S) : PT X x (tT G EE r') := by
  have : r' = r := funext fun e => funext fun S => q e S
  rw [this]; exact h
theorem st_not {X : Cx} {EE : EK} {a : Expr} {p : Pos} {r : En → So → Res W} (h : PT X a (tT G EE (tst r))) :
    PT X (.UnaryOp .Not a p) (tT G EE (tst fun e S => (r e S).bind fun u S1 => match truth u S1 with | some b => .ok (.bl (!b)) S1 | none => .bad)) := by
  refine (pt_not h).of fun σ H Q ⟨I, S, e, rl, rs, h⟩ => ⟨I, S, e, rl, rs, ?_⟩
  unfold tst at h ⊢
  cases q : r e S with
  | bad => simp only [q] at h; exact h
  | exn x S1 => simp only [q] at h; exact h
  | ok u S1 =>
    simp only [q, Res.bind] at h ⊢
    cases q2 : truth u S1 with
    | none => simp only [q2] at h; exact h
    | some b =>
      simp only [q2] at h
      exact h
theorem st_bool {X : Cx} {EE : EK} {op : BoolOp} {p : Pos} {f : Expr → En → So → Res W} (hf : ∀ x, PT X x (tT G EE (tst (f x)))) : ∀ vs : List Expr, vs ≠ [] →
    PW X (.BoolOp op vs p) (tT G EE (tst fun e S => evB (match op with | .And => true | .Or => false) (fun x => f x e) vs S))
  | [], h => absurd rfl h
  | [x], _ => by
    cases op with
    | And => exact pw_and1 (hf x)
    | Or => exact pw_or1 (hf x)
  | x :: y :: r, _ => by
    have ih := st_bool (p := p) (op := op) hf (y :: r) (by simp)
    have core : ∀ (isAnd : Bool) (σ : L2.St) (H : Hp) (Q : Bool → Hp → Prop), tT G EE (tst fun e S => evB isAnd (fun x => f x e) (x :: y :: r) S) σ H Q →
        tT G EE (tst (f x)) σ H (fun c H1 => if c = isAnd then tT G EE (tst fun e S => evB isAnd (fun x => f x e) (y :: r) S) σ H1 Q else Q c H1) := fun isAnd σ H Q ⟨I, S, e, rl, rs, h⟩ => by
      refine ⟨I, S, e, rl, rs, ?_⟩
      unfold tst at h ⊢
      have hd : evB isAnd (fun x => f x e) (x :: y :: r) S = (f x e S).bind fun w S1 => match truth w S1 with
        | some b => if b = isAnd then evB isAnd (fun x => f x e) (y :: r) S1 else .ok w S1
        | none => .bad := rfl
      simp only [hd] at h
      cases q : f x e S with
      | bad => simp only [q] at h; exact h
      | exn x S1 => simp only [q] at h; exact h
      | ok u S1 =>
        simp only [q, Res.bind] at h ⊢
        cases q2 : truth u S1 with
        | none => simp only [q2] at h; exact h
        | some b =>
          simp only [q2] at h
          intro H1 I1 k1 rl1
          by_cases hb : b = isAnd
          · simp only [hb, if_true] at h
            unfold kB
            dsimp only
            rw [if_pos hb]
            exact ⟨I1, S1, e, rl1, rs.mono k1, RE.mono k1 h⟩
          · simp only [hb, if_false, q2, ofO] at h
            unfold kB
            dsimp only
            rw [if_neg hb]
            exact RE.now (k := kB Q) (RE.mono k1 h) rl1
    cases op with
    | And =>
      refine ⟨fun whole pins s σ H Q J h => (pw_and (hf x) ih).run whole pins s σ H Q J ?_⟩
      have h2 := core true σ H Q h
      obtain ⟨I, S, e, rl, rs, h3⟩ := h2
      refine ⟨I, S, e, rl, rs, h3.imp fun b S1 H1 I1 k1 rl1 q => ?_⟩
      cases b with
      | true => exact q
      | false => exact q
    | Or =>
      refine ⟨fun whole pins s σ H Q J h => (pw_or (hf x) ih).run whole pins s σ H Q J ?_⟩
      have h2 := core false σ H Q h
      obtain ⟨I, S, e, rl, rs, h3⟩ := h2
      refine ⟨I, S, e, rl, rs, h3.imp fun b S1 H1 I1 k1 rl1 q => ?_⟩
      cases b with
      | true => exact q
      | false => exact q
theorem _root_.Y.Res.assoc {α β γ : Type} {r : Res α} {f : α → So → Res β} {g : β → So → Res γ} : (r.bind f).bind g = r.bind fun a S => (f a S).bind g := by
  cases r <;> rfl
theorem st_cmp {sx : Sx} {E : XK} {X : Cx} (C : Cz P call CX k sx G E X) {a b : Expr} {op : CmpOp} {p : Pos} {ra rb : En → So → Res W} (ha : PE X a (tE G (EKof G E) ra)) (hb : PE X b (tE G (EKof G E) rb)) :
    PT X (.Compare a [op] [b] p) (tT G (EKof G E) (tst fun e S => if isSet b = true then .bad else (ra e S).bind fun u S1 => (rb e S1).bind fun v S2 => fC op u v S2)) := by
  by_cases hs : isSet b = true
  · exact st_bad fun e S => by simp only [hs, if_true]
  · refine (pt_cmpR (op_C C op) ha hb (mark_ok (by simpa using hs))).of fun σ H Q ⟨I, S, e, rl, rs, h⟩ => ?_
    unfold tst at h
    simp only [hs, Bool.false_eq_true, if_false, Res.assoc] at h
    refine tE.step rl rs h fun w S1 H1 I1 v k1 rl1 hv h1 => ?_
    refine tE.step (S := S1) rl1 (rs.mono k1) h1 fun z S2 H2 I2 u k2 rl2 hu h2 => ?_
    refine ⟨I2, S2, w, z, rl2, hv.mono k2, hu, ?_⟩
    unfold fC at h2 ⊢
    cases q : cmp op w z S2 with
    | none => rw [q] at h2; exact h2
    | some t =>
      rw [q] at h2
      intro H3 I3 k3 rl3 y hy
      unfold RW at hy
      exact ⟨t, hy, RE.now (k := kB Q) (RE.mono k3 (show RE G (EKof G E) H2 I2 (kB Q) (.ok t S2) from h2)) rl3⟩
theorem st_cmp2 {sx : Sx} {E : XK} {X : Cx} (C : Cz P call CX k sx G E X) {a b c : Expr} {op op' : CmpOp} {p : Pos} {ra rb rc : En → So → Res W} (ha : PE X a (tE G (EKof G E) ra)) (hb : PE X b (tE G (EKof G E) rb)) (hc : PE X c (tE G (EKof G E) rc)) :
    PT X (.Compare a [op, op'] [b, c] p) (tT G (EKof G E) (tst fun e S => if (isSet b || isSet c) = true then .bad else (ra e S).bind fun u S1 => (rb e S1).bind fun v S2 => fC2 op op' (rc e) u v S2)) := by
  by_cases hs : (isSet b || isSet c) = true
  · exact st_bad fun e S => by simp only [hs, if_true]
  · have hc2 : isSet c = false := by cases q : isSet c <;> simp_all
    refine (pt_chain (op_C C op) (op_C C op') ha hb hc (marks2 hc2)).of fun σ H Q ⟨I, S, e, rl, rs, h⟩ => ?_
    unfold tst at h
    simp only [hs, Bool.false_eq_true, if_false, Res.assoc] at h
    refine tE.step rl rs h fun w S1 H1 I1 v k1 rl1 hv h1 => ?_
    refine tE.step (S := S1) rl1 (rs.mono k1) h1 fun z S2 H2 I2 u k2 rl2 hu h2 => ?_
    refine ⟨I2, S2, w, z, rl2, hv.mono k2, hu, ?_⟩
    unfold fC2 at h2
    unfold fC
    cases q : cmp op w z S2 with
    | none => rw [q] at h2; exact h2
    | some t =>
      rw [q] at h2
      intro H3 I3 k3 rl3 y hy
      unfold RW at hy
      refine ⟨t, hy, ?_⟩
      have h3 := RE.mono k3 h2
      cases t with
      | false => exact iteF ⟨false, rfl, RE.now (k := kB Q) (show RE G (EKof G E) H3 I3 (kB Q) (.ok false S2) from h3) rl3⟩
      | true =>
        have h4 : RE G (EKof G E) H3 I3 (kB Q) ((rc e S2).bind fun z' S4 => (fC op' z z' S4).bind fun u S1 => ofO (truth u S1) S1) := by
          rw [← Res.assoc]; exact h3
        refine iteT (tE.step (S := S2) rl3 ((rs.mono k1).mono (k2.trans k3)) h4 fun w' S4 H4 I4 v' k4 rl4 hv' h5 => ?_)
        refine ⟨I4, S4, z, w', rl4, hu.mono (k3.trans k4), hv', ?_⟩
        unfold fC at h5
        dsimp only
        cases q2 : cmp op' z w' S4 with
        | none => rw [q2] at h5; exact h5
        | some t =>
          rw [q2] at h5
          intro H5 I5 k5 rl5 y hy
          unfold RW at hy
          exact ⟨t, hy, RE.now (k := kB Q) (RE.mono k5 (show RE G (EKof G E) H4 I4 (kB Q) (.ok t S4) from h5)) rl5⟩
theorem st_if {X : Cx} {EE : EK} {c a b : Expr} {p : Pos} {rc ra rb : En → So → Res W} (hc : PT X c (tT G EE (tst rc))) (ha : PT X a (tT G EE (tst ra))) (hb : PT X b (tT G EE (tst rb))) :
    PT X (.IfExp c a b p) (tT G EE (tst fun e S => (rc e S).bind fun u S1 => match truth u S1 with | some true => ra e S1 | some false => rb e S1 | none => .bad)) := by
  refine ⟨fun pins s σ H Q J ⟨I, S, e, rl, rs, h⟩ G0 g0 => ?_⟩
  refine PyProof.Rows.isTrue_IfExp (wq.th (hc.run pins s σ H (fun t H1 => if t = true then tT G EE (tst ra) σ H1 Q else tT G EE (tst rb) σ H1 Q) J ⟨I, S, e, rl, rs, ?_⟩) g0 fun t s1 g1 ⟨H1, J1, q⟩ => ?_)
  · unfold tst at h ⊢
    cases q : rc e S with
    | bad => simp only [q] at h; exact h
    | exn x S1 => simp only [q] at h; exact h
    | ok u S1 =>
      simp only [q, Res.bind] at h ⊢
      cases q2 : truth u S1 with
      | none => simp only [q2] at h; exact h
      | some t =>
        simp only [q2] at h
        intro H1 I1 k1 rl1
        unfold kB
        dsimp only
        cases t with
        | true => exact iteT ⟨I1, S1, e, rl1, rs.mono k1, RE.mono k1 h⟩
        | false => exact iteF ⟨I1, S1, e, rl1, rs.mono k1, RE.mono k1 h⟩
  · cases t with
    | true => exact ha.run pins s1 σ H1 Q J1 q G0 g1
    | false => exact hb.run pins s1 σ H1 Q J1 q G0 g1
theorem st_succ {d : Nat} (hE1 : SE P call CX k G (d + 1)) (hE : SE P call CX k G d) (hT : ST P call CX k G d) : ST P call CX k G (d + 1) := by
  intro sx E X C x
  have hf := hE sx E X C
  have hft := hT sx E X C
  have hx := hE1 sx E X C
  cases x with
  | UnaryOp op a p =>
    cases op with
    | Not => exact st_not (r := fun e S => evalE P call d sx e a S) (hft a)
    | USub => exact tst_Z C.K (hx _) (fun _ => rfl)
    | _ => exact st_bad fun e S => rfl
  | BoolOp op vs p =>
    by_cases hv : vs = []
    · subst hv; exact st_bad fun e S => rfl
    · exact (st_bool (p := p) (f := fun x e S => evalE P call d sx e x S) hft vs hv).pt
  | Compare a ops cs p =>
    cases ops with
    | nil => exact st_bad fun e S => by cases cs <;> rfl
    | cons op r =>
      cases r with
      | nil =>
        cases cs with
        | nil => exact st_bad fun e S => rfl
        | cons b t =>
          cases t with
          | nil => exact st_cmp C (hf a) (hf b)
          | cons c t => exact st_bad fun e S => rfl
      | cons op' r =>
        cases r with
        | nil =>
          cases cs with
          | nil => exact st_bad fun e S => rfl
          | cons b t =>
            cases t with
            | nil => exact st_bad fun e S => rfl
            | cons c t =>
              cases t with
              | nil => exact st_cmp2 C (hf a) (hf b) (hf c)
              | cons _ _ => exact st_bad fun e S => rfl
        | cons _ _ => exact st_bad fun e S => by cases cs with | nil => rfl | cons _ t => (cases t with | nil => rfl | cons _ t => (cases t <;> rfl))
  | IfExp c a b p => exact st_if (rc := fun e S => evalE P call d sx e c S) (hft c) (hft a) (hft b)
  | _ => exact tst_Z C.K (hx _) (fun _ => rfl)
theorem se_zero : SE P call CX k G 0 := fun sx E X C x => se_bad fun e S => rfl
theorem st_zero : ST P call CX k G 0 := fun sx E X C x => st_bad fun e S => rfl
/-- EVERY EXPRESSION, at any depth -/
theorem se_all : ∀ d, SE P call CX k G d ∧ ST P call CX k G d
  | 0 => ⟨se_zero, st_zero⟩
  | d + 1 => by
    obtain ⟨a, b⟩ := se_all d
    have c := se_succ a b
    exact ⟨c, st_succ c a b⟩
end
end Y

/-! Statements. -/
namespace Y
open PySem PySem.Spec PyProof.Rows L2
open D (model2 Kept Cl Alike deadS)
def kS (G : Gd) (D : Ends) : AK (En × Fl) := fun r _ H' I' => match r.2 with
  | .nx => ∀ σ', RS G H' I' r.1 σ' → D.nx σ' H'
  | .brk => ∀ σ', RS G H' I' r.1 σ' → D.bk σ' H'
  | .ct => ∀ σ', RS G H' I' r.1 σ' → D.ct σ' H'
  | .ret w => ∀ v, RW G H' I' w v → D.rt v H'
def tS (G : Gd) (E : EK) (r : En → So → Res (En × Fl)) : TS := fun D σ H => ∃ I S e, Rel G H I S ∧ RS G H I e σ ∧ RE G E H I (kS G D) (r e S)
theorem PS.of {X : Cx} {e : Stmt} {t t' : TS} (h : PS X e t) (w : ∀ D σ H, t' D σ H → t D σ H) : PS X e t' := ⟨fun pins s σ H Q J q => h.run pins s σ H Q J (w _ _ _ q)⟩
theorem PSs.of {X : Cx} {e : List Stmt} {t t' : TS} (h : PSs X e t) (w : ∀ D σ H, t' D σ H → t D σ H) : PSs X e t' := ⟨fun pins s σ H Q J q => h.run pins s σ H Q J (w _ _ _ q)⟩
theorem PS.never' {X : Cx} {e : Stmt} {t : TS} (h : ∀ D σ H, t D σ H → False) : PS X e t := ⟨fun _ _ σ H Q _ q => (h Q σ H q).elim⟩
section
variable {P : Pg} {call : Cf} {CX : CXT} {k : Nat} {sx : Sx} {G : Gd} {E : XK} {X : Cx} {EE : EK}
theorem ss_bad {x : Stmt} {r : En → So → Res (En × Fl)} (h : ∀ e S, r e S = .bad) : PS X x (tS G EE r) := PS.never' fun D σ H ⟨I, S, e, rl, rs, q⟩ => by rw [h] at q; exact q
theorem ss_of {x : Stmt} {r r' : En → So → Res (En × Fl)} (h : PS X x (tS G EE r)) (q : ∀ e S, r' e S = r e S) : PS X x (tS G EE r') := by
  have : r' = r := funext fun e => funext fun S => q e S
  rw [this]; exact h
theorem ss_blk {f : Stmt → En → So → Res (En × Fl)} (hf : ∀ x, PS X x (tS G EE (f x))) : ∀ l : List Stmt, PSs X l (tS G EE fun e S => evS (fun x => f x) l e S)
  | [] => pss_nil.of fun D σ H ⟨I, S, e, rl, rs, h⟩ => RE.now (k := kS G D) h rl σ rs
  | x :: l => (pss_cons (hf x) (ss_blk hf l)).of fun D σ H ⟨I, S, e, rl, rs, h⟩ => by
    refine ⟨I, S, e, rl, rs, (RE.bind (r := f x e S) h).imp fun r S1 H1 I1 k1 rl1 h1 => ?_⟩
    obtain ⟨e1, fl⟩ := r
    cases fl with
    | nx => exact fun σ' rs' => ⟨I1, S1, e1, rl1, rs', h1⟩
    | brk => exact RE.now (k := kS G D) h1 rl1
    | ct => exact RE.now (k := kS G D) h1 rl1
    | ret w => exact RE.now (k := kS G D) h1 rl1
theorem ss_if {c : Expr} {a b : List Stmt} {p : Pos} {rc : En → So → Res W} {ra rb : En → So → Res (En × Fl)} (hc : PT X c (tT G EE (tst rc))) (ha : PSs X a (tS G EE ra)) (hb : PSs X b (tS G EE rb)) :
    PS X (.If c a b p) (tS G EE fun e S => (rc e S).bind fun u S1 => match truth u S1 with | some true => ra e S1 | some false => rb e S1 | none => .bad) := by
  refine (ps_if hc ha hb).of fun D σ H ⟨I, S, e, rl, rs, h⟩ => ⟨I, S, e, rl, rs, ?_⟩
  unfold tst
  cases q : rc e S with
  | bad => simp only [q] at h; exact h
  | exn x S1 => simp only [q] at h; exact h
  | ok u S1 =>
    simp only [q, Res.bind] at h ⊢
    cases q2 : truth u S1 with
    | none => simp only [q2] at h; exact h
    | some t =>
      simp only [q2] at h
      intro H1 I1 k1 rl1
      unfold kB
      dsimp only
      cases t with
      | true => exact iteT ⟨I1, S1, e, rl1, rs.mono k1, RE.mono k1 h⟩
      | false => exact iteF ⟨I1, S1, e, rl1, rs.mono k1, RE.mono k1 h⟩
theorem ss_expr {v : Expr} {p : Pos} {r : En → So → Res W} (hc : isComp v = false) (h : PE X v (tE G EE r)) : PS X (.Expr v p) (tS G EE fun e S => (r e S).bind fun _ S1 => .ok (e, .nx) S1) := by
  refine (ps_expr h (by cases v <;> first | rfl | cases hc)).of fun D σ H ⟨I, S, e, rl, rs, h⟩ => ?_
  refine tE.step rl rs h fun w S1 H1 I1 v k1 rl1 hv h1 => ?_
  exact RE.now (k := kS G D) h1 rl1 σ (rs.mono k1)
theorem ss_ret {v : Expr} {p : Pos} {r : En → So → Res W} (h : PE X v (tE G EE r)) : PS X (.Return (some v) p) (tS G EE fun e S => (r e S).bind fun w S1 => .ok (e, .ret w) S1) := by
  refine (ps_ret h).of fun D σ H ⟨I, S, e, rl, rs, h⟩ => ?_
  refine tE.step rl rs h fun w S1 H1 I1 v k1 rl1 hv h1 => ?_
  exact RE.now (k := kS G D) h1 rl1 v hv
theorem asgL_len : ∀ {es : List Expr} {ws : List W} {e e2 : En}, asgL sx es ws e = some e2 → e2.length = e.length
  | [], [], e, e2, h => by unfold asgL at h; cases h; rfl
  | x :: r, w :: ws, e, e2, h => by
    cases x with
    | Name x p =>
      unfold asgL at h
      obtain ⟨e1, h1, h2⟩ := Option.bind_eq_some_iff.mp h
      obtain ⟨i, hi, rfl, hk⟩ := asgN_ok h1
      rw [asgL_len h2]; simp
    | _ => simp [asgL] at h
  | [], _ :: _, _, _, h => by simp [asgL] at h
  | .Name _ _ :: _, [], _, _, h => by simp [asgL] at h
  | _ :: _, [], _, _, h => by simp [asgL] at h
/-- target = value, one store after the value -/
theorem ss_asg (C : Cz P call CX k sx G E X) {tg v : Expr} {p : Pos} {r : En → So → Res W} (h : PE X v (tE G EE r)) (hs : swapsWithSole [tg] v p.line X.env = pure false) (hw : swappedStores [tg] v X.env = pure none) (h1 : (assignEach [tg] X.env).map (·.2) = [assign tg X.env]) :
    PS X (.Assign [tg] v p) (tS G EE fun e S => (r e S).bind fun w S1 => (ofO (asg sx e tg w) S1).bind fun e2 S2 => .ok (e2, .nx) S2) := by
  refine (ps_asg h (pg_Z C tg) hs hw h1).of fun D σ H ⟨I, S, e, rl, rs, h⟩ => ?_
  refine tE.step rl rs h fun w S1 H1 I1 v k1 rl1 hv h1 => ?_
  obtain ⟨e2, ea, h2⟩ := RE.ofO (RE.bind h1)
  exact ⟨I1, S1, e, w, e2, rl1, rs.mono k1, hv, ea, fun σ' rs' _ _ => RE.now (k := kS G D) (RE.now h2 rl1) rl1 σ' rs'⟩
theorem plainSub {o i : Expr} {pos : Pos} {env : Env} (h : isSlice i = false) : ∀ v, assign (.Subscript o i pos) env v = (do
      let ov ← holding [v] (eval o env)
      let iv ← holding [v, ov] (eval i env)
      standAt pos
      holding [v, ov, iv] (PySem.setItem ov iv v)
      release [v, ov, iv] []) := by
  intro v
  cases i <;> first | rfl | cases h
theorem sw_sub {o i v : Expr} {p : Pos} {l : Nat} {env : Env} : swapsWithSole [.Subscript o i p] v l env = pure false := by
  cases v <;> rfl
theorem sw_subS {o i v : Expr} {p : Pos} {env : Env} : swappedStores [.Subscript o i p] v env = pure none := by rfl
theorem ss_sub (C : Cz P call CX k sx G E X) {o i v : Expr} {p p' : Pos} {ro ri rv : En → So → Res W} (ho : PE X o (tE G EE ro)) (hi : PE X i (tE G EE ri)) (hv : PE X v (tE G EE rv)) (hs : isSlice i = false) :
    PS X (.Assign [.Subscript o i p'] v p) (tS G EE fun e S => (rv e S).bind fun w S1 => (ro e S1).bind fun u S2 => (ri e S2).bind fun k S3 => (ofO (Y.setItem u k w S3) S3).bind fun S4 _ => .ok (e, .nx) S4) := by
  refine (ps_asg hv (pg_sub ho hi (set_Z (X := X.nox) (G := G) C.K C.wd (units200 C.room) (by have : X.A.units + 200 < cLine := units200 C.room; show X.A.units + 1 < cLine; omega)) (plainSub hs)) sw_sub sw_subS rfl).of fun D σ H ⟨I, S, e, rl, rs, h⟩ => ?_
  refine tE.step rl rs h fun w S1 H1 I1 v k1 rl1 hv h1 => ?_
  refine tE.step (S := S1) rl1 (rs.mono k1) h1 fun u S2 H2 I2 y k2 rl2 hu h2 => ?_
  refine tE.step (S := S2) rl2 (rs.mono (k1.trans k2)) h2 fun q S3 H3 I3 z k3 rl3 hq h3 => ?_
  cases es : Y.setItem u q w S3 with
  | none => rw [es] at h3; exact False.elim h3
  | some S4 =>
    rw [es] at h3
    refine ⟨I3, S3, u, q, w, S4, rl3, hu.mono k3, hq, hv.mono (k2.trans k3), es, fun H4 k4 rl4 => ?_⟩
    have h4 : RE G EE H3 I3 (kS G D) (.ok (e, .nx) S4) := h3
    exact h4 H4 I3 k4 rl4 σ ((rs.mono (k1.trans (k2.trans k3))).mono k4)
/-! ### for -/
theorem ss_for (C : Cz P call CX k sx G E X) (po : PassesK X) {tg iter : Expr} {body : List Stmt} {p : Pos} {f : Expr → En → So → Res W} {g : En → So → Res (En × Fl)} (hf : ∀ x, PE X x (tE G EE (f x))) (hs : ∀ x e S, isStar x = true → f x e S = .bad) (hb : PSs X body (tS G EE g)) (hset : isSet iter = false) :
    PS X (.For tg iter body [] p) (tS G EE fun e S => (walkE (rgF P sx) tg (fun x => f x e) iter S).bind fun q S1 => turns q (forTurn sx tg g) q.len 0 (e, Fl.nx) S1) := by
  refine (ps_forE po C.calm (pi_Z (tg := tg) C hf hs iter) (pg_Z C tg) hb pss_nil (fold_ok hset)).of fun D σ H ⟨I, S, e, rl, rs, h⟩ => ?_
  refine ⟨I, S, e, rl, rs, (RE.bind h).imp fun q S1 H1 I1 k1 rl1 h1 J hJ => ?_⟩
  refine ⟨fun j m σj Hj => ∃ Ij Sj ej, Rel G Hj Ij Sj ∧ RS G Hj Ij ej σj ∧ Mv H1 I1 Hj Ij ∧ RE G EE Hj Ij (kS G D) (turns q (forTurn sx tg g) m j (ej, Fl.nx) Sj), ⟨q.len, I1, S1, e, rl1, rs.mono k1, Mv.refl _ _, h1⟩, ?_⟩
  rintro j m σj Hj ⟨Ij, Sj, ej, rlj, rsj, kj, hj⟩
  obtain ⟨w1, w2⟩ := hJ Hj Ij Sj j kj rlj
  unfold turns at hj
  cases qa : q.at j Sj with
  | none => rw [qa] at hj; exact False.elim hj
  | some o =>
    rw [qa] at hj
    cases o with
    | none => exact .inl ⟨w2 qa, RE.now (k := kS G D) hj rlj σj rsj⟩
    | some w =>
      cases m with
      | zero => exact False.elim hj
      | succ m =>
        simp only at hj
        obtain ⟨jg, jy⟩ := w1 w qa
        refine .inr ⟨jg, fun σ' H' => ∃ I' S' e', Rel G H' I' S' ∧ RS G H' I' e' σ' ∧ Mv H1 I1 H' I' ∧ RE G EE H' I' (kS G D) (turns q (forTurn sx tg g) m (j + 1) (e', Fl.nx) S'),
          fun σ' H' nx => ⟨m, Nat.lt_succ_self m, nx⟩, fun x H3 hy => ?_⟩
        obtain ⟨k3, rl3, hw3⟩ := jy x H3 hy
        have hj3 := hj.mono k3
        unfold forTurn at hj3
        simp only at hj3
        cases ea : asg sx ej tg w with
        | none => rw [ea] at hj3; exact False.elim hj3
        | some e2 =>
          rw [ea] at hj3
          simp only at hj3
          refine ⟨Ij, Sj, ej, w, e2, rl3, rsj.mono k3, hw3, ea, fun σ2 rs4 hl4 ho4 => ?_⟩
          refine ⟨Ij, Sj, e2, rl3, rs4, (RE.bind (RE.bind hj3)).imp fun r S4 H4 I4 k4 rl4 h4 => ?_⟩
          obtain ⟨e4, fl⟩ := r
          cases fl with
          | nx => exact fun σ' rs' => ⟨I4, S4, e4, rl4, rs', (kj.trans k3.mv).trans k4.mv, RE.now h4 rl4⟩
          | ct => exact fun σ' rs' => ⟨I4, S4, e4, rl4, rs', (kj.trans k3.mv).trans k4.mv, RE.now h4 rl4⟩
          | brk => exact RE.now (k := kS G D) (RE.now h4 rl4) rl4
          | ret w => exact RE.now (k := kS G D) (RE.now h4 rl4) rl4
/-! ### while, name op= value -/
theorem ss_while (po : PassesK X) {c : Expr} {body : List Stmt} {p : Pos} {rc : En → So → Res W} {rb : En → So → Res (En × Fl)} (hc : PT X c (tT G EE (tst rc))) (hb : PSs X body (tS G EE rb)) :
    PS X (.While c body [] p) (tS G EE fun e S => whileE (tst rc) rb fuelW e S) := by
  refine (ps_while po hc hb).of fun D σ H ⟨I, S, e, rl, rs, h⟩ => ?_
  refine ⟨fun m σ H => ∃ I S e, Rel G H I S ∧ RS G H I e σ ∧ RE G EE H I (kS G D) (whileE (tst rc) rb m e S), ⟨fuelW, I, S, e, rl, rs, h⟩, ?_⟩
  rintro m σ H ⟨I, S, e, rl, rs, h⟩
  cases m with
  | zero => exact False.elim h
  | succ m =>
    refine ⟨I, S, e, rl, rs, (RE.bind (r := tst rc e S) h).imp fun b S1 H1 I1 k1 rl1 h1 => ?_⟩
    cases b with
    | false => exact RE.now (k := kS G D) h1 rl1 σ (rs.mono k1)
    | true =>
      refine ⟨fun σ' H' => ∃ I S e, Rel G H' I S ∧ RS G H' I e σ' ∧ RE G EE H' I (kS G D) (whileE (tst rc) rb m e S), fun σ' H' q => ⟨m, Nat.lt_succ_self m, q⟩, I1, S1, e, rl1, rs.mono k1, ?_⟩
      have h2 : RE G EE H1 I1 (kS G D) ((rb e S1).bind fun r S2 => match r.2 with
        | .nx => whileE (tst rc) rb m r.1 S2
        | .ct => whileE (tst rc) rb m r.1 S2
        | .brk => .ok (r.1, .nx) S2
        | .ret w => .ok (r.1, .ret w) S2) := h1
      refine (RE.bind h2).imp fun r S2 H2 I2 k2 rl2 h3 => ?_
      obtain ⟨e2, fl⟩ := r
      cases fl with
      | nx => exact fun σ' rs' => ⟨I2, S2, e2, rl2, rs', h3⟩
      | ct => exact fun σ' rs' => ⟨I2, S2, e2, rl2, rs', h3⟩
      | brk => exact RE.now (k := kS G D) h3 rl2
      | ret w => exact RE.now (k := kS G D) h3 rl2
theorem ownS_ok {x : Str} {i : Nat} (h : ownS sx x = some i) : idx sx.N x = some i ∧ (sx.sc.names.lookup x = some .local ∨ (sx.sc.names.lookup x = some .cell ∧ sx.fn x = true)) := by
  unfold ownS at h
  split at h
  · rename_i hl; exact ⟨h, .inl hl⟩
  · rename_i hl
    split at h
    · rename_i hf; exact ⟨h, .inr ⟨hl, hf⟩⟩
    · cases h
  · cases h
theorem ss_augI (C : Cz P call CX k sx G E X) {x : Str} {v : Expr} {p p' : Pos} {op : Operator} {f : Int → Int → Int} {i : Nat} {rv : En → So → Res W} (hop : PIp X.nox op (ipI f)) (hi : idx sx.N x = some i) (hk : sx.sc.names.lookup x = some .local ∨ (sx.sc.names.lookup x = some .cell ∧ sx.fn x = true)) (hv : PE X v (tE G EE rv))
    (he : ∀ u w S z S2, augI op u w S = .ok z S2 → ∃ a b, u = .int a ∧ w = .int b ∧ z = .int (f a b) ∧ S2 = S) (hx : ∀ u w S y S2, augI op u w S ≠ .exn y S2) :
    PS X (.AugAssign (.Name x p') op v p) (tS G EE fun e S => match slot e i with
        | none => .bad
        | some u => (rv e S).bind fun w S1 => (augI op u w S1).bind fun z S2 => .ok (e.set i (some z), .nx) S2) := by
  refine (ps_aug (by rw [C.hN]; exact C.nd) (by rw [C.hN]; exact idx_ok hi) (by rw [C.sc]; exact hk.elim .inl fun q => .inr q.1) hv hop (hk.elim (fun q => .inr (by rw [C.sc]; exact q)) fun q => .inl (C.fn x q.2))).of fun D σ H ⟨I, S, e, rl, rs, h⟩ => ?_
  dsimp only at h
  cases hs : slot e i with
  | none => rw [hs] at h; exact False.elim h
  | some u =>
    rw [hs] at h
    have hs2 : e[i]? = some (some u) := by
      unfold slot at hs
      split at hs
      · rename_i w q; cases hs; exact q
      · cases hs
    obtain ⟨vu, h1, h2⟩ := rs.get i u hs2
    refine ⟨vu, h1, tE.step rl rs h fun w S1 H1 I1 vw k1 rl1 hw h3 => ?_⟩
    cases q : augI op u w S1 with
    | bad => rw [q] at h3; exact False.elim h3
    | exn y S2 => exact absurd q (hx _ _ _ _ _)
    | ok z S2 =>
      obtain ⟨a, b, rfl, rfl, rfl, rfl⟩ := he _ _ _ _ _ q
      rw [q] at h3
      unfold RW at h2 hw
      subst h2 hw
      exact ⟨a, b, rfl, rfl, RE.now (k := kS G D) (show RE G EE H1 I1 (kS G D) (.ok (e.set i (some (.int (f a b))), .nx) S2) from h3) rl1 _ ((rs.mono k1).put (by unfold RW; rfl) i)⟩
theorem sw_name {x : Str} {v : Expr} {p : Pos} {env : Env} : swappedStores [.Name x p] v env = pure none := rfl
theorem sole_plain {tg v : Expr} {l : Nat} {env : Env} (h : isComp v = false) : swapsWithSole [tg] v l env = pure false := by
  cases v <;> first | rfl | cases h
theorem bk_fn (C : Cz P call CX k sx G E X) : X.env.blockKind = .function := by
  unfold Env.blockKind
  rw [C.kind]; rfl
theorem eqK {o : Option NameKind} {k : NameKind} : (o == some k) = decide (o = some k) := by
  cases o with
  | none => cases k <;> rfl
  | some a => cases a <;> cases k <;> rfl
theorem star_fun {vs : List Expr} : (vs.any fun | .Starred .. => true | _ => false) = vs.any isStar := by
  induction vs with
  | nil => rfl
  | cons a r ih =>
    rw [List.any_cons, List.any_cons, ← ih]
    cases a <;> rfl
theorem swS (C : Cz P call CX k sx G E X) {ts vs : List Expr} {kk k2 : Nat} {p p2 : Pos} : ∃ A : List Str, A = (ts.filterMap fun t => match t with
        | .Name id pos => if (decide (sx.sc.names.lookup id = some .local) && pos.line == (ts.head?.map (·.pos.line)).getD 0) = true then some id else none
        | _ => none) ∧ swappedStores [.Tuple ts kk p] (.Tuple vs k2 p2) X.env = (if (!(ts.length == 2 || ts.length == 3) || vs.length != ts.length) = true then pure none else if (vs.any isStar) = true then pure none
      else if (A.length != ts.length || A.eraseDups.length != A.length) = true then pure none
      else if vs.all (foldedForSure 8) = true then pure none
      else if vs.all (constantsAlone 8) = true then (do unsupported "assign.tuple-of-constant-expressions:order-of-the-stores"; pure (some A)) else pure (some A)) := by
  refine ⟨_, rfl, ?_⟩
  unfold swappedStores
  simp only [bk_fn C]
  generalize hA : List.filterMap _ ts = A
  generalize hB : List.filterMap _ ts = B
  have e : A = B := by
    rw [← hA, ← hB]
    congr 1
    funext x
    cases x with
    | Name id pos =>
      show (if _ then _ else _) = (if _ then _ else _)
      rw [eqK]
      unfold Env.kindOf
      rw [C.sc]
    | _ => rfl
  subst e
  have hs : ((vs.any fun x => match x with | .Starred .. => true | _ => false)) = vs.any isStar := star_fun
  simp only [bne_self_eq_false, Bool.or_false]
  rw [← hs]
  rfl
theorem swK_eq {ts vs : List Expr} {kk k2 : Nat} {p p2 : Pos} {A : List Str} (hA : A = (ts.filterMap fun t => match t with
        | .Name id pos => if (decide (sx.sc.names.lookup id = some .local) && pos.line == (ts.head?.map (·.pos.line)).getD 0) = true then some id else none
        | _ => none)) : swK sx (.Tuple ts kk p) (.Tuple vs k2 p2) = (if (!(ts.length == 2 || ts.length == 3) || vs.length != ts.length) = true then some false else if (vs.any isStar) = true then none
      else if (A.length != ts.length || A.eraseDups.length != A.length) = true then some false
      else if vs.all (foldedForSure 8) = true then some false
      else if vs.all (constantsAlone 8) = true then none else some true) := by
  subst hA; rfl
theorem sw_tup (C : Cz P call CX k sx G E X) {ts : List Expr} {v : Expr} {kk : Nat} {p : Pos} (h : swK sx (.Tuple ts kk p) v = some false) : swappedStores [.Tuple ts kk p] v X.env = pure none := by
  cases v with
  | Tuple vs k2 p2 =>
    obtain ⟨A, hA, e⟩ := swS (ts := ts) (vs := vs) (kk := kk) (k2 := k2) (p := p) (p2 := p2) C
    rw [e]
    rw [swK_eq hA] at h
    split at h
    · rename_i c; rw [if_pos c]
    · rename_i c; rw [if_neg c]
      split at h
      · cases h
      · rename_i c; rw [if_neg c]
        split at h
        · rename_i c; rw [if_pos c]
        · rename_i c; rw [if_neg c]
          split at h
          · rename_i c; rw [if_pos c]
          · rename_i c; rw [if_neg c]
            split at h <;> cases h
  | _ => rfl
theorem names_mem {f : Expr → Option Str} : ∀ {ts : List Expr}, (ts.filterMap f).length = ts.length → ∀ t ∈ ts, ∃ x, f t = some x
  | [], _, t, h => by cases h
  | a :: r, hl, t, h => by
    rw [List.filterMap_cons] at hl
    cases q : f a with
    | none =>
      rw [q] at hl
      have := List.length_filterMap_le f r
      simp only [List.length_cons] at hl
      omega
    | some x =>
      rw [q] at hl
      rcases List.mem_cons.mp h with rfl | h
      · exact ⟨x, q⟩
      · exact names_mem (by simpa using hl) t h
/-- plain names, stored from the right -/
theorem sw_names (C : Cz P call CX k sx G E X) {ts : List Expr} {v : Expr} {kk : Nat} {p : Pos} (h : swK sx (.Tuple ts kk p) v = some true) :
    ∃ (A : List Str) (vs : List Expr) (k2 : Nat) (p2 : Pos), v = .Tuple vs k2 p2 ∧ (ts.length = 2 ∨ ts.length = 3) ∧ vs.length = ts.length ∧ A.length = ts.length ∧ A.eraseDups.length = A.length ∧
      (∀ (i : Nat) (t : Expr), ts[i]? = some t → ∃ x q, t = .Name x q ∧ A[i]? = some x ∧ sx.sc.names.lookup x = some .local) ∧ swappedStores [.Tuple ts kk p] v X.env = pure (some A) := by
  cases v with
  | Tuple vs k2 p2 =>
    obtain ⟨A, hA, e⟩ := swS (ts := ts) (vs := vs) (kk := kk) (k2 := k2) (p := p) (p2 := p2) C
    rw [swK_eq hA] at h
    split at h
    · cases h
    · rename_i c1
      rw [if_neg c1] at e
      split at h
      · cases h
      · rename_i c2
        rw [if_neg c2] at e
        split at h
        · cases h
        · rename_i c3
          rw [if_neg c3] at e
          split at h
          · cases h
          · rename_i c4
            rw [if_neg c4] at e
            split at h
            · cases h
            · rename_i c5
              rw [if_neg c5] at e
              rw [Bool.or_eq_true, not_or, Bool.not_eq_true, Bool.not_eq_true] at c1 c3
              have l1 : ts.length = 2 ∨ ts.length = 3 := by
                have q := c1.1
                rw [Bool.not_eq_false', Bool.or_eq_true] at q
                simpa using q
              have l2 : vs.length = ts.length := by simpa using c1.2
              have l3 : A.length = ts.length := by simpa using c3.1
              have l4 : A.eraseDups.length = A.length := by simpa using c3.2
              refine ⟨A, vs, k2, p2, rfl, l1, l2, l3, l4, fun i t hi => ?_, e⟩
              have key : ∀ (us : List Expr) (B : List Str), B = (us.filterMap fun t => match t with
                  | .Name id pos => if (decide (sx.sc.names.lookup id = some .local) && pos.line == (ts.head?.map (·.pos.line)).getD 0) = true then some id else none
                  | _ => none) → B.length = us.length → ∀ (i : Nat) (t : Expr), us[i]? = some t → ∃ x q, t = .Name x q ∧ B[i]? = some x ∧ sx.sc.names.lookup x = some .local := by
                intro us
                induction us with
                | nil => intro B _ _ i t hi; simp at hi
                | cons u us ih =>
                  intro B hB hl i t hi
                  have nm := names_mem (ts := u :: us) (by rw [← hB]; exact hl) u (by simp)
                  obtain ⟨x, hx⟩ := nm
                  rw [List.filterMap_cons, hx] at hB
                  dsimp only at hB
                  subst hB
                  cases i with
                  | zero =>
                    simp only [List.getElem?_cons_zero, Option.some.injEq] at hi
                    subst hi
                    cases u with
                    | Name y q =>
                      dsimp only at hx
                      split at hx
                      · rename_i d1
                        cases hx
                        rw [Bool.and_eq_true] at d1
                        exact ⟨x, q, rfl, by simp, of_decide_eq_true d1.1⟩
                      · cases hx
                    | _ => simp at hx
                  | succ i =>
                    obtain ⟨y, q, a, b, c⟩ := ih _ rfl (by simpa using hl) i t (by simpa using hi)
                    exact ⟨y, q, a, by simpa using b, c⟩
              exact key ts A hA l3 i t hi
  | _ => simp [swK] at h
theorem dups2 {x y : Str} (h : [x, y].eraseDups.length = [x, y].length) : x ≠ y := by
  rintro rfl
  simp [List.eraseDups_cons] at h
theorem dups3 {x y z : Str} (h : [x, y, z].eraseDups.length = [x, y, z].length) : x ≠ y ∧ x ≠ z ∧ y ≠ z := by
  refine ⟨?_, ?_, ?_⟩
  · rintro rfl
    by_cases q : z = x
    · subst q; simp [List.eraseDups_cons] at h
    · have q2 : ¬ x = z := fun e => q e.symm
      simp [List.eraseDups_cons, q, q2] at h
  · rintro rfl
    by_cases q : y = x
    · subst q; simp [List.eraseDups_cons] at h
    · have q2 : ¬ x = y := fun e => q e.symm
      simp [List.eraseDups_cons, q, q2] at h
  · rintro rfl
    by_cases q : y = x
    · subst q; simp [List.eraseDups_cons] at h
    · have q2 : ¬ x = y := fun e => q e.symm
      simp [List.eraseDups_cons, q, q2] at h
theorem sw_par (C : Cz P call CX k sx G E X) {ts : List Expr} {v : Expr} {kk : Nat} {p : Pos} (h : swK sx (.Tuple ts kk p) v = some true) :
    (∃ x y px py a b k2 p2, ts = [.Name x px, .Name y py] ∧ v = .Tuple [a, b] k2 p2 ∧ x ≠ y ∧ sx.sc.names.lookup x = some .local ∧ sx.sc.names.lookup y = some .local ∧ swappedStores [.Tuple ts kk p] v X.env = pure (some [x, y])) ∨
    ∃ x y z px py pz a b c k2 p2, ts = [.Name x px, .Name y py, .Name z pz] ∧ v = .Tuple [a, b, c] k2 p2 ∧ (x ≠ y ∧ x ≠ z ∧ y ≠ z) ∧ sx.sc.names.lookup x = some .local ∧ sx.sc.names.lookup y = some .local ∧ sx.sc.names.lookup z = some .local ∧ swappedStores [.Tuple ts kk p] v X.env = pure (some [x, y, z]) := by
  obtain ⟨A, vs, k2, p2, rfl, l1, l2, l3, l4, nm, e⟩ := sw_names C h
  rcases l1 with l1 | l1
  · rw [l1] at l2 l3
    match ts, l1, vs, l2, A, l3 with
    | [t1, t2], _, [a, b], _, [x, y], _ =>
      obtain ⟨x1, q1, rfl, e1, n1⟩ := nm 0 t1 rfl
      obtain ⟨x2, q2, rfl, e2, n2⟩ := nm 1 t2 rfl
      simp at e1 e2
      subst e1 e2
      exact .inl ⟨x, y, q1, q2, a, b, k2, p2, rfl, rfl, dups2 l4, n1, n2, e⟩
  · rw [l1] at l2 l3
    match ts, l1, vs, l2, A, l3 with
    | [t1, t2, t3], _, [a, b, c], _, [x, y, z], _ =>
      obtain ⟨x1, q1, rfl, e1, n1⟩ := nm 0 t1 rfl
      obtain ⟨x2, q2, rfl, e2, n2⟩ := nm 1 t2 rfl
      obtain ⟨x3, q3, rfl, e3, n3⟩ := nm 2 t3 rfl
      simp at e1 e2 e3
      subst e1 e2 e3
      exact .inr ⟨x, y, z, q1, q2, q3, a, b, c, k2, p2, rfl, rfl, dups3 l4, n1, n2, n3, e⟩
theorem _root_.Y.RWs.three {H : Hp} {I : Ix} {w z y : W} {vs : List V} (h : RWs G H I [w, z, y] vs) : ∃ v u t, vs = [v, u, t] ∧ RW G H I w v ∧ RW G H I z u ∧ RW G H I y t := by
  obtain ⟨v, r, rfl, h1, h2⟩ := h.inv
  obtain ⟨u, t, rfl, h3, h4⟩ := h2.two
  exact ⟨v, u, t, rfl, h1, h3, h4⟩
theorem ss_par2 (C : Cz P call CX k sx G E X) {x y : Str} {px py : Pos} {a b : Expr} {kk k2 : Nat} {p p2 pos : Pos} {d : Nat} (ht : tgOk sx.N (.Tuple [.Name x px, .Name y py] kk p) = true) (hE : SE P call CX k G d) (hxy : x ≠ y) (hx : sx.sc.names.lookup x = some .local) (hy : sx.sc.names.lookup y = some .local)
    (hw : swappedStores [.Tuple [.Name x px, .Name y py] kk p] (.Tuple [a, b] k2 p2) X.env = pure (some [x, y])) :
    PS X (.Assign [.Tuple [.Name x px, .Name y py] kk p] (.Tuple [a, b] k2 p2) pos) (tS G (EKof G E) fun e S => (evalE P call (d + 1) sx e (.Tuple [a, b] k2 p2) S).bind fun w S1 => (ofO (asg sx e (.Tuple [.Name x px, .Name y py] kk p) w) S1).bind fun e2 S2 => .ok (e2, .nx) S2) := by
  have ha := pa_Z (f := fun x e S => evalE P call d sx e x S) (hE sx E X C) (fun x e S h => star_bad h) [a, b]
  have hd : ∀ e S, evalE P call (d + 1) sx e (.Tuple [a, b] k2 p2) S = ((evL (evalE P call d sx e) [a, b] S).bind fun ws S1 => if ws.length ≤ sizeLine then .ok (.tup ws) S1 else .bad) := fun _ _ => rfl
  have ht2 : ((idx sx.N x).isSome && ((idx sx.N y).isSome && true)) = true := ht
  simp only [Bool.and_eq_true, and_true] at ht2
  obtain ⟨i, hi⟩ := Option.isSome_iff_exists.mp ht2.1
  obtain ⟨j, hj⟩ := Option.isSome_iff_exists.mp ht2.2
  have hij : i ≠ j := by
    rintro rfl
    have a1 := idx_ok hi
    rw [idx_ok hj] at a1
    cases a1
    exact hxy rfl
  refine (ps_par C.calm (by rw [C.hN]; exact C.nd) (by rw [C.hN]; exact idx_ok hi) (by rw [C.hN]; exact idx_ok hj) hij (by rw [C.sc]; exact hx) (by rw [C.sc]; exact hy) ha hw).of fun D σ H ⟨I, S, e, rl, rs, h⟩ => ?_
  dsimp only at h
  rw [hd, Res.assoc] at h
  refine tAs.step rl rs h fun ws S1 H1 I1 vs k1 rl1 hv h1 => ?_
  split at h1
  · simp only [Res.bind] at h1
    obtain ⟨e2, ea, h2⟩ := RE.ofO (RE.bind h1)
    have h3 := RE.now (k := kS G D) (RE.now h2 rl1) rl1
    have ea2 : asgL sx [.Name x px, .Name y py] ws e = some e2 := ea
    match ws, hv, ea2 with
    | [], _, ea2 => simp [asgL] at ea2
    | [w1], _, ea2 => simp [asgL] at ea2
    | [w1, w2], hv, ea2 =>
      obtain ⟨v, u, rfl, q1, q2⟩ := hv.two
      have e3 : e2 = (e.set i (some w1)).set j (some w2) := by
        simp only [asgL, asgN, hx, hy, hi, hj, Option.map_some, Option.bind_some] at ea2
        exact (Option.some.inj ea2).symm
      subst e3
      exact ⟨v, u, rfl, h3 _ (((rs.mono k1).put q1 i).put q2 j)⟩
    | _ :: _ :: _ :: _, _, ea2 => simp [asgL] at ea2
  · exact False.elim h1
theorem ss_par (C : Cz P call CX k sx G E X) {ts : List Expr} {v : Expr} {kk : Nat} {p pos : Pos} {d : Nat} (h : swK sx (.Tuple ts kk p) v = some true) (ht : tgOk sx.N (.Tuple ts kk p) = true) (hE : SE P call CX k G d) :
    PS X (.Assign [.Tuple ts kk p] v pos) (tS G (EKof G E) fun e S => (evalE P call (d + 1) sx e v S).bind fun w S1 => (ofO (asg sx e (.Tuple ts kk p) w) S1).bind fun e2 S2 => .ok (e2, .nx) S2) := by
  rcases sw_par C h with ⟨x, y, px, py, a, b, k2, p2, rfl, rfl, hxy, hx, hy, hw⟩ | ⟨x, y, z, px, py, pz, a, b, c, k2, p2, rfl, rfl, hne, hx, hy, hz, hw⟩
  · exact ss_par2 C ht hE hxy hx hy hw
  have ha := pa_Z (f := fun x e S => evalE P call d sx e x S) (hE sx E X C) (fun x e S h => star_bad h) [a, b, c]
  have hd : ∀ e S, evalE P call (d + 1) sx e (.Tuple [a, b, c] k2 p2) S = ((evL (evalE P call d sx e) [a, b, c] S).bind fun ws S1 => if ws.length ≤ sizeLine then .ok (.tup ws) S1 else .bad) := fun _ _ => rfl
  have ht2 : ((idx sx.N x).isSome && ((idx sx.N y).isSome && ((idx sx.N z).isSome && true))) = true := ht
  simp only [Bool.and_eq_true, and_true] at ht2
  obtain ⟨i, hi⟩ := Option.isSome_iff_exists.mp ht2.1
  obtain ⟨j, hj⟩ := Option.isSome_iff_exists.mp ht2.2.1
  obtain ⟨l, hl⟩ := Option.isSome_iff_exists.mp ht2.2.2
  have apart : ∀ {m n : Nat} {x y : Str}, idx sx.N x = some m → idx sx.N y = some n → x ≠ y → m ≠ n := fun {m n x y} h1 h2 hne e => by
    subst e
    have a1 := idx_ok h1
    rw [idx_ok h2] at a1
    cases a1
    exact hne rfl
  refine (ps_par3 C.calm (by rw [C.hN]; exact C.nd) (by rw [C.hN]; exact idx_ok hi) (by rw [C.hN]; exact idx_ok hj) (by rw [C.hN]; exact idx_ok hl) (apart hi hj hne.1) (apart hi hl hne.2.1) (apart hj hl hne.2.2) (by rw [C.sc]; exact hx) (by rw [C.sc]; exact hy) (by rw [C.sc]; exact hz) ha hw).of fun D σ H ⟨I, S, e, rl, rs, h⟩ => ?_
  dsimp only at h
  rw [hd, Res.assoc] at h
  refine tAs.step rl rs h fun ws S1 H1 I1 vs k1 rl1 hv h1 => ?_
  split at h1
  · simp only [Res.bind] at h1
    obtain ⟨e2, ea, h2⟩ := RE.ofO (RE.bind h1)
    have h3 := RE.now (k := kS G D) (RE.now h2 rl1) rl1
    have ea2 : asgL sx [.Name x px, .Name y py, .Name z pz] ws e = some e2 := ea
    match ws, hv, ea2 with
    | [], _, ea2 => simp [asgL] at ea2
    | [w1], _, ea2 => simp [asgL] at ea2
    | [w1, w2], _, ea2 => simp [asgL] at ea2
    | [w1, w2, w3], hv, ea2 =>
      obtain ⟨v, u, t, rfl, q1, q2, q3⟩ := hv.three
      have e3 : e2 = ((e.set i (some w1)).set j (some w2)).set l (some w3) := by
        simp only [asgL, asgN, hx, hy, hz, hi, hj, hl, Option.map_some, Option.bind_some] at ea2
        exact (Option.some.inj ea2).symm
      subst e3
      exact ⟨v, u, t, rfl, h3 _ ((((rs.mono k1).put q1 i).put q2 j).put q3 l)⟩
    | _ :: _ :: _ :: _ :: _, _, ea2 => simp [asgL] at ea2
  · exact False.elim h1
/-- name = [..] -/
theorem ss_nmc (C : Cz P call CX k sx G E X) {y : Str} {py pos : Pos} {v : Expr} {d : Nat} (ht : tgOk sx.N (.Name y py) = true) (hc : isComp v = true) (hA : ∀ d, SE P call CX k G d ∧ ST P call CX k G d) :
    PS X (.Assign [.Name y py] v pos) (tS G (EKof G E) fun e S => (evalE P call d sx e v S).bind fun w S1 => (ofO (asg sx e (.Name y py) w) S1).bind fun e2 S2 => .ok (e2, .nx) S2) := by
  cases d with
  | zero => exact ss_bad fun e S => rfl
  | succ d =>
  cases v with
  | ListComp elt gs scope cp =>
    cases hb : (X.env.blockKind == .function && X.env.kindOf y == some .local && py.line == cp.line && !(scope.names.any fun (n, k) => n == y && (k == .local || k == .cell))) with
    | false =>
      have hs : swapsWithSole [.Name y py] (.ListComp elt gs scope cp) pos.line X.env = pure (X.env.blockKind == .function && X.env.kindOf y == some .local && py.line == cp.line && !(scope.names.any fun (n, k) => n == y && (k == .local || k == .cell))) := rfl
      rw [hb] at hs
      exact ss_asg C ((hA (d + 1)).1 sx E X C (.ListComp elt gs scope cp)) hs rfl rfl
    | true =>
      have hs : swapsWith (.ListComp elt gs scope cp) (some (.Name y py)) pos.line X.env = pure (X.env.blockKind == .function && X.env.kindOf y == some .local && py.line == cp.line && !(scope.names.any fun (n, k) => n == y && (k == .local || k == .cell))) := rfl
      rw [hb] at hs
      cases gs with
      | nil => exact ss_bad fun e S => rfl
      | cons g r =>
        cases r with
        | cons _ _ => exact ss_bad fun e S => by obtain ⟨tg, iter, ifs, a⟩ := g; cases a with | ofNat n => (cases n <;> rfl) | negSucc n => rfl
        | nil =>
          obtain ⟨tg, iter, ifs, a⟩ := g
          by_cases ha : a = 0
          · subst ha
            have hd : ∀ e S, evalE P call (d + 1) sx e (.ListComp elt [⟨tg, iter, ifs, 0⟩] scope cp) S = (if blkC sx.N sx.sc scope (ownOf sx.N scope) = true ∧ ((slotsT sx.N tg).all fun i => ((ownOf sx.N scope).map (·.2)).contains i) = true ∧ ifs.length ≤ 1 then
                compR P sx (fun sx e x S => evalE P call d sx e x S) (P.mu cp) elt tg iter ifs scope e S
              else .bad) := fun e S => rfl
            by_cases h : blkC sx.N sx.sc scope (ownOf sx.N scope) = true ∧ ((slotsT sx.N tg).all fun i => ((ownOf sx.N scope).map (·.2)).contains i) = true ∧ ifs.length ≤ 1
            · by_cases hset : isSet iter = true
              · exact ss_bad fun e S => by
                  rw [hd, if_pos h]
                  unfold compR walkE
                  rw [if_pos hset]; rfl
              · obtain ⟨i, hi⟩ := Option.isSome_iff_exists.mp (show (idx sx.N y).isSome = true from ht)
                have hyl : sx.sc.names.lookup y = some .local := by
                  rw [Bool.and_eq_true, Bool.and_eq_true, Bool.and_eq_true] at hb
                  have := hb.1.1.2
                  rw [eqK] at this
                  rw [← C.sc]
                  exact of_decide_eq_true this
                refine (ss_comp (m := P.mu cp) (f := fun sx e x S => evalE P call d sx e x S) C (hA d).1 (hA d).2 (fun sx x e S h => star_bad h) h.1 h.2.2 (by simpa using hset) hi hyl hs).of fun D σ H ⟨I, S, e, rl, rs, h4⟩ => ?_
                dsimp only at h4
                rw [hd, if_pos h] at h4
                show compT _ _ _ _ _ _ _ _ _ _ σ H (fun x H1 => D.nx (σ.set i (some x)) H1)
                refine lc_Z (m := P.mu cp) (ifs := ifs) h.2.1 σ H _ ?_
                refine tE.step rl rs h4 fun w S1 H1 I1 v k1 rl1 hv h1 => ?_
                obtain ⟨e2, ea, h2⟩ := RE.ofO (RE.bind h1)
                have h3 := RE.now (k := kS G D) (RE.now h2 rl1) rl1
                have e3 : e2 = e.set i (some w) := by
                  unfold asg asgN at ea
                  simp only [hyl, hi, Option.map_some] at ea
                  exact (Option.some.inj ea).symm
                subst e3
                exact h3 _ ((rs.mono k1).put hv i)
            · exact ss_bad fun e S => by rw [hd, if_neg h]; rfl
          · exact ss_bad fun e S => by
              cases a with
              | ofNat n => cases n with
                | zero => exact absurd rfl ha
                | succ n => rfl
              | negSucc n => rfl
  | SetComp _ _ _ _ => exact ss_bad fun e S => rfl
  | DictComp _ _ _ _ _ => exact ss_bad fun e S => rfl
  | _ => cases hc
def SS (P : Pg) (call : Cf) (CX : CXT) (k : Nat) (G : Gd) (d : Nat) : Prop := ∀ (sx : Sx) (E : XK) (X : Cx), Cz P call CX k sx G E X → PassesK X → ∀ x, PS X x (tS G (EKof G E) fun e S => execS P call d sx x e S)
theorem ss_asgs (C : Cz P call CX k sx G E X) {tg v : Expr} {pos : Pos} {d : Nat} (hA : ∀ d, SE P call CX k G d ∧ ST P call CX k G d) : PS X (.Assign [tg] v pos) (tS G (EKof G E) fun e S => if swK sx tg v = none ∨ tgOk sx.N tg = false then .bad else (evalE P call d sx e v S).bind fun w S1 => (ofO (asg sx e tg w) S1).bind fun e2 S2 => .ok (e2, .nx) S2) := by
  by_cases h : swK sx tg v = none ∨ tgOk sx.N tg = false
  · exact ss_bad fun e S => if_pos h
  · refine ss_of (r := fun e S => (evalE P call d sx e v S).bind fun w S1 => (ofO (asg sx e tg w) S1).bind fun e2 S2 => .ok (e2, .nx) S2) ?_ fun e S => if_neg h
    have h2 : tgOk sx.N tg = true := by
      cases q : tgOk sx.N tg with
      | true => rfl
      | false => exact absurd (.inr q) h
    cases tg with
    | Name y py =>
      cases hc : isComp v with
      | true => exact ss_nmc C h2 hc hA
      | false => exact ss_asg C ((hA d).1 sx E X C v) (sole_plain hc) rfl rfl
    | Tuple ts kk p =>
      cases q : swK sx (.Tuple ts kk p) v with
      | none => exact absurd (.inl q) h
      | some b =>
        cases b with
        | false => exact ss_asg C ((hA d).1 sx E X C v) (by cases v <;> rfl) (sw_tup C q) rfl
        | true =>
          cases d with
          | zero => exact ss_bad fun e S => rfl
          | succ d => exact ss_par C q h2 (hA d).1
    | _ => cases h2
theorem ss_succ {d : Nat} (hA : ∀ d, SE P call CX k G d ∧ ST P call CX k G d) (ih : SS P call CX k G d) : SS P call CX k G (d + 1) := by
  intro sx E X C po x
  have hf := (hA d).1 sx E X C
  have ht := (hA d).2 sx E X C
  have hb := ss_blk (ih sx E X C po)
  cases x with
  | Assign ts v pos =>
    cases ts with
    | nil => exact ss_bad fun e S => rfl
    | cons tg r =>
      cases r with
      | cons _ _ => exact ss_bad fun e S => by cases tg <;> rfl
      | nil =>
        cases tg with
        | Subscript o i p' =>
          by_cases hs : isSlice i = true
          · exact ss_bad fun e S => if_pos hs
          · exact ss_of (ss_sub (p := pos) (p' := p') C (hf o) (hf i) (hf v) (by simpa using hs)) fun e S => if_neg hs
        | _ => exact ss_of (ss_asgs (d := d) C hA) fun e S => rfl
  | Expr v pos =>
    by_cases hc : isComp v = true
    · exact ss_bad fun e S => if_pos hc
    · exact ss_of (ss_expr (p := pos) (by simpa using hc) (hf v)) fun e S => if_neg hc
  | Return v pos =>
    cases v with
    | none => exact ps_retN.of fun D σ H ⟨I, S, e, rl, rs, h⟩ => RE.now (k := kS G D) h rl .non (by unfold RW; rfl)
    | some v => exact ss_ret (hf v)
  | If c a b pos => exact ss_if (rc := fun e S => evalE P call d sx e c S) (ht c) (hb a) (hb b)
  | For tg iter body orelse pos =>
    cases orelse with
    | cons _ _ => exact ss_bad fun e S => rfl
    | nil =>
      by_cases hset : isSet iter = true
      · exact ss_bad fun e S => by
          show (walkE (rgF P sx) tg (evalE P call d sx e) iter S).bind _ = _
          unfold walkE
          rw [if_pos hset]; rfl
      · exact ss_for C po (f := fun x e S => evalE P call d sx e x S) hf (fun x e S h => star_bad h) (hb body) (by simpa using hset)
  | While c body orelse pos =>
    cases orelse with
    | cons _ _ => exact ss_bad fun e S => rfl
    | nil => exact ss_while po (rc := fun e S => evalE P call d sx e c S) (ht c) (hb body)
  | AugAssign tg op v pos =>
    cases tg with
    | Name x p' =>
      have hd : ∀ e S, execS P call (d + 1) sx (.AugAssign (.Name x p') op v pos) e S = (match (if augOk op = true then ownS sx x else none) with
        | none => .bad
        | some i => match slot e i with
          | none => .bad
          | some u => (evalE P call d sx e v S).bind fun w S1 => (augI op u w S1).bind fun z S2 => .ok (e.set i (some z), .nx) S2) := fun _ _ => rfl
      cases ho : (if augOk op = true then ownS sx x else none) with
      | none => exact ss_bad fun e S => by rw [hd, ho]
      | some i =>
        split at ho
        · rename_i hop
          obtain ⟨h1, h2⟩ := ownS_ok ho
          cases op with
          | Add =>
            refine ss_of (ss_augI (p := pos) (p' := p') C ip_add h1 h2 (hf v) (fun u w S z S2 q => ?_) fun u w S y S2 q => ?_) fun e S => by rw [hd, if_pos hop, ho]
            · cases u <;> cases w <;> cases q
              exact ⟨_, _, rfl, rfl, rfl, rfl⟩
            · cases u <;> cases w <;> cases q
          | Sub =>
            refine ss_of (ss_augI (p := pos) (p' := p') C ip_sub h1 h2 (hf v) (fun u w S z S2 q => ?_) fun u w S y S2 q => ?_) fun e S => by rw [hd, if_pos hop, ho]
            · cases u <;> cases w <;> cases q
              exact ⟨_, _, rfl, rfl, rfl, rfl⟩
            · cases u <;> cases w <;> cases q
          | _ => cases hop
        · cases ho
    | _ => exact ss_bad fun e S => rfl
  | Pass pos => exact ps_pass.of fun D σ H ⟨I, S, e, rl, rs, h⟩ => RE.now (k := kS G D) h rl σ rs
  | Break pos => exact ps_break.of fun D σ H ⟨I, S, e, rl, rs, h⟩ => RE.now (k := kS G D) h rl σ rs
  | Continue pos => exact ps_continue.of fun D σ H ⟨I, S, e, rl, rs, h⟩ => RE.now (k := kS G D) h rl σ rs
  | _ => exact ss_bad fun e S => rfl
/-- EVERY STATEMENT, at any depth -/
theorem ss_all : ∀ d, SS P call CX k G d
  | 0 => fun sx E X C po x => ss_bad fun e S => rfl
  | d + 1 => ss_succ se_all (ss_all d)
end
end Y

/-! What is locked, what is borrowed. -/
namespace Y
open PySem PySem.Spec PyProof.Rows L2
open D (model2 Kept Cl Alike deadS)
/-- from the things of I2 to those of I': the first n stand as they stood -/
structure Lk (I2 I' : Ix) (n : Nat) : Prop where
  st : ∀ (i : Nat) (a : Addr), i < n → I2.st[i]? = some a → I'.st[i]? = some a
  out : ∀ (t : Bool) (a : Addr), Out I2 t a → Out I' t a
section
variable {G : Gd} {H : Hp} {I2 I' : Ix} {n : Nat} {f : Nat → Option W}
mutual
theorem lkW_ok (L : Lk I2 I' n) (hf : ∀ (i : Nat) (w : W) (a : Addr), n ≤ i → f i = some w → I2.st[i]? = some a → RW G H I' w (.ref a)) : ∀ (w w' : W) (v : V), RW G H I2 w v → lkW n f w = some w' → RW G H I' w' v
  | .non, _, _, h, e => by unfold lkW at e; cases e; unfold RW at h ⊢; exact h
  | .bl _, _, _, h, e => by unfold lkW at e; cases e; unfold RW at h ⊢; exact h
  | .int _, _, _, h, e => by unfold lkW at e; cases e; unfold RW at h ⊢; exact h
  | .str _, _, _, h, e => by unfold lkW at e; cases e; unfold RW at h ⊢; exact h
  | .ty _, _, _, h, e => by unfold lkW at e; cases e; unfold RW at h ⊢; exact h
  | .glo _, _, _, h, e => by unfold lkW at e; cases e; unfold RW at h ⊢; exact h
  | .ref i, _, _, h, e => by
    unfold RW at h
    obtain ⟨a, rfl, hi⟩ := h
    unfold lkW at e
    split at e
    · rename_i hl
      cases e
      unfold RW
      exact ⟨a, rfl, L.st i a hl hi⟩
    · rename_i hl
      exact hf i _ a (by omega) e hi
  | .tup ws, _, _, h, e => by
    unfold RW at h
    obtain ⟨a, vs, rfl, s, z⟩ := h
    unfold lkW at e
    obtain ⟨ws', e1, rfl⟩ := Option.map_eq_some_iff.mp e
    unfold RW
    exact ⟨a, vs, rfl, s, lkWs_ok L hf ws ws' vs z e1⟩
  | .fl t ws, _, _, h, e => by
    unfold RW at h
    obtain ⟨a, vs, rfl, s, z⟩ := h
    unfold lkW at e
    obtain ⟨ws', e1, rfl⟩ := Option.map_eq_some_iff.mp e
    unfold RW
    exact ⟨a, vs, rfl, s.imp (fun q => ⟨q.1, L.out _ _ q.2⟩) id, lkWs_ok L hf ws ws' vs z e1⟩
  | .fd t ws, _, _, h, e => by
    unfold RW at h
    obtain ⟨a, vs, rfl, s, z⟩ := h
    unfold lkW at e
    obtain ⟨ws', e1, rfl⟩ := Option.map_eq_some_iff.mp e
    unfold RW
    exact ⟨a, vs, rfl, ⟨s.1, L.out _ _ s.2⟩, lkKs_ok L hf ws ws' vs z e1⟩
  | .fdn t ws, _, _, h, e => by
    unfold RW at h
    obtain ⟨a, vs, rfl, s, z⟩ := h
    unfold lkW at e
    obtain ⟨ws', e1, rfl⟩ := Option.map_eq_some_iff.mp e
    unfold RW
    exact ⟨a, vs, rfl, ⟨s.1, L.out _ _ s.2⟩, lkNs_ok L hf ws ws' vs z e1⟩
  | .fins t C ws, _, _, h, e => by
    unfold RW at h
    obtain ⟨a, c, dx, vs, rfl, m, s, z⟩ := h
    unfold lkW at e
    obtain ⟨ws', e1, rfl⟩ := Option.map_eq_some_iff.mp e
    unfold RW
    exact ⟨a, c, dx, vs, rfl, m, s.imp (fun q => ⟨q.1, L.out _ _ q.2⟩) (fun q => ⟨⟨q.1.1, L.out _ _ q.1.2⟩, q.2.1, L.out _ _ q.2.2⟩), lkFs_ok L hf ws ws' vs z e1⟩
theorem lkWs_ok (L : Lk I2 I' n) (hf : ∀ (i : Nat) (w : W) (a : Addr), n ≤ i → f i = some w → I2.st[i]? = some a → RW G H I' w (.ref a)) : ∀ (w w' : List W) (v : List V), RWs G H I2 w v → lkWs n f w = some w' → RWs G H I' w' v
  | [], _, _, h, e => by rw [h.inv0]; unfold lkWs at e; cases e; exact .nil
  | w :: ws, _, _, h, e => by
    obtain ⟨v, r, rfl, h1, h2⟩ := h.inv
    unfold lkWs at e
    split at e
    · cases e
    · rename_i y hy
      obtain ⟨ws', e1, rfl⟩ := Option.map_eq_some_iff.mp e
      exact .cons (lkW_ok L hf w y v h1 hy) (lkWs_ok L hf ws ws' r h2 e1)
theorem lkKs_ok (L : Lk I2 I' n) (hf : ∀ (i : Nat) (w : W) (a : Addr), n ≤ i → f i = some w → I2.st[i]? = some a → RW G H I' w (.ref a)) : ∀ (w w' : List (Kd × W)) (v : List (Key × V)), RKs G H I2 w v → lkKs n f w = some w' → RKs G H I' w' v
  | [], _, _, h, e => by rw [h.inv0]; unfold lkKs at e; cases e; exact .nil
  | (k, w) :: ws, _, _, h, e => by
    obtain ⟨q, v, r, rfl, ek, h1, h2⟩ := h.inv
    unfold lkKs at e
    split at e
    · cases e
    · rename_i y hy
      obtain ⟨ws', e1, rfl⟩ := Option.map_eq_some_iff.mp e
      exact .cons ek (lkW_ok L hf w y v h1 hy) (lkKs_ok L hf ws ws' r h2 e1)
theorem lkNs_ok (L : Lk I2 I' n) (hf : ∀ (i : Nat) (w : W) (a : Addr), n ≤ i → f i = some w → I2.st[i]? = some a → RW G H I' w (.ref a)) : ∀ (w w' : List (Kd × W)) (v : List Ent), RNs G H I2 w v → lkKs n f w = some w' → RNs G H I' w' v
  | [], _, _, h, e => by rw [h.inv0]; unfold lkKs at e; cases e; exact .nil
  | (k, w) :: ws, _, _, h, e => by
    obtain ⟨q, v, r, rfl, ek, h1, h2⟩ := h.inv
    unfold lkKs at e
    split at e
    · cases e
    · rename_i y hy
      obtain ⟨ws', e1, rfl⟩ := Option.map_eq_some_iff.mp e
      exact .cons ek (lkW_ok L hf w y v h1 hy) (lkNs_ok L hf ws ws' r h2 e1)
theorem lkFs_ok (L : Lk I2 I' n) (hf : ∀ (i : Nat) (w : W) (a : Addr), n ≤ i → f i = some w → I2.st[i]? = some a → RW G H I' w (.ref a)) : ∀ (w w' : List (Str × W)) (v : List (Str × V)), RFs G H I2 w v → lkFs n f w = some w' → RFs G H I' w' v
  | [], _, _, h, e => by unfold RFs at h; subst h; unfold lkFs at e; cases e; unfold RFs; rfl
  | (k, w) :: ws, _, _, h, e => by
    rw [RFs] at h
    obtain ⟨v, r, rfl, h1, h2⟩ := h
    unfold lkFs at e
    split at e
    · cases e
    · rename_i y hy
      obtain ⟨ws', e1, rfl⟩ := Option.map_eq_some_iff.mp e
      rw [RFs]
      exact ⟨v, r, rfl, lkW_ok L hf w y v h1 hy, lkFs_ok L hf ws ws' r h2 e1⟩
end
theorem lkO_ok (L : Lk I2 I' n) (hf : ∀ (i : Nat) (w : W) (a : Addr), n ≤ i → f i = some w → I2.st[i]? = some a → RW G H I' w (.ref a)) {a : Addr} {o o' : O} (h : RO G H I2 a o) (e : lkO n f o = some o') : RO G H I' a o' := by
  cases o with
  | lst ws =>
    obtain ⟨vs, q, z⟩ := h
    unfold lkO at e
    obtain ⟨ws', e1, rfl⟩ := Option.map_eq_some_iff.mp e
    exact ⟨vs, q, lkWs_ok L hf _ _ _ z e1⟩
  | dct ws =>
    obtain ⟨vs, q, z⟩ := h
    unfold lkO at e
    obtain ⟨ws', e1, rfl⟩ := Option.map_eq_some_iff.mp e
    exact ⟨vs, q, lkKs_ok L hf _ _ _ z e1⟩
  | dcn ws =>
    obtain ⟨vs, q, z⟩ := h
    unfold lkO at e
    obtain ⟨ws', e1, rfl⟩ := Option.map_eq_some_iff.mp e
    exact ⟨vs, q, lkNs_ok L hf _ _ _ z e1⟩
  | ins C ws =>
    obtain ⟨c, dx, vs, m, q, z⟩ := h
    unfold lkO at e
    obtain ⟨ws', e1, rfl⟩ := Option.map_eq_some_iff.mp e
    exact ⟨c, dx, vs, m, q, lkFs_ok L hf _ _ _ z e1⟩
theorem lkOs_get : ∀ {S S' : List O} {i : Nat} {o' : O}, lkOs n f S = some S' → S'[i]? = some o' → ∃ o, S[i]? = some o ∧ lkO n f o = some o'
  | [], _, _, _, e, h => by unfold lkOs at e; cases e; simp at h
  | x :: xs, _, i, o', e, h => by
    unfold lkOs at e
    split at e
    · cases e
    · rename_i y hy
      obtain ⟨ws', e1, rfl⟩ := Option.map_eq_some_iff.mp e
      cases i with
      | zero => simp at h; subst h; exact ⟨x, by simp, hy⟩
      | succ i =>
        obtain ⟨o, q1, q2⟩ := lkOs_get (i := i) e1 (by simpa using h)
        exact ⟨o, by simpa using q1, q2⟩
theorem lkOs_len : ∀ {S S' : List O}, lkOs n f S = some S' → S'.length = S.length
  | [], _, e => by unfold lkOs at e; cases e; rfl
  | x :: xs, _, e => by
    unfold lkOs at e
    split at e
    · cases e
    · obtain ⟨ws', e1, rfl⟩ := Option.map_eq_some_iff.mp e
      simp [lkOs_len e1]
/-- a thing from the n-th on, locked -/
theorem lkR_ok {S : So} {t : Bool} (L : Lk I2 I' n) (r : Rel G H I2 S) (ho : ∀ (i : Nat) (a : Addr), n ≤ i → I2.st[i]? = some a → Out I' t a) : ∀ (d i : Nat) (w : W) (a : Addr), n ≤ i → lkR n t S d i = some w → I2.st[i]? = some a → RW G H I' w (.ref a)
  | 0, _, _, _, _, e, _ => by unfold lkR at e; cases e
  | d + 1, i, w, a, hi, e, h => by
    unfold lkR at e
    have ih := lkR_ok L r ho d
    split at e
    · rename_i xs hS
      obtain ⟨vs, q, z⟩ := r.obj _ _ _ hS h
      obtain ⟨ws', e1, rfl⟩ := Option.map_eq_some_iff.mp e
      unfold RW
      exact ⟨a, vs, rfl, .inl ⟨q, ho i a hi h⟩, lkWs_ok L ih _ _ _ z e1⟩
    · rename_i xs hS
      obtain ⟨vs, q, z⟩ := r.obj _ _ _ hS h
      obtain ⟨ws', e1, rfl⟩ := Option.map_eq_some_iff.mp e
      unfold RW
      exact ⟨a, vs, rfl, ⟨q, ho i a hi h⟩, lkKs_ok L ih _ _ _ z e1⟩
    · rename_i xs hS
      obtain ⟨vs, q, z⟩ := r.obj _ _ _ hS h
      obtain ⟨ws', e1, rfl⟩ := Option.map_eq_some_iff.mp e
      unfold RW
      exact ⟨a, vs, rfl, ⟨q, ho i a hi h⟩, lkNs_ok L ih _ _ _ z e1⟩
    · rename_i C fs hS
      obtain ⟨c, dx, vs, m, q, z⟩ := r.obj _ _ _ hS h
      obtain ⟨ws', e1, rfl⟩ := Option.map_eq_some_iff.mp e
      unfold RW
      exact ⟨a, c, dx, vs, rfl, m, .inl ⟨q, ho i a hi h⟩, lkFs_ok L ih _ _ _ z e1⟩
    · cases e
end
section
variable {G : Gd} {H : Hp} {I I0 : Ix}
mutual
/-- what is free may be handed out of a borrowing -/
theorem free_ok (hout : ∀ a, Out I0 false a → Out I false a) : ∀ (w : W) (v : V), RW G H I0 w v → freeW w = true → RW G H I w v
  | .non, _, h, _ => by unfold RW at h ⊢; exact h
  | .bl _, _, h, _ => by unfold RW at h ⊢; exact h
  | .int _, _, h, _ => by unfold RW at h ⊢; exact h
  | .str _, _, h, _ => by unfold RW at h ⊢; exact h
  | .ty _, _, h, _ => by unfold RW at h ⊢; exact h
  | .glo _, _, h, _ => by unfold RW at h ⊢; exact h
  | .ref i, _, _, e => by unfold freeW at e; cases e
  | .tup ws, _, h, e => by
    unfold RW at h
    obtain ⟨a, vs, rfl, s, z⟩ := h
    unfold freeW at e
    unfold RW
    exact ⟨a, vs, rfl, s, frees_ok hout ws vs z e⟩
  | .fl t ws, _, h, e => by
    unfold RW at h
    obtain ⟨a, vs, rfl, s, z⟩ := h
    unfold freeW at e
    rw [Bool.and_eq_true] at e
    have ht : t = false := by simpa using e.1
    subst ht
    unfold RW
    exact ⟨a, vs, rfl, s.imp (fun q => ⟨q.1, hout _ q.2⟩) id, frees_ok hout ws vs z e.2⟩
  | .fd t ws, _, h, e => by
    unfold RW at h
    obtain ⟨a, vs, rfl, s, z⟩ := h
    unfold freeW at e
    rw [Bool.and_eq_true] at e
    have ht : t = false := by simpa using e.1
    subst ht
    unfold RW
    exact ⟨a, vs, rfl, ⟨s.1, hout _ s.2⟩, freeks_ok hout ws vs z e.2⟩
  | .fdn t ws, _, h, e => by
    unfold RW at h
    obtain ⟨a, vs, rfl, s, z⟩ := h
    unfold freeW at e
    rw [Bool.and_eq_true] at e
    have ht : t = false := by simpa using e.1
    subst ht
    unfold RW
    exact ⟨a, vs, rfl, ⟨s.1, hout _ s.2⟩, freens_ok hout ws vs z e.2⟩
  | .fins t C ws, _, h, e => by
    unfold RW at h
    obtain ⟨a, c, dx, vs, rfl, m, s, z⟩ := h
    unfold freeW at e
    rw [Bool.and_eq_true] at e
    have ht : t = false := by simpa using e.1
    subst ht
    unfold RW
    exact ⟨a, c, dx, vs, rfl, m, s.imp (fun q => ⟨q.1, hout _ q.2⟩) (fun q => ⟨⟨q.1.1, hout _ q.1.2⟩, q.2.1, hout _ q.2.2⟩), freefs_ok hout ws vs z e.2⟩
theorem frees_ok (hout : ∀ a, Out I0 false a → Out I false a) : ∀ (w : List W) (v : List V), RWs G H I0 w v → freeWs w = true → RWs G H I w v
  | [], _, h, _ => by rw [h.inv0]; exact .nil
  | w :: ws, _, h, e => by
    obtain ⟨v, r, rfl, h1, h2⟩ := h.inv
    unfold freeWs at e
    rw [Bool.and_eq_true] at e
    exact .cons (free_ok hout w v h1 e.1) (frees_ok hout ws r h2 e.2)
theorem freeks_ok (hout : ∀ a, Out I0 false a → Out I false a) : ∀ (w : List (Kd × W)) (v : List (Key × V)), RKs G H I0 w v → freeKs w = true → RKs G H I w v
  | [], _, h, _ => by rw [h.inv0]; exact .nil
  | (k, w) :: ws, _, h, e => by
    obtain ⟨q, v, r, rfl, ek, h1, h2⟩ := h.inv
    unfold freeKs at e
    rw [Bool.and_eq_true] at e
    exact .cons ek (free_ok hout w v h1 e.1) (freeks_ok hout ws r h2 e.2)
theorem freens_ok (hout : ∀ a, Out I0 false a → Out I false a) : ∀ (w : List (Kd × W)) (v : List Ent), RNs G H I0 w v → freeKs w = true → RNs G H I w v
  | [], _, h, _ => by rw [h.inv0]; exact .nil
  | (k, w) :: ws, _, h, e => by
    obtain ⟨q, v, r, rfl, ek, h1, h2⟩ := h.inv
    unfold freeKs at e
    rw [Bool.and_eq_true] at e
    exact .cons ek (free_ok hout w v h1 e.1) (freens_ok hout ws r h2 e.2)
theorem freefs_ok (hout : ∀ a, Out I0 false a → Out I false a) : ∀ (w : List (Str × W)) (v : List (Str × V)), RFs G H I0 w v → freeFs w = true → RFs G H I w v
  | [], _, h, _ => by unfold RFs at h ⊢; exact h
  | (k, w) :: ws, _, h, e => by
    rw [RFs] at h
    obtain ⟨v, r, rfl, h1, h2⟩ := h
    unfold freeFs at e
    rw [Bool.and_eq_true] at e
    rw [RFs]
    exact ⟨v, r, rfl, free_ok hout w v h1 e.1, freefs_ok hout ws r h2 e.2⟩
end
end
section
variable {G : Gd} {E : XK} {H : Hp} {I : Ix} {S : So} {Q : VK} {r : Res W}
theorem pre_mem {l m : List Addr} (p : l <+: m) {i : Nat} {a : Addr} (hi : i < l.length) (h : m[i]? = some a) : l[i]? = some a := by
  obtain ⟨t, rfl⟩ := p
  rw [List.getElem?_append_left hi] at h; exact h
/-- behind a def that locks -/
theorem RE.lock (rl : Rel G H I S) (h : RE G (EKof G E) H I (kV' G Q) (lockR S.length r)) : RE G (EKof G E) H I (kV' G Q) r := by
  have core : ∀ {H2 : Hp} {I2 : Ix} {S2 : So}, Keep H I H2 I2 → Rel G H2 I2 S2 → Lk I2 I S.length ∧ (∀ (i : Nat) (w : W) (a : Addr), S.length ≤ i → lkR S.length false S2 deepS i = some w → I2.st[i]? = some a → RW G H2 I w (.ref a)) ∧ Keep H I H2 I ∧
      ∀ S', lkOs S.length (lkR S.length false S2 deepS) (S2.take S.length) = some S' → Rel G H2 I S' := by
    intro H2 I2 S2 k2 r2
    have hl : I.st.length = S.length := rl.len
    have hle : S.length ≤ S2.length := by
      rw [← r2.len, ← hl]; exact k2.st.length_le
    have hsub : ∀ a, a ∈ I.st → a ∈ I2.st := fun a z => k2.st.subset z
    have L : Lk I2 I S.length := ⟨fun i a hi e => pre_mem k2.st (by omega) e, fun t a x => ⟨fun z => x.st (hsub a z), by rw [← k2.bd]; exact x.bd, by rw [← k2.bz]; exact x.bz⟩⟩
    have ho : ∀ (i : Nat) (a : Addr), S.length ≤ i → I2.st[i]? = some a → Out I false a := fun i a hi e => by
      have hm : a ∈ I2.st := List.mem_of_getElem? e
      refine ⟨fun z => ?_, fun z => (r2.bt a (.inr (by rw [k2.bd]; exact z))).2 hm, fun _ z => (r2.bt a (.inl (by rw [k2.bz]; exact z))).2 hm⟩
      obtain ⟨j, hj⟩ := List.getElem?_of_mem z
      have hj2 : j < I.st.length := (List.getElem?_eq_some_iff.mp hj).1
      have := r2.nd j i a (pre_get k2.st hj) e
      omega
    have hf := lkR_ok (t := false) L r2 ho deepS
    have kk : Keep H I H2 I := ⟨List.prefix_refl _, rfl, rfl, fun a o e n => ⟨(k2.kp a o e n).1, n⟩, k2.tup, k2.frz, k2.xd⟩
    refine ⟨L, hf, kk, fun S' e => ⟨?_, rl.nd, fun i o a e1 e2 => ?_, fun a z => ?_⟩⟩
    · rw [hl, lkOs_len e, List.length_take]; omega
    · obtain ⟨o0, q1, q2⟩ := lkOs_get e e1
      have hi : i < S.length := by rw [← hl]; exact (List.getElem?_eq_some_iff.mp e2).1
      rw [List.getElem?_take_of_lt hi] at q1
      exact lkO_ok L hf (r2.obj i o0 a q1 (pre_get k2.st e2)) q2
    · have q := r2.bt a (z.imp (fun q => by rw [k2.bz]; exact q) fun q => by rw [k2.bd]; exact q)
      exact ⟨q.1, fun z => q.2 (hsub a z)⟩
  cases r with
  | bad => exact h
  | ok w S2 =>
    intro H2 I2 k2 r2 v hv
    obtain ⟨L, hf, kk, hr⟩ := core k2 r2
    simp only [lockR] at h
    split at h
    · rename_i w' S' e1 e2
      exact h H2 I kk (hr S' e2) v (lkW_ok L hf w w' v hv e1)
    · exact False.elim h
  | exn x S2 =>
    intro H2 I2 k2 r2
    obtain ⟨L, hf, kk, hr⟩ := core k2 r2
    simp only [lockR] at h
    split at h
    · rename_i fs S' e1 e2
      obtain ⟨C, e, q⟩ := h H2 I kk (hr S' e2)
      exact ⟨C, e, fun d vs hd rf => q d vs hd (lkFs_ok L hf _ _ _ rf e1)⟩
    · exact False.elim h
/-- the addresses of one who borrows -/
def Ix.bor (I : Ix) : Ix := ⟨[], I.st ++ I.bz, I.bd⟩
theorem bor_rel (rl : Rel G H I S) : Rel G H I.bor [] :=
  ⟨rfl, fun i j a e => by simp [Ix.bor] at e, fun i o a e => by simp at e, fun a z => ⟨by
    rcases z with z | z
    · rcases List.mem_append.mp z with z | z
      · obtain ⟨u, q, _⟩ := rl.thereM z; rw [q]; simp
      · exact (rl.bt a (.inl z)).1
    · exact (rl.bt a (.inr z)).1, fun q => by cases q⟩⟩
theorem bor_args (rl : Rel G H I S) {ws us : List W} {vs : List V} (z : RWs G H I ws vs) (e : lkWs 0 (lkR 0 true S deepS) ws = some us) : RWs G H I.bor us vs := by
  have L : Lk I I.bor 0 := ⟨fun i a hi => by omega, fun t a x => ⟨by simp [Ix.bor], x.bd, fun ht q => (List.mem_append.mp q).elim x.st (x.bz ht)⟩⟩
  exact lkWs_ok L (lkR_ok (t := true) L rl (fun i a _ hi => ⟨by simp [Ix.bor], fun q => (rl.bt a (.inr q)).2 (List.mem_of_getElem? hi), fun q => by cases q⟩) deepS) ws us vs z e
theorem RE.borrow (rl : Rel G H I S) (h : RE G (EKof G E) H I (kV' G Q) (backR S (lockR 0 r))) : RE G (EKof G E) H I.bor (kV' G Q) r := by
  have core : ∀ {H2 : Hp} {I2 : Ix} {S2 : So}, Keep H I.bor H2 I2 → Rel G H2 I2 S2 → Lk I2 I.bor 0 ∧ (∀ (i : Nat) (w : W) (a : Addr), 0 ≤ i → lkR 0 false S2 deepS i = some w → I2.st[i]? = some a → RW G H2 I.bor w (.ref a)) ∧ Keep H I H2 I ∧ Rel G H2 I S := by
    intro H2 I2 S2 k2 r2
    have L : Lk I2 I.bor 0 := ⟨fun i a hi => by omega, fun t a x => ⟨by simp [Ix.bor], by have := x.bd; rw [k2.bd] at this; exact this, fun ht => by have := x.bz ht; rw [k2.bz] at this; exact this⟩⟩
    have ho : ∀ (i : Nat) (a : Addr), 0 ≤ i → I2.st[i]? = some a → Out I.bor false a := fun i a _ e => by
      have hm : a ∈ I2.st := List.mem_of_getElem? e
      exact ⟨by simp [Ix.bor], fun z => (r2.bt a (.inr (by rw [k2.bd]; exact z))).2 hm, fun _ z => (r2.bt a (.inl (by rw [k2.bz]; exact z))).2 hm⟩
    have all : ∀ a o, H a = some o → H2 a = some o := fun a o e => (k2.kp a o e (by simp [Ix.bor])).1
    have kk : Keep H I H2 I := ⟨List.prefix_refl _, rfl, rfl, fun a o e n => ⟨all a o e, n⟩, k2.tup, k2.frz, k2.xd⟩
    refine ⟨L, lkR_ok (t := false) L r2 ho deepS, kk, rl.len, rl.nd, fun i o a e1 e2 => ?_, fun a z => ?_⟩
    · have q := rl.obj i o a e1 e2
      obtain ⟨u, hu, _⟩ := q.some
      exact q.mono kk ((all a u hu).trans hu.symm)
    · obtain ⟨q1, q2⟩ := rl.bt a z
      refine ⟨?_, q2⟩
      cases q : H a with
      | none => exact absurd q q1
      | some o => rw [all a o q]; simp
  have hout : ∀ a, Out I.bor false a → Out I false a := fun a x => ⟨fun z => x.bz rfl (List.mem_append_left _ z), x.bd, fun _ z => x.bz rfl (List.mem_append_right _ z)⟩
  cases r with
  | bad => exact h
  | ok w S2 =>
    intro H2 I2 k2 r2 v hv
    obtain ⟨L, hf, kk, hr⟩ := core k2 r2
    simp only [lockR] at h
    split at h
    · rename_i w' S' e1 e2
      simp only [backR] at h
      split at h
      · rename_i fr
        exact h H2 I kk hr v (free_ok hout w' v (lkW_ok L hf w w' v hv e1) fr)
      · exact False.elim h
    · exact False.elim h
  | exn x S2 =>
    intro H2 I2 k2 r2
    obtain ⟨L, hf, kk, hr⟩ := core k2 r2
    simp only [lockR] at h
    split at h
    · rename_i fs S' e1 e2
      simp only [backR] at h
      split at h
      · rename_i fr
        obtain ⟨C, e, q⟩ := h H2 I kk hr
        exact ⟨C, e, fun d vs hd rf => q d vs hd (freefs_ok hout _ _ (lkFs_ok L hf _ _ _ rf e1) fr)⟩
      · exact False.elim h
    · exact False.elim h
/-- a def's call, whatever it locks or borrows: its body, over some store -/
theorem RE.body {P : Pg} {call : Cf} {fi : Fi} {ws : List W} {vs : List V} (rl : Rel G H I S) (z : RWs G H I ws vs) (h : RE G (EKof G E) H I (kV' G Q) (if fi.bw = true then match lkWs 0 (lkR 0 true S deepS) ws with
          | none => .bad
          | some us => backR S (lockR 0 (bodyN P call fi us []))
        else if fi.fz = true then lockR S.length (bodyN P call fi ws S)
        else bodyN P call fi ws S)) : ∃ I' S' us, Rel G H I' S' ∧ RWs G H I' us vs ∧ RE G (EKof G E) H I' (kV' G Q) (bodyN P call fi us S') := by
  split at h
  · split at h
    · exact False.elim h
    · rename_i us e
      exact ⟨I.bor, [], us, bor_rel rl, bor_args rl z e, RE.borrow rl h⟩
  · split at h
    · exact ⟨I, S, ws, rl, z, RE.lock rl h⟩
    · exact ⟨I, S, ws, rl, z, h⟩
end
end Y

/-! Defs: each def of the table keeps its promise, at any depth of calls. -/
namespace D
open PySem PyProof.Rows
section
variable {prog : Program} {w : World} {A : Around} {R : Result → Shared → Prop} {s : Shared}
theorem codeAny_func {body : List Stmt} {env : Env}
    (h : wpAny (model2 prog w) (A.deeper env) (execs body env) (fun f s' => R (.ok (.ret (match f with | .ret v => v | _ => .none))) s')
      (fun e s' => wpAny (model2 prog w) (A.deeper env) (leaving env e) (fun _ s'' => R (.error e) s'') (fun e' s'' => R (.error e') s'') s') s) :
    codeAny (model2 prog w) A (.func body env) R s := by
  refine codeAny2 ?_
  show wpAny _ (A.deeper env) (do point; match ← (execs body env).onRaise (leaving env) with | .ret v => ret v | _ => ret .none) _ _ s
  refine wpAny_bind (wpAny_point (wpAny_bind (wpAny_onRaise (wpAny_mono h (fun f s' h' => ?_) fun _ _ h' => h'))))
  cases f <;> exact wpAny_pure h'
theorem codeAny_call_function {a : Addr} {args : Args} {o : Obj} {fd : FuncData} {body : List Stmt} (hroom : A.depth < recursionLimit)
    (ho : s.heap.get? a = some o)
    (hd' : o.data = .func fd) (hco : fd.scope.isCoroutine = false) (hgen : fd.scope.isGenerator = false) (hbody : fd.body = .stmts body) (hcd : s.heap.CodeRec fd.code fd.qualname)
    (h : wpAny (model2 prog w) A.in1 (bindArgs fd args) (fun binds s₁ =>
      wpAny (model2 prog w) A.in1 (newFunctionEnv fd.scope fd.globals fd.closure binds (fd.qualname ++ ".<locals>.") (some a) fd.code none fd.builtins)
        (fun env s₂ => s₂.heap.NoLimit ∧ codeAny (model2 prog w) A (.func body env) R s₂) (fun e s' => R (.error e) s') s₁) (fun e s' => R (.error e) s') s) :
    codeAny (model2 prog w) A (.call (.ref a) args) R s := by
  refine codeAny2 ?_
  show wpAny _ A.in1 (callAny (.ref a) args) _ _ s
  simp only [callAny]
  refine wpAny_bind (wpAny_load ho ?_)
  obtain ⟨c, oc, vs, tq, hc, hoc, hdc, hq⟩ := hcd
  simp only [hd', callFunction, hco, hgen, hbody, hc]
  rw [hc] at h
  refine wpAny_bind (m := field (.ref c) 1) (wpAny_field hoc hdc hq (wpAny_bind (wpAny_pure ?_)))
  exact wpAny_bind (wpAny_mono h (fun binds s₁ h₁ => wpAny_bind (wpAny_mono h₁ (fun env s₂ h₂ => wpAny_bind (wpAny_enterFrame h₂.1 hroom
    (wpAny_pure (And.intro rfl h₂.2)))) fun _ _ h' => h')) fun _ _ h' => h')
end
end D
namespace Y
open PySem PySem.Spec PyProof.Rows L2
open D (model2 Kept Cl Alike deadS)
/-- how a def of the table stands behind the top -/
structure DefAt (K : PySem.W.Frag) (mg : Str → Option Value) (f : Str) (fi : Fi) (fa : Addr) (fd : FuncData) : Prop where
  cal : CalF K mg f fi fa (BF fd)
  ex : ∃ (x qual : Str) (oc : Value) (od : Option Addr) (kV doc pm : Value) (an : Option Addr) (cdv ct : Value) (osl : Array (Option Value)),
    fd = PySem.W.fnOf x qual (defArgs fi.st) (defBody fi.st) (defScope fi.st) .none kV doc pm an cdv ct ∧ K.lookup fa = some ⟨oc, od, .func fd, osl⟩ ∧ PySem.W.codeIn K cdv qual = true
  sc : FnScope fi.N fi.ps (defScope fi.st)
section
variable {Pr : Program} {w : World} {K : PySem.W.Frag} {mg : Str → Option Value} {base : Heap}
theorem fnG_of {cxt : CXT} {k : Nat} {fa : Addr} {nm ql : Str} {pars : Arguments} {bd : List Stmt} {sc : Scope} {d1 d2 d3 d4 cdv ct oc : Value} {an od : Option Addr} {osl : Array (Option Value)} {N ps : List Str} {sp : Sp}
    (look : K.lookup fa = some ⟨oc, od, .func (PySem.W.fnOf nm ql pars bd sc d1 d2 d3 d4 an cdv ct), osl⟩) (code : PySem.W.codeIn K cdv ql = true) (F : FnScope N ps sc) (hlen : ∀ vs H Q E, sp vs H Q E → vs.length = ps.length)
    (bodyOk : ∀ (A : Around) (outer : List Env) (s : Shared) (H : Hp) (vs : List V) (Q : VK) (E : XK), Room (k + 12) (A.deeper (envOfC ql sc s.heap.objs.size fa cdv)) → A.guards = some [] → Sys base → Mod K mg base → sp vs H Q E →
      ∃ t, PSs (cxOf cxt Pr w K mg base N ql sc fa cdv A outer s H E).nox bd t ∧ t { nx := fun _ H' => Q .non H', rt := Q } (L2.start N vs) H) (sys : Sys base) :
    FnG Pr w K mg base cxt (k + 1) fa (BF (PySem.W.fnOf nm ql pars bd sc d1 d2 d3 d4 an cdv ct)) ps sp where
  len := hlen
  run := by
    intro A outer s H args us vs Q E G0 room grd e0 bnd rel prom g0
    have lens := hlen _ _ _ _ prom
    have inK : K.In s.heap := e0.mod.kin.keeps fun b o q => (e0.bs b o q).1
    have noLim : s.heap.NoLimit := e0.mod.nolimit.keeps fun b o q => (e0.bs b o q).1
    refine D.codeAny_call_function room.depth (inK _ _ look) rfl F.co F.gen rfl (PySem.W.codeRec_of inK code) (bnd _ _ _ _ ?_)
    refine wpAny_newFunctionEnv_cells F.kind (fun y hy => ?_) fun env he s1 x => ?_
    · obtain ⟨n, v⟩ := y
      exact (F.par n (List.of_mem_zip hy).1).imp id fun q => ⟨q, PySem.W.cellsFrom_some _ _ _ (.inl q)⟩
    · subst he
      obtain ⟨t, body, fin⟩ := bodyOk A outer s H vs Q E ((room.mono (j := k + 12 + 1) (by omega)).deeper _) grd sys e0.mod prom
      have I0 : Inv (cxOf cxt Pr w K mg base N ql sc fa cdv A outer s H E) [] (L2.start N vs) H s1 := inv_start F room.hd e0 lens rel x
      have g1 : Kept G0 s1.gens := by
        obtain ⟨h1, tk, rfl, hk⟩ := x.done
        exact g0
      refine ⟨noLim.keeps x.toInCall.keep, D.codeAny_func (wpAny_mono (body.run [] s1 (L2.start N vs) H _ (I0.wish _) fin G0 g1) (fun fl s' q => ?_) fun e s' q => q.2.elim)⟩
      obtain ⟨g2, q⟩ := q
      cases fl with
      | ret u => obtain ⟨v, σ', H', J, r, z⟩ := q; exact ⟨g2, v, H', J.os, J.bare, J.base, J.hok, r, z⟩
      | next => obtain ⟨σ', H', J, z⟩ := q; exact ⟨g2, .non, H', J.os, J.bare, J.base, J.hok, rfl, z⟩
      | brk => obtain ⟨_, _, _, z⟩ := q; exact z.elim
      | cont => obtain ⟨_, _, _, z⟩ := q; exact z.elim
end
/-- how an own error's class stands behind the top -/
structure ErAt (Pr : Program) (K : PySem.W.Frag) (mg : Str → Option Value) (f x : Str) (fi : Fi) : Prop where
  ps : fi.ps = [x]
  kws : fi.kws = [(0, [x])]
  bd : BindsEr x
  cl : ∃ C fI, mg f = some (.ref C) ∧ PySem.W.keepIn K (.ref C) = true ∧ ErT Pr K C fI x
/-- the table as it stands -/
structure TabE (P : Pg) (Pr : Program) (K : PySem.W.Frag) (mg : Str → Option Value) : Prop where
  defs : ∀ f fi, P.F f = some fi → P.er f = none → ∃ fa fd, DefAt K mg f fi fa fd
  ers : ∀ f fi x, P.F f = some fi → P.er f = some x → ErAt Pr K mg f x fi
  glb : GOk K mg P
  bi : ∀ x ∈ ("range" : Str) :: builtins, P.F x = none → mg x = none
  en : P.en = true → mg "enumerate" = none
  erc : ErsOk P K mg
  isa : IsaOk P K mg
  gn : P.gn = true → ∀ base, Mod K mg base → ∃ fa cd p1 p2 p3 p4 p5 p6 p7 p8 p9 q1 q2 q3 q4 q5 q6 q7 q8 q9 q10, D.Gp K mg base fa cd ∧ D.Gd2 K fa cd (D.pBody p1 p2 p3 p4 p5 p6 p7 p8 p9 q1 q2 q3 q4 q5 q6 q7 q8 q9 q10)
/-- the table as it stands, where there is no own error -/
structure TabAt (P : Pg) (K : PySem.W.Frag) (mg : Str → Option Value) : Prop where
  defs : ∀ f fi, P.F f = some fi → ∃ fa fd, DefAt K mg f fi fa fd
  glb : GOk K mg P
  bi : ∀ x ∈ ("range" : Str) :: builtins, P.F x = none → mg x = none
theorem TabAt.toE {P : Pg} {Pr : Program} {K : PySem.W.Frag} {mg : Str → Option Value} (T : TabAt P K mg) (h1 : P.er = fun _ => none) (h2 : P.isa = fun _ _ => none) (h3 : P.en = false) (h4 : P.gn = false) : TabE P Pr K mg where
  defs := fun f fi h _ => T.defs f fi h
  ers := fun f fi x _ h => by rw [h1] at h; cases h
  glb := T.glb
  bi := T.bi
  en := fun h => by rw [h3] at h; cases h
  erc := fun C x h => by rw [h1] at h; cases h
  isa := fun C D b h => by rw [h2] at h; cases h
  gn := fun h => by rw [h4] at h; cases h
/-- parts stands -/
structure PtAt (K : PySem.W.Frag) (mg : Str → Option Value) : Prop where
  p : ∃ fa cd p1 p2 p3 p4 p5 p6 p7 p8 p9 q1 q2 q3 q4 q5 q6 q7 q8 q9 q10, mg "parts" = some (.ref fa) ∧ PySem.W.keepIn K (.ref fa) = true ∧ PySem.W.codeIn K cd "parts" = true ∧ D.Gd2 K fa cd (D.pBody p1 p2 p3 p4 p5 p6 p7 p8 p9 q1 q2 q3 q4 q5 q6 q7 q8 q9 q10)
  i : mg "isinstance" = none
  t : mg "tuple" = none
theorem TabAt.toG {P : Pg} {Pr : Program} {K : PySem.W.Frag} {mg : Str → Option Value} (T : TabAt P K mg) (h1 : P.er = fun _ => none) (h2 : P.isa = fun _ _ => none) (h3 : P.en = false) (g : PtAt K mg) : TabE P Pr K mg where
  defs := fun f fi h _ => T.defs f fi h
  ers := fun f fi x _ h => by rw [h1] at h; cases h
  glb := T.glb
  bi := T.bi
  en := fun h => by rw [h3] at h; cases h
  erc := fun C x h => by rw [h1] at h; cases h
  isa := fun C D b h => by rw [h2] at h; cases h
  gn := fun _ base md => by
    obtain ⟨fa, cd, p1, p2, p3, p4, p5, p6, p7, p8, p9, q1, q2, q3, q4, q5, q6, q7, q8, q9, q10, a, b, c, e⟩ := g.p
    exact ⟨fa, cd, p1, p2, p3, p4, p5, p6, p7, p8, p9, q1, q2, q3, q4, q5, q6, q7, q8, q9, q10, ⟨md, a, g.i, g.t, b, c⟩, e⟩
theorem er_cal {Pr : Program} {K : PySem.W.Frag} {mg : Str → Option Value} {f x : Str} {fi : Fi} {C : Addr} (A : ErAt Pr K mg f x fi) (hm : mg f = some (.ref C)) (hk : PySem.W.keepIn K (.ref C) = true) : CalF K mg f fi C (BE x) where
  mg := hm
  kp := hk
  bind := fun s us hl => by
    rw [A.ps] at hl ⊢
    match us, hl with
    | [v], _ => exact ⟨v, rfl, .inl rfl⟩
  kws := fun n ks h => by
    rw [A.kws] at h
    rw [List.mem_singleton] at h
    cases h
    rw [A.ps]
    refine ⟨rfl, fun us ws h1 h2 => ?_⟩
    match us, h1, ws, h2 with
    | [], _, [v], _ =>
      have e : ordK [x] [x] ([] : List Value) [v] = [v] := by
        unfold ordK
        simp
      rw [e]
      exact ⟨rfl, fun s => ⟨v, rfl, .inr rfl⟩⟩
theorem start_ok {G : Gd} {H : Hp} {I : Ix} {ws : List W} {vs : List V} {N : List Str} (z : RWs G H I ws vs) : RS G H I (ws.map some ++ List.replicate (N.length - ws.length) none) (L2.start N vs) := by
  have hl := z.len
  refine ⟨by unfold L2.start; simp [hl], fun i w h => ?_⟩
  unfold L2.start
  by_cases hi : i < ws.length
  · rw [List.getElem?_append_left (by simpa using hi), List.getElem?_map] at h
    cases q : ws[i]? with
    | none => rw [q] at h; cases h
    | some x =>
      rw [q] at h; cases h
      obtain ⟨v, e, r⟩ := z.get q
      exact ⟨v, by rw [List.getElem?_append_left (by rw [List.length_map, ← hl]; exact hi), List.getElem?_map, e]; rfl, r⟩
  · rw [List.getElem?_append_right (by simpa using hi), List.getElem?_replicate] at h
    split at h <;> cases h
theorem spZ_len {G : Gd} {call : Cf} {f : Str} {n : Nat} {vs : List V} {H : Hp} {Q : VK} {E : XK} (h : spZ G call f n vs H Q E) : vs.length = n := by
  obtain ⟨I, S, ws, rl, z, hl, _⟩ := h
  rw [← z.len]; exact hl
/-- EVERY DEF -/
theorem fn_all {P : Pg} {Pr : Program} {w : World} {K : PySem.W.Frag} {mg : Str → Option Value} {base : Heap} (T : TabE P Pr K mg) (sys : Sys base) : ∀ (k : Nat) (f : Str) (fi : Fi), P.F f = some fi → P.er f = none → ∀ (fa : Addr) (fd : FuncData), DefAt K mg f fi fa fd →
    FnG Pr w K mg base CX0 k fa (BF fd) fi.ps (spZ ⟨K, mg, w⟩ (callN P k) f fi.ps.length)
  | 0, f, fi, hf, he, fa, fd, D => ⟨fun vs H Q E h => spZ_len h, fun A outer s H args us vs Q E _ _ _ _ _ _ h _ => by obtain ⟨I, S, ws, _, _, _, h⟩ := h; exact False.elim h⟩
  | k + 1, f, fi, hf, he, fa, fd, D => by
    obtain ⟨x, qual, oc, od, kV, doc, pm, an, cdv, ct, osl, rfl, lk, hcd⟩ := D.ex
    refine fnG_of lk hcd D.sc (fun vs H Q E h => spZ_len h) (fun A outer s H vs Q E hr hg sys md h => ?_) sys
    obtain ⟨I0, S0, ws0, rl0, z0, hl0, h⟩ := h
    unfold callN at h
    simp only [hf, hl0, he, if_true, Option.isSome_none, Bool.false_eq_true, if_false] at h
    obtain ⟨I, S, ws, rl, z, h⟩ := RE.body (call := callN P k) rl0 z0 h
    have hl : ws.length = fi.ps.length := by rw [z.len, ← z0.len]; exact hl0
    have C : Cz P (callN P k) CX0 k ⟨fi.N, defScope fi.st, fun _ => true⟩ ⟨K, mg, w⟩ E (cxOf CX0 Pr w K mg base fi.N qual (defScope fi.st) fa cdv A outer s H E).nox :=
      { hN := rfl
        nd := D.sc.nd
        sc := rfl
        kind := D.sc.kind
        K := rfl
        mg := rfl
        wd := rfl
        calm := rfl
        room := hr
        grd := hg
        sys := sys
        fn := fun _ _ => rfl
        glb := T.glb
        bi := T.bi
        en := T.en
        er := T.erc
        isa := T.isa
        cal := fun g gi hg => by
          cases hge : P.er g with
          | none =>
            obtain ⟨ga, gd, Dg⟩ := T.defs g gi hg hge
            exact ⟨ga, BF gd, Dg.cal, fn_all T sys k g gi hg hge ga gd Dg⟩
          | some x =>
            have Ag := T.ers g gi x hg hge
            obtain ⟨gc, fI, hm, hk, TE⟩ := Ag.cl
            refine ⟨gc, BE x, er_cal Ag hm hk, ?_⟩
            cases k with
            | zero => exact ⟨fun vs H Q E h => spZ_len h, fun A outer s H args us vs Q E _ _ _ _ _ _ h _ => by obtain ⟨I, S, ws, _, _, _, h⟩ := h; exact False.elim h⟩
            | succ k => exact erG hg Ag.ps hge hm TE Ag.bd
        px := fun _ _ _ _ _ _ _ h => h
        nx := fun _ _ z => z
        gn := fun h => T.gn h base md
        p0 := fun _ _ _ _ _ h => h }
    have po : PassesK (cxOf CX0 Pr w K mg base fi.N qual (defScope fi.st) fa cdv A outer s H E).nox := fun _ _ _ h => h.2.elim
    refine ⟨_, ss_blk (f := fun x e S => execS P (callN P k) deepT ⟨fi.N, defScope fi.st, fun _ => true⟩ x e S) (ss_all deepT _ _ _ C po) (defBody fi.st), I, S, ws.map some ++ List.replicate (fi.N.length - ws.length) none, rl, start_ok z, ?_⟩
    unfold bodyN at h
    rw [hl] at h ⊢
    refine (RE.bind h).imp fun r S1 H1 I1 k1 rl1 h1 => ?_
    obtain ⟨e1, fl⟩ := r
    cases fl with
    | nx => exact fun σ' _ => RE.now (k := kV' _ Q) h1 rl1 .non (by unfold RW; rfl)
    | ret w => exact RE.now (k := kV' _ Q) h1 rl1
    | brk => exact False.elim h1
    | ct => exact False.elim h1
end Y

/-! The end: a law of the program, from the reader's answer. -/
namespace D
open PySem PySem.W PySem.Calls PyProof.Rows Att
theorem attach2 {l : OpenLaw} {n : Nat} {q : Program} {loose : List Str} {XP : (Str → Option Value) → Heap → Prop} {YP : World → Heap → Prop} {d : DefRec}
    (hn : l.most = some n) (hdf : d.params.defaults = [])
    (call : ∀ (w : World) (s₀ s₁ : Shared) (mg mb : Str → Option Value) (fa : Addr) (o : Obj) (pm cd doc : Value) (a : Addr) (vs : List Value) (ns : List Int),
      Ground q loose [] XP w s₀ mg mb s₁.heap → YP w s₁.heap →
      s₁.heap.get? fa = some o → o.data = .func (docDef d.name d.params d.body d.scope pm cd doc) → s₁.heap.CodeRec cd d.name → mg d.name = some (.ref fa) →
      s₁.heap.get? a = some { cls := .type "list", data := .seq vs.toArray } → IntsAre vs ns → ns.length ≤ n → (∀ k ∈ ns, Builtin.Int.intBits k ≤ 1048576) → s₁.gens = #[] →
      codeAny (model2 l.prog w) callerA (.call (.ref fa) ⟨[.ref a], []⟩) (fun r s' => r = .ok (.ret (.bool true)) ∧ OldK s₁.heap s'.heap ∧ s'.os = s₁.os ∧ AllBare s'.gens ∧ Plain s'.gens) s₁) :
    Walk2 q loose XP YP l.row.toRowW d [] := by
  intro w s₀ s₁ mg mb G Y fa o pm cd doc dV kV ho hd hcd hD hmg hg args vals as hpre hlay hrd hwl hlo
  obtain rfl : dV = .none := Dflts.none hD hdf
  obtain rfl : kV = .none := Dflts.noKw hD
  obtain ⟨a, vs, ns, rfl, rfl, hobj, hints, hlen⟩ := script_of hn hpre hwl
  refine wpAny_call (codeAny_mono (call w s₀ s₁ mg mb fa o pm cd doc a vs ns G Y ho (fd_plain hd) hcd hmg hobj hints hlen (script_bits hlay) hg) fun r s' hq => ?_)
  obtain ⟨rfl, h2, h3, h4, h5⟩ := hq
  exact ⟨⟨.inl ⟨.bool true, .bool true, [], rfl, fun _ => rfl, .bool true, post_true l _, fun _ => ⟨List.Pairwise.nil, fun _ hm => (nomatch hm)⟩⟩, h2, h3, h4⟩, h5⟩
end D
namespace Y
open PySem PySem.Spec L2 PyProof.Rows
theorem ints_W {G : Gd} {H : Hp} {I : Ix} : ∀ ns : List Int, RWs G H I (ns.map W.int) (ns.map V.int)
  | [] => .nil
  | n :: r => .cons (by unfold RW; rfl) (ints_W r)
/-- behind the top, from a heap of which nothing is tracked but the script a -/
theorem law_mid {P : Pg} {Pr : Program} {w : World} {K : PySem.W.Frag} {mg mb : Str → Option Value} {kd : Nat} {fa a : Addr} {fi : Fi} {nm : Str} {s₁ : Shared} {vs : List Value} {ns : List Int} {H : Hp}
    (inK : K.In s₁.heap) (gl : s₁.heap.Ns mainGlobals mg) (bl : s₁.heap.Ns builtinsNs mb) (bb : ∀ x : Str, x ≠ "__name__" → mb x = bootBuiltins x) (nl : s₁.heap.NoLimit) (nt : s₁.heap.NoSeer) (gs : s₁.gens = #[])
    (ob : s₁.heap.get? a = some { cls := .type "list", data := .seq vs.toArray }) (room : Room (kd + 12) callerA) (T : TabE P Pr K mg) (hF : P.F nm = some fi) (he : P.er nm = none) (hm : mg nm = some (.ref fa)) (h1 : fi.ps.length = 1)
    (only : ∀ b, H b = none ∨ (b = a ∧ K.lookup a = none ∧ ∃ o xs, H b = some (.frz o (.lst xs)))) (hS : FzL K H ⟨[], [], []⟩ false a (ns.map V.int)) (hok : HOk Pr w H s₁.heap)
    (ans : ∃ S, callN P kd nm [.fl false (ns.map W.int)] [] = .ok (.bl true) S) :
    codeAny (D.model2 Pr w) callerA (.call (.ref fa) ⟨[.ref a], []⟩) (fun r s' => r = .ok (.ret (.bool true)) ∧ OldK s₁.heap s'.heap ∧ s'.os = s₁.os ∧ AllBare s'.gens ∧ D.Plain s'.gens) s₁ := by
  have clear : ∀ {b : Addr} {o : Obj}, s₁.heap.get? b = some o → (b = a → K.lookup a ≠ none ∨ ∃ es ep, o.data = .dict es ep) → H b = none := fun {b o} e q => by
    rcases only b with z | ⟨rfl, z, _⟩
    · exact z
    · rcases q rfl with q | ⟨es, ep, q⟩
      · exact absurd z q
      · rw [ob] at e; cases e; cases q
  have keepNs : ∀ {b : Addr} {m : Str → Option Value}, s₁.heap.Ns b m → (hidT s₁.heap H).Ns b m := fun {b m} ⟨o, es, ep, e, d, r⟩ => ⟨o, es, ep, hidT_get e (clear e fun _ => .inr ⟨es, ep, d⟩), d, r⟩
  have inK2 : K.In (hidT s₁.heap H) := fun b o e => hidT_get (inK b o e) (clear (inK b o e) fun q => .inl (by subst q; rw [e]; simp))
  have md : Mod K mg (hidT s₁.heap H) := ⟨inK2, keepNs gl, ⟨mb, keepNs bl, bb⟩, by obtain ⟨mc, q1, q2⟩ := nl; exact ⟨mc, keepNs q1, q2⟩⟩
  have env : Env0 Pr w K mg (hidT s₁.heap H) callerA [] s₁ H := ⟨rfl, md, fun b o e => of_hidT e, Nat.le_of_eq (hidT_size _ _), trivial, fun b q => (by cases q), hok, .of_eq gs⟩
  have sys : Sys (hidT s₁.heap H) := by
    obtain ⟨mm, q, _⟩ := nt.mods
    obtain ⟨o, es, ep, e, d, _⟩ := keepNs q
    exact ⟨o, es, ep, e, d⟩
  obtain ⟨ga, gd, D⟩ := T.defs nm fi hF he
  obtain rfl : fa = ga := by
    have q := D.cal.mg
    rw [hm] at q; cases q; rfl
  obtain ⟨S, ea⟩ := ans
  have fin := (fn_all (Pr := Pr) (w := w) T sys kd nm fi hF he fa gd D).run callerA [] s₁ H ⟨[.ref a], []⟩ [.ref a] [.ref a] (fun v _ => v = .bl true) (fun _ _ _ => False) s₁.gens room rfl env (D.cal.bind s₁ [.ref a] (by rw [h1]; rfl)) (.cons rfl .nil)
    ⟨⟨[], [], []⟩, [], [.fl false (ns.map W.int)], ⟨rfl, fun i j b e => by simp at e, fun i o b e => by simp at e, fun b z => by simp at z⟩, .cons (by unfold RW; exact ⟨a, _, rfl, hS, ints_W ns⟩) .nil, by rw [h1]; rfl, by
      rw [ea]
      intro H2 I2 k2 rl2 v hv
      unfold RW at hv
      exact hv⟩ (_root_.D.Kept.refl _)
  refine codeAny_mono fin fun r s' h => ?_
  obtain ⟨kp, h⟩ := h
  cases r with
  | error e => exact h.elim
  | ok fl =>
    cases fl with
    | next => exact False.elim h
    | brk => exact False.elim h
    | cont => exact False.elim h
    | ret u =>
      obtain ⟨v, H2, os, bare, un, hok2, rv, q⟩ := h
      have q : v = .bl true := q
      subst q
      obtain rfl : u = Value.bool true := rv
      refine ⟨rfl, OldK.of_keep fun b o e => ?_, os, bare, (by rw [gs] at kp; exact kp.plain)⟩
      rcases only b with z | ⟨_, _, o2, xs, z⟩
      · exact un.keep b o e z (by intro q; cases q) (by simp)
      · have z2 := un.frzs b o2 _ z
        obtain ⟨e1, _⟩ := hok b _ z
        obtain ⟨e2, _⟩ := hok2 b _ z2
        rw [e] at e1; cases e1
        exact e2
theorem law_end {P : Pg} {Pr : Program} {w : World} {K : PySem.W.Frag} {mg mb : Str → Option Value} {kd : Nat} {fa a : Addr} {fi : Fi} {nm : Str} {s₁ : Shared} {vs : List Value} {ns : List Int}
    (inK : K.In s₁.heap) (gl : s₁.heap.Ns mainGlobals mg) (bl : s₁.heap.Ns builtinsNs mb) (bb : ∀ x : Str, x ≠ "__name__" → mb x = bootBuiltins x) (nl : s₁.heap.NoLimit) (nt : s₁.heap.NoSeer) (gs : s₁.gens = #[])
    (ob : s₁.heap.get? a = some { cls := .type "list", data := .seq vs.toArray }) (it : IntsAre vs ns) (hl : ns.length ≤ sizeLine) (room : Room (kd + 12) callerA) (T : TabE P Pr K mg) (hF : P.F nm = some fi) (he : P.er nm = none) (hm : mg nm = some (.ref fa)) (h1 : fi.ps.length = 1)
    (ans : ∃ S, callN P kd nm [.fl false (ns.map W.int)] [] = .ok (.bl true) S) :
    codeAny (D.model2 Pr w) callerA (.call (.ref fa) ⟨[.ref a], []⟩) (fun r s' => r = .ok (.ret (.bool true)) ∧ OldK s₁.heap s'.heap ∧ s'.os = s₁.os ∧ AllBare s'.gens ∧ D.Plain s'.gens) s₁ := by
  have rv := vals_ints it
  have len := it.length
  cases hk : K.lookup a with
  | some o =>
    have e := inK a o hk
    rw [ob] at e
    cases e
    refine law_mid (H := fun _ => none) inK gl bl bb nl nt gs ob room T hF he hm h1 (fun b => .inl rfl) (.inr (.inr ⟨_, vs.toArray, _, hk, rfl, rfl, rfl, ?_, ?_⟩)) (fun b u z => by cases z) ans
    · rw [List.size_toArray, len]; exact hl
    · simpa using rv
  | none =>
    have here : (fun b => if b = a then some (HO.frz { cls := .type "list", data := .seq vs.toArray } (.lst (ns.map V.int))) else none) a = some (HO.frz { cls := .type "list", data := .seq vs.toArray } (.lst (ns.map V.int))) := if_pos rfl
    refine law_mid (H := fun b => if b = a then some (HO.frz { cls := .type "list", data := .seq vs.toArray } (.lst (ns.map V.int))) else none) inK gl bl bb nl nt gs ob room T hF he hm h1 (fun b => ?_) (.inr (.inl ⟨_, here⟩)) (fun b u z => ?_) ans
    · by_cases q : b = a
      · subst q; exact .inr ⟨rfl, hk, _, _, here⟩
      · exact .inl (if_neg q)
    · by_cases q : b = a
      · subst q
        have z2 := here.symm.trans z
        cases z2
        exact ⟨ob, by rw [List.length_map]; exact hl, vs, _, rv, ob⟩
      · have z2 := (if_neg q).symm.trans z
        cases z2
/-- the goal that the head leaves, from the reader's answer -/
theorem walkZE {l : PySem.W.OpenLaw} {n kd : Nat} {q : Program} {loose : List Str} {XP : (Str → Option Value) → Heap → Prop} {YP : World → Heap → Prop} {d : DefRec} {K : Params → PySem.W.Frag} {P : Pg} {fi : Fi}
    (most : l.most = some n) (most2 : n ≤ sizeLine) (nodf : d.params.defaults = []) (room : Room (kd + 12) callerA) (seer : importsNone q = true) (inK : ∀ (w : World) (h : Heap), YP w h → (K w.params).In h)
    (T : ∀ (w : World) (mg : Str → Option Value) (h : Heap), (K w.params).In h → h.Ns mainGlobals mg → TabE P l.prog (K w.params) mg) (hF : P.F d.name = some fi) (he : P.er d.name = none) (h1 : fi.ps.length = 1)
    (ans : ∀ ns : List Int, ns.length ≤ n → (∀ z ∈ ns, Builtin.Int.intBits z ≤ 1048576) → ∃ S, callN P kd d.name [.fl false (ns.map W.int)] [] = .ok (.bl true) S) :
    D.Walk2 q loose XP YP l.row.toRowW d [] := by
  refine D.attach2 most nodf fun w s₀ s₁ mg mb fa o pm cd doc a vs ns G Y ho hd hcd hm ob it len bits gs => ?_
  exact law_end (inK w _ Y) G.T.g G.T.b G.T.builtins G.T.nolimit (G.T.seer seer) gs ob it (Nat.le_trans len most2) room (T w mg _ (inK w _ Y) G.T.g) hF he hm h1 (ans ns len bits)
/-- .. where there is no own error -/
theorem walkZ {l : PySem.W.OpenLaw} {n kd : Nat} {q : Program} {loose : List Str} {XP : (Str → Option Value) → Heap → Prop} {YP : World → Heap → Prop} {d : DefRec} {K : Params → PySem.W.Frag} {P : Pg} {fi : Fi}
    (most : l.most = some n) (most2 : n ≤ sizeLine) (nodf : d.params.defaults = []) (room : Room (kd + 12) callerA) (seer : importsNone q = true) (inK : ∀ (w : World) (h : Heap), YP w h → (K w.params).In h)
    (T : ∀ (w : World) (mg : Str → Option Value) (h : Heap), (K w.params).In h → h.Ns mainGlobals mg → TabAt P (K w.params) mg) (hF : P.F d.name = some fi) (h1 : fi.ps.length = 1)
    (ans : ∀ ns : List Int, ns.length ≤ n → (∀ z ∈ ns, Builtin.Int.intBits z ≤ 1048576) → ∃ S, callN P kd d.name [.fl false (ns.map W.int)] [] = .ok (.bl true) S) (e1 : P.er = fun _ => none := by rfl) (e2 : P.isa = fun _ _ => none := by rfl) (e3 : P.en = false := by rfl) (e4 : P.gn = false := by rfl) :
    D.Walk2 q loose XP YP l.row.toRowW d [] :=
  walkZE most most2 nodf room seer inK (fun w mg h X G => (T w mg h X G).toE e1 e2 e3 e4) hF (by rw [e1]) h1 ans
/-- .. where parts is the generator -/
theorem walkZG {l : PySem.W.OpenLaw} {n kd : Nat} {q : Program} {loose : List Str} {XP : (Str → Option Value) → Heap → Prop} {YP : World → Heap → Prop} {d : DefRec} {K : Params → PySem.W.Frag} {P : Pg} {fi : Fi}
    (most : l.most = some n) (most2 : n ≤ sizeLine) (nodf : d.params.defaults = []) (room : Room (kd + 12) callerA) (seer : importsNone q = true) (inK : ∀ (w : World) (h : Heap), YP w h → (K w.params).In h)
    (T : ∀ (w : World) (mg : Str → Option Value) (h : Heap), (K w.params).In h → h.Ns mainGlobals mg → TabAt P (K w.params) mg ∧ PtAt (K w.params) mg) (hF : P.F d.name = some fi) (h1 : fi.ps.length = 1)
    (ans : ∀ ns : List Int, ns.length ≤ n → (∀ z ∈ ns, Builtin.Int.intBits z ≤ 1048576) → ∃ S, callN P kd d.name [.fl false (ns.map W.int)] [] = .ok (.bl true) S) (e1 : P.er = fun _ => none := by rfl) (e2 : P.isa = fun _ _ => none := by rfl) (e3 : P.en = false := by rfl) :
    D.Walk2 q loose XP YP l.row.toRowW d [] :=
  walkZE most most2 nodf room seer inK (fun w mg h X G => (T w mg h X G).1.toG e1 e2 e3 (T w mg h X G).2) hF (by rw [e1]) h1 ans
end Y

/-! What the top has written, for the table. -/
namespace Y
open PySem PySem.Spec L2 PyProof.Rows
/-- how arguments bind, told by the parameters alone -/
def BindsAll (fi : Fi) : Prop := ∀ (x qual : Str) (kV doc pm : Value) (an : Option Addr) (cdv ct : Value),
  (∀ us : List Value, us.length = fi.ps.length → bindArgs (PySem.W.fnOf x qual (defArgs fi.st) (defBody fi.st) (defScope fi.st) .none kV doc pm an cdv ct) ⟨us, []⟩ = pure (fi.ps.zip us)) ∧
  ∀ (n : Nat) (ks : List Str), (n, ks) ∈ fi.kws → n + ks.length = fi.ps.length ∧ ∀ us ws : List Value, us.length = n → ws.length = ks.length → (ordK fi.ps ks us ws).length = fi.ps.length ∧ bindArgs (PySem.W.fnOf x qual (defArgs fi.st) (defBody fi.st) (defScope fi.st) .none kV doc pm an cdv ct) ⟨us, ks.zip ws⟩ = pure (fi.ps.zip (ordK fi.ps ks us ws))
theorem defAt_mk {K : PySem.W.Frag} {mg : Str → Option Value} {h : Heap} {f : Str} {fi : Fi} {fa : Addr} {x qual : Str} {oc : Value} {od : Option Addr} {kV doc pm : Value} {an : Option Addr} {cdv ct : Value} {osl : Array (Option Value)} (X : K.In h) (G : h.Ns mainGlobals mg)
    (a : PySem.W.nsIn K mainGlobals f = some (some (.ref fa))) (l : K.lookup fa = some ⟨oc, od, .func (PySem.W.fnOf x qual (defArgs fi.st) (defBody fi.st) (defScope fi.st) .none kV doc pm an cdv ct), osl⟩) (c : PySem.W.codeIn K cdv qual = true) (k : PySem.W.keepIn K (.ref fa) = true)
    (sc : FnScope fi.N fi.ps (defScope fi.st)) (b : BindsAll fi) : ∃ fa fd, DefAt K mg f fi fa fd :=
  ⟨fa, _, ⟨PySem.W.mg_of X G a, k, fun s us hl => .of_eq ((b x qual kV doc pm an cdv ct).1 us hl), fun n ks m => ⟨((b x qual kV doc pm an cdv ct).2 n ks m).1, fun us ws h1 h2 => ⟨(((b x qual kV doc pm an cdv ct).2 n ks m).2 us ws h1 h2).1, fun s => .of_eq (((b x qual kV doc pm an cdv ct).2 n ks m).2 us ws h1 h2).2⟩⟩⟩, ⟨x, qual, oc, od, kV, doc, pm, an, cdv, ct, osl, rfl, l, c⟩, sc⟩
/-- a place is told by its line, its column, its end's column -/
def atPos (l : List (Nat × Nat × Nat)) (p : Pos) : Bool := l.any fun q => q.1 == p.line && q.2.1 == p.col && q.2.2 == p.endCol
def pgT (gs : List (Str × W)) (fs : List (Str × Fi)) (mu : List (Nat × Nat × Nat)) : Pg := ⟨fun x => gs.lookup x, fun x => fs.lookup x, atPos mu, fun _ => none, fun _ _ => none, false, false⟩
theorem tab_mk {K : PySem.W.Frag} {mg : Str → Option Value} {gs : List (Str × W)} {fs : List (Str × Fi)} {mu : List (Nat × Nat × Nat)} (defs : ∀ p ∈ fs, ∃ fa fd, DefAt K mg p.1 p.2 fa fd) (glb : GOk K mg (pgT gs fs mu)) (bi : ∀ x ∈ ("range" : Str) :: builtins, mg x = none) : TabAt (pgT gs fs mu) K mg :=
  ⟨fun f fi h => defs (f, fi) (PySem.mem_of_lookup h), glb, fun x h _ => bi x h⟩
/-- a table with parts -/
def pgG (gs : List (Str × W)) (fs : List (Str × Fi)) (mu : List (Nat × Nat × Nat)) : Pg := ⟨fun x => gs.lookup x, fun x => fs.lookup x, atPos mu, fun _ => none, fun _ _ => none, false, true⟩
theorem tab_mkG {K : PySem.W.Frag} {mg : Str → Option Value} {gs : List (Str × W)} {fs : List (Str × Fi)} {mu : List (Nat × Nat × Nat)} (defs : ∀ p ∈ fs, ∃ fa fd, DefAt K mg p.1 p.2 fa fd) (glb : GOk K mg (pgG gs fs mu)) (bi : ∀ x ∈ ("range" : Str) :: builtins, mg x = none) : TabAt (pgG gs fs mu) K mg :=
  ⟨fun f fi h => defs (f, fi) (PySem.mem_of_lookup h), glb, fun x h _ => bi x h⟩
theorem pt_mk {K : PySem.W.Frag} {mg : Str → Option Value} {h : Heap} {fa : Addr} {x qual : Str} {oc : Value} {od : Option Addr} {kV doc pm : Value} {an : Option Addr} {cdv ct : Value} {osl : Array (Option Value)} {st : Stmt} {p1 p2 p3 p4 p5 p6 p7 p8 p9 q1 q2 q3 q4 q5 q6 q7 q8 q9 q10 q : Pos} (X : K.In h) (G : h.Ns mainGlobals mg)
    (a : PySem.W.nsIn K mainGlobals "parts" = some (some (.ref fa))) (l : K.lookup fa = some ⟨oc, od, .func (PySem.W.fnOf x qual (defArgs st) (defBody st) (defScope st) .none kV doc pm an cdv ct), osl⟩) (c : PySem.W.codeIn K cdv qual = true) (k : PySem.W.keepIn K (.ref fa) = true)
    (i : PySem.W.nsIn K mainGlobals "isinstance" = some none) (t : PySem.W.nsIn K mainGlobals "tuple" = some none) (hx : x = "parts") (hq : qual = "parts") (hb : defBody st = D.pBody p1 p2 p3 p4 p5 p6 p7 p8 p9 q1 q2 q3 q4 q5 q6 q7 q8 q9 q10) (ha : defArgs st = D.pArgs q) (hs : defScope st = D.pSc) : PtAt K mg := by
  subst hx hq
  rw [hb, ha, hs] at l
  exact ⟨⟨fa, cdv, p1, p2, p3, p4, p5, p6, p7, p8, p9, q1, q2, q3, q4, q5, q6, q7, q8, q9, q10, PySem.W.mg_of X G a, k, c, ⟨q, kV, doc, pm, ct, oc, an, od, osl, l⟩⟩, PySem.W.mg_none_of X G i, PySem.W.mg_none_of X G t⟩
/-! ### own errors -/
def erFi (x : Str) : Fi := ⟨.Pass ⟨0, 0, 0, 0⟩, [x], [], [(0, [x])], false, false⟩
/-- a table with own errors: es: each class with its one thing; isas: its heirs' answers -/
def pgE (gs : List (Str × W)) (fs : List (Str × Fi)) (es : List (Str × Str)) (isa : Str → W → Option Bool) (mu : List (Nat × Nat × Nat)) : Pg := ⟨fun x => gs.lookup x, fun x => match es.lookup x with | some y => some (erFi y) | none => fs.lookup x, atPos mu, fun x => es.lookup x, isa, true, false⟩
theorem tab_mkE {Pr : Program} {K : PySem.W.Frag} {mg : Str → Option Value} {gs : List (Str × W)} {fs : List (Str × Fi)} {es : List (Str × Str)} {isa : Str → W → Option Bool} {mu : List (Nat × Nat × Nat)} (defs : ∀ p ∈ fs, ∃ fa fd, DefAt K mg p.1 p.2 fa fd) (ers : ∀ p ∈ es, ErAt Pr K mg p.1 p.2 (erFi p.2)) (erc : ∀ p ∈ es, ∃ c, mg p.1 = some (.ref c) ∧ ErC K c p.2)
    (glb : GOk K mg (pgE gs fs es isa mu)) (bi : ∀ x ∈ ("range" : Str) :: builtins, mg x = none) (en : mg "enumerate" = none) (hi : IsaOk (pgE gs fs es isa mu) K mg) : TabE (pgE gs fs es isa mu) Pr K mg where
  defs := fun f fi h he => by
    have h : (match es.lookup f with | some y => some (erFi y) | none => fs.lookup f) = some fi := h
    have he : es.lookup f = none := he
    rw [he] at h
    exact defs (f, fi) (PySem.mem_of_lookup h)
  ers := fun f fi x h he => by
    have h : (match es.lookup f with | some y => some (erFi y) | none => fs.lookup f) = some fi := h
    have he : es.lookup f = some x := he
    rw [he] at h
    cases h
    exact ers (f, x) (PySem.mem_of_lookup he)
  glb := glb
  bi := fun x h _ => bi x h
  en := fun _ => en
  gn := fun h => by cases h
  erc := fun C x h => erc (C, x) (PySem.mem_of_lookup h)
  isa := hi
/-- whose heirs such classes are: their own, top, ValueError -/
def isaE (es : List (Str × Str)) (top : Str) : Str → W → Option Bool := fun C D => if (es.lookup C).isNone = true then none else match D with
  | .glo y => if y = C ∨ y = top then some true else if (es.lookup y).isSome = true then some false else none
  | .ty n => if n = "ValueError" then some true else none
  | _ => none
/-- told by the classes' addresses -/
theorem isa_mk {gs : List (Str × W)} {fs : List (Str × Fi)} {es : List (Str × Str)} {mu : List (Nat × Nat × Nat)} {K : PySem.W.Frag} {mg : Str → Option Value} {ads : List (Str × Addr)} {top : Str} {S : Addr} (erc : ∀ p ∈ es, ∃ c, mg p.1 = some (.ref c) ∧ ErC K c p.2)
    (hm : ∀ p ∈ ads, mg p.1 = some (.ref p.2)) (hs : mg top = some (.ref S)) (h1 : ads.map (·.1) = es.map (·.1)) (chk : (ads.all fun C => ((top, S) :: ads).all fun D => decide (PySem.W.kitOne K (.ref C.2) (.ref D.2) = some (decide (D.1 = C.1) || decide (D.1 = top)))) = true)
    (chv : (ads.all fun C => decide (PySem.W.kitOne K (.ref C.2) (.type "ValueError") = some true)) = true) : IsaOk (pgE gs fs es (isaE es top) mu) K mg := by
  intro C D b h
  have h : isaE es top C D = some b := h
  unfold isaE at h
  split at h
  · cases h
  · rename_i hn
    have inA : ∀ y, (es.lookup y).isSome = true → ∃ a x, (y, a) ∈ ads ∧ mg y = some (.ref a) ∧ ErC K a x := fun y hy => by
      obtain ⟨x, hx⟩ := Option.isSome_iff_exists.mp hy
      have m := PySem.mem_of_lookup hx
      have m2 : y ∈ ads.map (·.1) := by rw [h1]; exact List.mem_map_of_mem (f := (·.1)) m
      obtain ⟨p, hp, rfl⟩ := List.mem_map.mp m2
      obtain ⟨c, hc, T⟩ := erc _ m
      have hc2 := hm p hp
      have hc3 : mg p.1 = some (.ref c) := hc
      rw [hc2] at hc3
      cases hc3
      exact ⟨p.2, x, hp, hc2, T⟩
    obtain ⟨a, x, ha, hma, T⟩ := inA C (by
      cases q : es.lookup C with
      | none => rw [q] at hn; exact absurd rfl hn
      | some _ => rfl)
    have row := fun D hD => of_decide_eq_true (List.all_eq_true.mp (List.all_eq_true.mp chk _ ha) D hD)
    cases D with
    | glo y =>
      simp only at h
      split at h
      · rename_i hy
        cases h
        rcases hy with rfl | rfl
        · refine ⟨a, x, .ref a, hma, T, ⟨a, hma, rfl⟩, ?_⟩
          rw [row _ (List.mem_cons_of_mem _ ha)]
          simp
        · refine ⟨a, x, .ref S, hma, T, ⟨S, hs, rfl⟩, ?_⟩
          rw [row _ List.mem_cons_self]
          simp
      · rename_i hy
        split at h
        · rename_i hi
          cases h
          obtain ⟨d, _, hd, hmd, _⟩ := inA y hi
          refine ⟨a, x, .ref d, hma, T, ⟨d, hmd, rfl⟩, ?_⟩
          rw [row _ (List.mem_cons_of_mem _ hd)]
          rw [not_or] at hy
          simp [hy.1, hy.2]
        · cases h
    | ty n =>
      simp only at h
      split at h
      · rename_i hv
        cases h
        subst hv
        exact ⟨a, x, _, hma, T, rfl, of_decide_eq_true (List.all_eq_true.mp chv _ ha)⟩
      · cases h
    | _ => cases h
/-- the facts of one class -/
theorem er_mk {Pr : Program} {K : PySem.W.Frag} {mg : Str → Option Value} {h : Heap} {f x : Str} {c fI : Addr} {nm q : Str} {N : Addr} {bs bm : List Value} {sn : List Str} {sub : List Value} {ab : Bool} {col : Option Bool} {dd : Option Addr} {k0 k1 k2 k3 k5 : Option Value}
    {oc : Value} {od : Option Addr} {osl : Array (Option Value)} {qual msg : Str} {q1 q2 p0 p1 p2 p3 p4 p5 p6 p7 p8 p9 : Pos} {cc cda : Addr} {kV doc pm ct : Value} {an : Option Addr} {cl : Value} {cld : Option Addr} {csl : Array (Option Value)} {ccl : Value} {cdd : Option Addr} {vs : Array Value} {ccs : Array (Option Value)} {file : Str} {tf : Tok}
    (X : K.In h) (G : h.Ns mainGlobals mg) (a : PySem.W.nsIn K mainGlobals f = some (some (.ref c))) (kp : PySem.W.keepIn K (.ref c) = true) (l : K.lookup c = some (excClassObj nm q c N bs bm true sn sub ab col dd k0 k1 k2 k3 k5 "ValueError.__new__")) (bd : BindsEr x)
    (ini : PySem.W.findIn K (.ref c) "__init__" = some (some (.ref fI))) (ity : PySem.W.typeIn K (.ref fI) = some (.type "function"))
    (lf : K.lookup fI = some ⟨oc, od, .func (PySem.W.fnX "__init__" qual (erA q1 q2 x) (erB msg x p0 p1 p2 p3 p4 p5 p6 p7 p8 p9) (erS x) [("__class__", cc)] .none kV doc pm an (.ref cda) ct), osl⟩) (cdk : PySem.W.codeIn K (.ref cda) qual = true)
    (lcc : K.lookup cc = some ⟨cl, cld, .cell (some (.ref c)), csl⟩) (lcd : K.lookup cda = some ⟨ccl, cdd, .fields vs, ccs⟩) (hvs : vs[2]? = some (.str file tf)) (hfl : ((Pr.main.file : Str) == file) = true) (hsw : (p2.endLine == p4.line) = true)
    (sup : PySem.W.nsIn K mainGlobals "super" = some none) (ope : PySem.W.nsIn K cStatics "thirdparty.any" = some none) (subV : PySem.W.subIn K (.ref c) (.type "ValueError") = some true) (sa : PySem.W.findIn K (.ref c) "__setattr__" = some (some (.builtin "object.__setattr__"))) (att : PySem.W.findIn K (.ref c) x = some none)
    (ga : PySem.W.findIn K (.ref c) "__getattribute__" = some (some (.builtin "BaseException.__getattribute__"))) (gt : PySem.W.findIn K (.ref c) "__getattr__" = some none) (ex : PySem.W.subIn K (.ref c) (.type "BaseException") = some true) (hd : PySem.W.hasDictIn K c = true)
    (ha : PySem.W.findIn K (.ref c) "__class__" = some (some (.builtin "object.__class__"))) (hn : PySem.W.specialIn K (.builtin "object.__class__") "__get__" = some (some (.builtin "getset_descriptor.__get__"))) (ht : PySem.W.takesIn K (.builtin "object.__class__") = some true) (hm : PySem.W.mroIn K c (.type "object") = some true)
    (top : (Pr.main.scope.names.lookup ("super" : Str)).isSome = false) (nx : x ≠ "self" ∧ x ≠ "__class__" ∧ x ≠ "super" ∧ (x == ("__debug__" : Str)) = false) (hbm : PySem.HandSPX.refsVE bm = true) (hal : PySem.W.alongIn K "__init__" bm = some (some (.builtin "ValueError.__init__"))) :
    ErAt Pr K mg f x (erFi x) ∧ ∃ c, mg f = some (.ref c) ∧ ErC K c x := by
  have hmg := PySem.W.mg_of X G a
  refine ⟨⟨rfl, rfl, bd, c, fI, hmg, kp, ⟨⟨nm, q, N, bs, bm, sn, sub, ab, col, dd, k0, k1, k2, k3, k5, l, hbm, hal⟩, ini, ity, ⟨oc, od, osl, qual, msg, q1, q2, p0, p1, p2, p3, p4, p5, p6, p7, p8, p9, cc, cda, kV, doc, pm, ct, an, cl, cld, csl, ccl, cdd, vs, ccs, file, tf, lf, cdk, lcc, lcd, hvs, hfl, hsw⟩, top, sup, ope, subV, sa, att, nx⟩⟩, c, hmg, ⟨?_, ga, gt, ex, hd, ha, hn, ht, hm, att⟩⟩
  unfold PySem.W.clsIn
  rw [l]
  rfl
end Y

/-! The reader once more, from the left: what follows is handed in, so that a def's text reads off as one term. -/
namespace Y
open PySem L2
theorem Res.assoc' {α β γ : Type} {r : Res α} {f : α → So → Res β} {g : β → So → Res γ} : (r.bind f).bind g = r.bind fun a S => (f a S).bind g := by
  cases r <;> rfl
/-- a truth value that is there -/
def iB {α : Type} (t : Option Bool) (f : Bool → Res α) : Res α := match t with
  | some b => f b
  | none => .bad
def iF {α : Type} (t : Option Bool) (a b : Res α) : Res α := match t with
  | some true => a
  | some false => b
  | none => .bad
theorem iF_t {α : Type} {a b : Res α} : iF (some true) a b = a := rfl
theorem iF_f {α : Type} {a b : Res α} : iF (some false) a b = b := rfl
theorem iB_s {α : Type} {t : Bool} {f : Bool → Res α} : iB (some t) f = f t := rfl
section
variable {α : Type}
def iI (w : W) (f : Int → Res α) : Res α := match w with
  | .int i => f i
  | _ => .bad
def ifTy (u : W) (S : So) (T : String) (a : Res α) : Res α := if valTy u S = some T then a else .bad
def jW (w : W) (acc : Str) (f : Str → Res α) : Res α := match w with
  | .str y => if y.length ≤ sizeLine ∧ (acc ++ y).length ≤ sizeLine then f (acc ++ y) else .bad
  | _ => .bad
def jC (y acc : Str) (f : Str → Res α) : Res α := if (acc ++ y).length ≤ sizeLine then f (acc ++ y) else .bad
/-- what range(..) gives to walk -/
def rgC (us : List W) (k : Wk → Res α) : Res α := match us with
  | [.int j] => if -(2 ^ 62) ≤ j ∧ j < 2 ^ 62 then k (.seq (rangeW 0 j.toNat)) else .bad
  | [.int i, .int j] => if (-(2 ^ 62) ≤ i ∧ i < 2 ^ 62) ∧ -(2 ^ 62) ≤ j ∧ j < 2 ^ 62 then k (.seq (rangeW i (j - i).toNat)) else .bad
  | _ => .bad
def evJC (g : Expr → So → (W → So → Res α) → Res α) : List Expr → Str → So → (Str → So → Res α) → Res α
  | [], acc, S, k => k acc S
  | .Constant (.str y) _ _ :: r, acc, S, k => jC y acc fun acc' => evJC g r acc' S k
  | .FormattedValue x (-1) none _ :: r, acc, S, k => g x S fun w S1 => jW w acc fun acc' => evJC g r acc' S1 k
  | _, _, _, _ => .bad
def evPC (g : Expr → So → (W → So → Res α) → Res α) : List (Option Expr) → List Expr → So → (List (Kd × W) → So → Res α) → Res α
  | [], [], S, k => k [] S
  | some x :: ks, v :: vs, S, k => g x S fun w S1 => g v S1 fun y S2 => match toK w with
    | some q => evPC g ks vs S2 fun r S3 => k ((q, y) :: r) S3
    | none => .bad
  | _, _, _, _ => .bad
def evLC (f : Expr → So → (W → So → Res α) → Res α) : List Expr → So → (List W → So → Res α) → Res α
  | [], S, k => k [] S
  | x :: xs, S, k => f x S fun w S1 => evLC f xs S1 fun ws S2 => k (w :: ws) S2
def evKC (f : Expr → So → (W → So → Res α) → Res α) : List Keyword → So → (List W → So → Res α) → Res α
  | [], S, k => k [] S
  | x :: xs, S, k => f x.value S fun w S1 => evKC f xs S1 fun ws S2 => k (w :: ws) S2
def evOC (f : Expr → So → (W → So → Res α) → Res α) : Option Expr → So → (Option Int → So → Res α) → Res α
  | none, S, k => k none S
  | some x, S, k => f x S fun w S1 => iI w fun i => k (some i) S1
def evBC (isAnd : Bool) (f : Expr → So → (W → So → Res α) → Res α) : List Expr → So → (W → So → Res α) → Res α
  | [], _, _ => .bad
  | [x], S, k => f x S k
  | x :: y :: xs, S, k => f x S fun w S1 => iB (truth w S1) fun b => if b = isAnd then evBC isAnd f (y :: xs) S1 k else k w S1
/-- a chain of tests: from the first that decides -/
def tsBC (isAnd : Bool) (f : Expr → So → (So → Res α) → (So → Res α) → Res α) : List Expr → So → (So → Res α) → (So → Res α) → Res α
  | [], _, _, _ => .bad
  | [x], S, a, b => f x S a b
  | x :: y :: xs, S, a, b => if isAnd then f x S (fun S1 => tsBC isAnd f (y :: xs) S1 a b) b else f x S a (fun S1 => tsBC isAnd f (y :: xs) S1 a b)
end
section
variable {α : Type} {f : Expr → So → Res W} {g : Expr → So → (W → So → Res α) → Res α}
theorem evLC_eq (h : ∀ x S k, g x S k = (f x S).bind k) : ∀ (es : List Expr) (S : So) (k : List W → So → Res α), evLC g es S k = (evL f es S).bind k
  | [], S, k => rfl
  | x :: xs, S, k => by
    unfold evLC evL
    rw [h, Res.assoc']
    congr 1; funext w S1
    rw [evLC_eq h xs, Res.assoc']
    rfl
theorem evKC_eq (h : ∀ x S k, g x S k = (f x S).bind k) : ∀ (es : List Keyword) (S : So) (k : List W → So → Res α), evKC g es S k = (evK f es S).bind k
  | [], S, k => rfl
  | x :: xs, S, k => by
    unfold evKC evK
    rw [h, Res.assoc']
    congr 1; funext w S1
    rw [evKC_eq h xs, Res.assoc']
    rfl
theorem evOC_eq (h : ∀ x S k, g x S k = (f x S).bind k) : ∀ (o : Option Expr) (S : So) (k : Option Int → So → Res α), evOC g o S k = (evO f o S).bind k
  | none, S, k => rfl
  | some x, S, k => by
    show g x S _ = ((f x S).bind _).bind k
    rw [h, Res.assoc']
    congr 1; funext w S1
    cases w <;> rfl
theorem evBC_eq (h : ∀ x S k, g x S k = (f x S).bind k) (i : Bool) : ∀ (es : List Expr) (S : So) (k : W → So → Res α), evBC i g es S k = (evB i f es S).bind k
  | [], S, k => rfl
  | [x], S, k => by unfold evBC evB; rw [h]
  | x :: y :: xs, S, k => by
    unfold evBC evB
    rw [h, Res.assoc']
    congr 1; funext w S1
    cases q : truth w S1 with
    | none => rfl
    | some b =>
      show (if b = i then _ else _) = Res.bind (if b = i then _ else _) k
      split
      · exact evBC_eq h i (y :: xs) S1 k
      · rfl
end
theorem evJC_eq {α : Type} {f : Expr → So → Res W} {g : Expr → So → (W → So → Res α) → Res α} (h : ∀ x S k, g x S k = (f x S).bind k) : ∀ (es : List Expr) (acc : Str) (S : So) (k : Str → So → Res α), evJC g es acc S k = (evJ f es acc S).bind k
  | [], acc, S, k => rfl
  | x :: r, acc, S, k => by
    by_cases h1 : ∃ y j q, x = .Constant (.str y) j q
    · obtain ⟨y, j, q, rfl⟩ := h1
      show jC y acc _ = Res.bind (if (acc ++ y).length ≤ sizeLine then evJ f r (acc ++ y) S else .bad) k
      unfold jC
      split
      · exact evJC_eq h r _ S k
      · rfl
    · by_cases h2 : ∃ y p, x = .FormattedValue y (-1) none p
      · obtain ⟨y, p, rfl⟩ := h2
        show g y S _ = Res.bind ((f y S).bind _) k
        rw [h, Res.assoc']
        congr 1; funext w S1
        cases w with
        | str z =>
          show jW (.str z) acc _ = Res.bind (if z.length ≤ sizeLine ∧ (acc ++ z).length ≤ sizeLine then evJ f r (acc ++ z) S1 else .bad) k
          show (if z.length ≤ sizeLine ∧ (acc ++ z).length ≤ sizeLine then evJC g r (acc ++ z) S1 k else .bad) = _
          split
          · exact evJC_eq h r _ S1 k
          · rfl
        | _ => rfl
      · have e1 : evJC g (x :: r) acc S k = .bad := by
          cases x with
          | Constant c j q => cases c with
            | str y => exact absurd ⟨y, j, q, rfl⟩ h1
            | _ => rfl
          | FormattedValue y c s q =>
            by_cases hc : c = -1
            · subst hc
              cases s with
              | none => exact absurd ⟨y, q, rfl⟩ h2
              | some _ => rfl
            · cases c with
              | ofNat n => rfl
              | negSucc n => cases n with
                | zero => exact absurd rfl hc
                | succ n => rfl
          | _ => rfl
        have e2 : evJ f (x :: r) acc S = .bad := by
          cases x with
          | Constant c j q => cases c with
            | str y => exact absurd ⟨y, j, q, rfl⟩ h1
            | _ => rfl
          | FormattedValue y c s q =>
            by_cases hc : c = -1
            · subst hc
              cases s with
              | none => exact absurd ⟨y, q, rfl⟩ h2
              | some _ => rfl
            · cases c with
              | ofNat n => rfl
              | negSucc n => cases n with
                | zero => exact absurd rfl hc
                | succ n => rfl
          | _ => rfl
        rw [e1, e2]; rfl
theorem evPC_eq {α : Type} {f : Expr → So → Res W} {g : Expr → So → (W → So → Res α) → Res α} (h : ∀ x S k, g x S k = (f x S).bind k) : ∀ (ks : List (Option Expr)) (vs : List Expr) (S : So) (k : List (Kd × W) → So → Res α), evPC g ks vs S k = (evP f ks vs S).bind k
  | [], [], S, k => rfl
  | [], _ :: _, S, k => rfl
  | none :: _, _, S, k => by cases ‹List Expr› <;> rfl
  | some _ :: _, [], S, k => rfl
  | some x :: ks, v :: vs, S, k => by
    unfold evPC evP
    rw [h, Res.assoc']; congr 1; funext w S1
    rw [h, Res.assoc']; congr 1; funext y S2
    cases toK w with
    | none => rfl
    | some q =>
      show evPC g ks vs S2 _ = Res.bind (Res.bind _ _) k
      rw [evPC_eq h ks vs, Res.assoc']; rfl
/-- what follows a test -/
def tsK {α : Type} (a b : So → Res α) : W → So → Res α := fun u S => iF (truth u S) (a S) (b S)
theorem tsBC_eq {α : Type} {f : Expr → So → Res W} {g : Expr → So → (So → Res α) → (So → Res α) → Res α} (h : ∀ x S a b, g x S a b = (f x S).bind (tsK a b)) (i : Bool) : ∀ (es : List Expr) (S : So) (a b : So → Res α), tsBC i g es S a b = (evB i f es S).bind (tsK a b)
  | [], S, a, b => rfl
  | [x], S, a, b => by unfold tsBC evB; rw [h]
  | x :: y :: xs, S, a, b => by
    have ih := fun S => tsBC_eq h i (y :: xs) S a b
    unfold tsBC evB
    cases i with
    | true =>
      simp only [if_true]
      rw [h, Res.assoc']
      congr 1; funext w S1
      unfold tsK
      cases q : truth w S1 with
      | none => rfl
      | some t =>
        cases t with
        | true => simp only [iF_t, if_true]; exact ih S1
        | false => simp only [iF_f, Bool.false_eq_true, if_false, Res.bind, q]
    | false =>
      simp only [Bool.false_eq_true, if_false]
      rw [h, Res.assoc']
      congr 1; funext w S1
      unfold tsK
      cases q : truth w S1 with
      | none => rfl
      | some t =>
        cases t with
        | false => simp only [iF_f, if_true]; exact ih S1
        | true => simp only [iF_t, Bool.true_eq_false, if_false, Res.bind, q]
def walkC {α : Type} (rg : Str → Bool) (tg : Expr) (g : Expr → So → (W → So → Res α) → Res α) (iter : Expr) (S : So) (k : Wk → So → Res α) : Res α := if isSet iter = true then .bad else match isEnum iter with
  | some x => if rg "enumerate" = true ∧ isTupE tg = true then g x S fun u S1 => (enumV u S1).bind k else .bad
  | none => match isRange iter with
  | some es => if rg "range" = true then evLC g es S fun us S1 => rgC us fun q => k q S1
    else .bad
  | none => match isParts iter with
  | some x => if rg "parts" = true then g x S fun u S1 => (partsV u S1).bind k else .bad
  | none => g iter S fun u S1 => (walkV u S1).bind k
theorem walkC_eq {α : Type} {rg : Str → Bool} {tg : Expr} {f : Expr → So → Res W} {g : Expr → So → (W → So → Res α) → Res α} (h : ∀ x S k, g x S k = (f x S).bind k) (iter : Expr) (S : So) (k : Wk → So → Res α) : walkC rg tg g iter S k = (walkE rg tg f iter S).bind k := by
  unfold walkC walkE
  by_cases hs : isSet iter = true
  · simp only [hs, if_true]; rfl
  · simp only [hs, Bool.false_eq_true, if_false]
    cases qe : isEnum iter with
    | some x =>
      simp only
      split
      · rw [h, Res.assoc']
      · rfl
    | none =>
    simp only
    cases q : isRange iter with
    | none =>
      simp only
      cases qp : isParts iter with
      | some x =>
        simp only
        split
        · rw [h, Res.assoc']
        · rfl
      | none =>
        simp only
        rw [h, Res.assoc']
    | some es =>
      simp only
      by_cases hr : rg "range" = true
      · simp only [hr, if_true]
        rw [evLC_eq h, Res.assoc']
        congr 1; funext us S1
        match us with
        | [] => rfl
        | [.int j] =>
          show (if _ then _ else _) = Res.bind (if _ then _ else _) k
          split <;> rfl
        | [.int i, .int j] =>
          show (if _ then _ else _) = Res.bind (if _ then _ else _) k
          split <;> rfl
        | .non :: r => cases r with | nil => rfl | cons a r => (cases r <;> rfl)
        | .bl _ :: r => cases r with | nil => rfl | cons a r => (cases r <;> rfl)
        | .str _ :: r => cases r with | nil => rfl | cons a r => (cases r <;> rfl)
        | .ty _ :: r => cases r with | nil => rfl | cons a r => (cases r <;> rfl)
        | .tup _ :: r => cases r with | nil => rfl | cons a r => (cases r <;> rfl)
        | .fl _ _ :: r => cases r with | nil => rfl | cons a r => (cases r <;> rfl)
        | .fdn _ _ :: r => cases r with | nil => rfl | cons a r => (cases r <;> rfl)
        | .fd _ _ :: r => cases r with | nil => rfl | cons a r => (cases r <;> rfl)
        | .fins _ _ _ :: r => cases r with | nil => rfl | cons a r => (cases r <;> rfl)
        | .ref _ :: r => cases r with | nil => rfl | cons a r => (cases r <;> rfl)
        | .glo _ :: r => cases r with | nil => rfl | cons a r => (cases r <;> rfl)
        | .int _ :: a :: b :: r => cases a <;> rfl
        | [.int _, .non] => rfl
        | [.int _, .bl _] => rfl
        | [.int _, .str _] => rfl
        | [.int _, .ty _] => rfl
        | [.int _, .tup _] => rfl
        | [.int _, .fl _ _] => rfl
        | [.int _, .fd _ _] => rfl
        | [.int _, .fdn _ _] => rfl
        | [.int _, .fins _ _ _] => rfl
        | [.int _, .ref _] => rfl
        | [.int _, .glo _] => rfl
      · simp only [hr, Bool.false_eq_true, if_false]; rfl
section
variable {α : Type} (P : Pg) (call : Cf) (sx : Sx) (g : Expr → So → (W → So → Res α) → Res α)
def callC (f : Str) (es : List Expr) (kws : List Keyword) (p : Pos) (S : So) (k : W → So → Res α) : Res α :=
      if (okN f = true ∧ plainA es kws = true) ∧ sx.sc.names.lookup f = some .globalImplicit then match P.F f with
        | some fi => evLC g es S fun us S1 => evKC g kws S1 fun ws S2 => match argsOf fi us (kws.map (·.arg)) ws with
          | some vs => (call f vs S2).bind k
          | none => .bad
        | none => if kws.isEmpty = true ∧ f ∈ builtins then evLC g es S fun us S1 => (builtinI P.isa (P.mu p) f us S1).bind k else .bad
      else .bad
def methC (o : Expr) (m : Str) (ap : Pos) (es : List Expr) (cp : Pos) (S : So) (k : W → So → Res α) : Res α := match methTy m with
      | none => .bad
      | some T => if ((ap.endLine == cp.line) = true ∧ plainA es [] = true) ∧ ((1 ≤ es.length ∨ m = "pop") ∧ es.length < 20) ∧ isSuper o = false then
          g o S fun u S1 => ifTy u S1 T (evLC g es S1 fun us S2 => (method (P.mu cp) u m us S2).bind k)
        else .bad
end
mutual
/-- an expression; k: what follows -/
def evalC {α : Type} (P : Pg) (call : Cf) : Nat → Sx → En → Expr → So → (W → So → Res α) → Res α
  | 0, _, _, _, _, _ => .bad
  | d + 1, sx, e, x, S, k => match x with
    | .Constant c _ _ => (constE c S).bind k
    | .Name n _ => if okN n = true then (ofO (nameE P sx e n) S).bind k else .bad
    | .BinOp a op b p => evalC P call d sx e a S fun u S1 => evalC P call d sx e b S1 fun v S2 => (binop (P.mu p) op u v S2).bind k
    | .UnaryOp .Not a _ => testC P call d sx e a S (fun S1 => k (.bl false) S1) (fun S1 => k (.bl true) S1)
    | .UnaryOp .USub a _ => evalC P call d sx e a S fun u S1 => (neg u S1).bind k
    | .BoolOp op vs _ => evBC (match op with | .And => true | .Or => false) (evalC P call d sx e) vs S k
    | .Compare a [op] [b] _ => if isSet b = true then .bad else evalC P call d sx e a S fun u S1 => evalC P call d sx e b S1 fun v S2 => iB (cmp op u v S2) fun r => k (.bl r) S2
    | .Compare a [op, op'] [b, c] _ => if (isSet b || isSet c) = true then .bad else evalC P call d sx e a S fun u S1 => evalC P call d sx e b S1 fun v S2 =>
        iF (cmp op u v S2) (evalC P call d sx e c S2 fun z S4 => iB (cmp op' v z S4) fun r => k (.bl r) S4) (k (.bl false) S2)
    | .IfExp c a b _ => testC P call d sx e c S (fun S1 => evalC P call d sx e a S1 k) (fun S1 => evalC P call d sx e b S1 k)
    | .Tuple es _ _ => evLC (evalC P call d sx e) es S fun ws S1 => if ws.length ≤ sizeLine then k (.tup ws) S1 else .bad
    | .List es p => evLC (evalC P call d sx e) es S fun ws S1 => if ws.length ≤ sizeLine then (mk (P.mu p) ws S1).bind k else .bad
    | .Subscript a (.Slice lo hi none _) p => evalC P call d sx e a S fun u S1 => evOC (evalC P call d sx e) lo S1 fun l S2 => evOC (evalC P call d sx e) hi S2 fun h S3 => (slice (P.mu p) u l h S3).bind k
    | .Subscript a b _ => if isSlice b = true then .bad else evalC P call d sx e a S fun u S1 => evalC P call d sx e b S1 fun v S2 => (ofO (item u v S2) S2).bind k
    | .Call (.Name f _) es kws p => callC P call sx (evalC P call d sx e) f es kws p S k
    | .Call (.Attribute o m ap) es [] cp => methC P (evalC P call d sx e) o m ap es cp S k
    | .JoinedStr es _ => if es.all partJ = true ∧ 2 ≤ es.length then evJC (evalC P call d sx e) es Str.empty S fun x S1 => k (.str x) S1 else .bad
    | .Dict [] [] p => (mkD (P.mu p) [] S).bind k
    | .Dict ks vs p => if (ks.all (·.isSome) = true ∧ ks.length = vs.length) ∧ ks.length ≤ 15 then evPC (evalC P call d sx e) ks vs S fun kvs S1 =>
        if kvs.length ≤ 15 ∧ (kvs.all fun kv => flatK kv.1) = true then (mkD (P.mu p) (kvs.foldl (fun r kv => putW r kv.1 kv.2) []) S1).bind k else .bad
      else .bad
    | .ListComp elt [⟨tg, iter, ifs, 0⟩] scope p =>
      if blkC sx.N sx.sc scope (ownOf sx.N scope) = true ∧ ((slotsT sx.N tg).all fun i => ((ownOf sx.N scope).map (·.2)).contains i) = true ∧ ifs.length ≤ 1 then
        walkC (rgOk P sx) tg (evalC P call d sx e) iter S fun q S1 =>
        (noX (turns q (lcTurn (evalE P call d ⟨sx.N, relS scope sx.sc, fun x => scope.names.lookup x == some .cell⟩) ⟨sx.N, relS scope sx.sc, fun x => scope.names.lookup x == some .cell⟩ (wipeW e ((ownOf sx.N scope).map (·.2))) tg ifs elt) q.len 0 [] S1)).bind fun acc S6 => (mk (P.mu p) acc S6).bind k
      else .bad
    | .Attribute o n _ => if isSuper o = false then evalC P call d sx e o S fun u S1 => (attrV P u n S1).bind k else .bad
    | x => (evalE P call (d + 1) sx e x S).bind k
/-- a test; a: what follows where it holds, b: where not -/
def testC {α : Type} (P : Pg) (call : Cf) : Nat → Sx → En → Expr → So → (So → Res α) → (So → Res α) → Res α
  | 0, _, _, _, _, _, _ => .bad
  | d + 1, sx, e, x, S, a, b => match x with
    | .UnaryOp .Not x _ => testC P call d sx e x S b a
    | .BoolOp op vs _ => tsBC (match op with | .And => true | .Or => false) (testC P call d sx e) vs S a b
    | .Compare x [op] [y] _ => if isSet y = true then .bad else evalC P call d sx e x S fun u S1 => evalC P call d sx e y S1 fun v S2 => iF (cmp op u v S2) (a S2) (b S2)
    | .Compare x [op, op'] [y, z] _ => if (isSet y || isSet z) = true then .bad else evalC P call d sx e x S fun u S1 => evalC P call d sx e y S1 fun v S2 =>
        iF (cmp op u v S2) (evalC P call d sx e z S2 fun w S4 => iF (cmp op' v w S4) (a S4) (b S4)) (b S2)
    | .Name n _ => if okN n = true then (ofO (nameE P sx e n) S).bind (tsK a b) else .bad
    | .Call (.Name f _) es kws p => callC P call sx (evalC P call d sx e) f es kws p S (tsK a b)
    | .Call (.Attribute o m ap) es [] cp => methC P (evalC P call d sx e) o m ap es cp S (tsK a b)
    | .Subscript x (.Slice lo hi st q) p => (evalE P call (d + 1) sx e (.Subscript x (.Slice lo hi st q) p) S).bind (tsK a b)
    | .Subscript x y _ => evalC P call d sx e x S fun u S1 => evalC P call d sx e y S1 fun v S2 => (ofO (item u v S2) S2).bind (tsK a b)
    | x => (evalE P call (d + 1) sx e x S).bind (tsK a b)
end
section
variable {α : Type} {P : Pg} {call : Cf} {sx : Sx}
theorem callC_eq {f : Expr → So → Res W} {g : Expr → So → (W → So → Res α) → Res α} (h : ∀ x S k, g x S k = (f x S).bind k) (n : Str) (es : List Expr) (kws : List Keyword) (p : Pos) (S : So) (k : W → So → Res α) :
    callC P call sx g n es kws p S k = Res.bind (α := W) (if (okN n = true ∧ plainA es kws = true) ∧ sx.sc.names.lookup n = some NameKind.globalImplicit then match P.F n with
        | some fi => (evL f es S).bind fun us S1 => (evK f kws S1).bind fun ws S2 => match argsOf fi us (kws.map (·.arg)) ws with
          | some vs => call n vs S2
          | none => .bad
        | none => if kws.isEmpty = true ∧ n ∈ builtins then (evL f es S).bind fun us S1 => builtinI P.isa (P.mu p) n us S1 else .bad
      else .bad) k := by
  unfold callC
  split
  · cases P.F n with
    | some fi =>
      simp only
      rw [evLC_eq h, Res.assoc']
      congr 1; funext us S1
      rw [evKC_eq h, Res.assoc']
      congr 1; funext ws S2
      split <;> rfl
    | none =>
      simp only
      split
      · rw [evLC_eq h, Res.assoc']
      · rfl
  · rfl
theorem methC_eq {f : Expr → So → Res W} {g : Expr → So → (W → So → Res α) → Res α} (h : ∀ x S k, g x S k = (f x S).bind k) (o : Expr) (m : Str) (ap : Pos) (es : List Expr) (cp : Pos) (S : So) (k : W → So → Res α) :
    methC P g o m ap es cp S k = (match methTy m with
      | none => .bad
      | some T => if ((ap.endLine == cp.line) = true ∧ plainA es [] = true) ∧ ((1 ≤ es.length ∨ m = "pop") ∧ es.length < 20) ∧ isSuper o = false then
          (f o S).bind fun u S1 => if valTy u S1 = some T then (evL f es S1).bind fun us S2 => method (P.mu cp) u m us S2 else .bad
        else .bad : Res W).bind k := by
  unfold methC
  cases methTy m with
  | none => rfl
  | some T =>
    simp only
    split
    · rw [h, Res.assoc']
      congr 1; funext u S1
      unfold ifTy
      split
      · rw [evLC_eq h, Res.assoc']
      · rfl
    · rfl
end
section
variable {P : Pg} {call : Cf}
theorem iB_eq {α : Type} {t : Option Bool} {S : So} {k : W → So → Res α} : iB t (fun r => k (.bl r) S) = ((ofO t S).bind fun r S3 => (.ok (.bl r) S3 : Res W)).bind k := by
  cases t <;> rfl
theorem both_eq : ∀ d : Nat, (∀ {α : Type} (sx : Sx) (e : En) (x : Expr) (S : So) (k : W → So → Res α), evalC P call d sx e x S k = (evalE P call d sx e x S).bind k) ∧
    (∀ {α : Type} (sx : Sx) (e : En) (x : Expr) (S : So) (a b : So → Res α), testC P call d sx e x S a b = (evalE P call d sx e x S).bind (tsK a b))
  | 0 => ⟨fun _ _ _ _ _ => rfl, fun _ _ _ _ _ _ => rfl⟩
  | d + 1 => by
    obtain ⟨ihE, ihT⟩ := both_eq d
    have hC : ∀ {α : Type} (sx : Sx) (e : En) (n : Str) (q : Pos) (es : List Expr) (kws : List Keyword) (p : Pos) (S : So) (k : W → So → Res α), callC P call sx (evalC P call d sx e) n es kws p S k = (evalE P call (d + 1) sx e (.Call (.Name n q) es kws p) S).bind k := fun sx e n q es kws p S k => by
      rw [callC_eq (f := evalE P call d sx e) (fun x S k => ihE sx e x S k)]; rfl
    have hM : ∀ {α : Type} (sx : Sx) (e : En) (o : Expr) (m : Str) (ap : Pos) (es : List Expr) (cp : Pos) (S : So) (k : W → So → Res α), methC P (evalC P call d sx e) o m ap es cp S k = (evalE P call (d + 1) sx e (.Call (.Attribute o m ap) es [] cp) S).bind k := fun sx e o m ap es cp S k => by
      rw [methC_eq (f := evalE P call d sx e) (fun x S k => ihE sx e x S k)]; rfl
    have hC1 : ∀ (sx : Sx) (e : En) (a b : Expr) (op : CmpOp) (p : Pos) (S : So), evalE P call (d + 1) sx e (.Compare a [op] [b] p) S = if isSet b = true then .bad else (evalE P call d sx e a S).bind fun u S1 => (evalE P call d sx e b S1).bind fun v S2 => (ofO (cmp op u v S2) S2).bind fun r S3 => .ok (.bl r) S3 := fun _ _ _ _ _ _ _ => rfl
    have hC2 : ∀ (sx : Sx) (e : En) (a b c : Expr) (op op' : CmpOp) (p : Pos) (S : So), evalE P call (d + 1) sx e (.Compare a [op, op'] [b, c] p) S = if (isSet b || isSet c) = true then .bad else (evalE P call d sx e a S).bind fun u S1 => (evalE P call d sx e b S1).bind fun v S2 => (ofO (cmp op u v S2) S2).bind fun r S3 =>
        if r then (evalE P call d sx e c S3).bind fun z S4 => (ofO (cmp op' v z S4) S4).bind fun r S5 => .ok (.bl r) S5 else .ok (.bl false) S3 := fun _ _ _ _ _ _ _ _ _ => rfl
    refine ⟨fun {α} sx e x S k => ?_, fun {α} sx e x S a b => ?_⟩
    · cases x with
      | Constant c j p => rfl
      | Name n p =>
        show (if okN n = true then _ else _) = Res.bind (if okN n = true then _ else _) k
        split <;> rfl
      | BinOp a op b p =>
        show evalC P call d sx e a S _ = Res.bind (Res.bind _ _) k
        rw [ihE, Res.assoc']; congr 1; funext u S1
        rw [ihE, Res.assoc']
      | UnaryOp op a p =>
        cases op with
        | Not =>
          show testC P call d sx e a S _ _ = Res.bind (Res.bind _ _) k
          rw [ihT, Res.assoc']; congr 1; funext u S1
          unfold tsK
          cases truth u S1 with
          | none => rfl
          | some t => cases t <;> rfl
        | USub =>
          show evalC P call d sx e a S _ = Res.bind (Res.bind _ _) k
          rw [ihE, Res.assoc']
        | _ => rfl
      | BoolOp op vs p => exact evBC_eq (fun x S k => ihE sx e x S k) _ vs S k
      | Compare a ops cs p =>
        match ops, cs with
        | [op], [b] =>
          rw [hC1]
          show (if isSet b = true then _ else _) = _
          split
          · rfl
          · rw [ihE, Res.assoc']; congr 1; funext u S1
            rw [ihE, Res.assoc']; congr 1; funext v S2
            exact iB_eq
        | [op, op'], [b, c] =>
          rw [hC2]
          show (if (isSet b || isSet c) = true then _ else _) = _
          split
          · rfl
          · rw [ihE, Res.assoc']; congr 1; funext u S1
            rw [ihE, Res.assoc']; congr 1; funext v S2
            cases cmp op u v S2 with
            | none => rfl
            | some t =>
              cases t with
              | false => rfl
              | true =>
                show evalC P call d sx e c S2 _ = Res.bind (Res.bind (evalE P call d sx e c S2) _) k
                rw [ihE, Res.assoc']; congr 1; funext z S4
                exact iB_eq
        | [], _ => rfl
        | [_], [] => rfl
        | [_], _ :: _ :: _ => rfl
        | [_, _], [] => rfl
        | [_, _], [_] => rfl
        | [_, _], _ :: _ :: _ :: _ => rfl
        | _ :: _ :: _ :: _, _ => rfl
      | IfExp c a b p =>
        show testC P call d sx e c S _ _ = Res.bind (Res.bind _ _) k
        rw [ihT, Res.assoc']; congr 1; funext u S1
        unfold tsK
        cases truth u S1 with
        | none => rfl
        | some t =>
          cases t with
          | true => exact ihE sx e a S1 k
          | false => exact ihE sx e b S1 k
      | Tuple es j p =>
        show evLC _ es S _ = Res.bind (Res.bind _ _) k
        rw [evLC_eq (f := evalE P call d sx e) (fun x S k => ihE sx e x S k), Res.assoc']; congr 1; funext ws S1
        split <;> rfl
      | List es p =>
        show evLC _ es S _ = Res.bind (Res.bind _ _) k
        rw [evLC_eq (f := evalE P call d sx e) (fun x S k => ihE sx e x S k), Res.assoc']; congr 1; funext ws S1
        split <;> rfl
      | Subscript a b p =>
        by_cases hb : ∃ lo hi q, b = .Slice lo hi none q
        · obtain ⟨lo, hi, q, rfl⟩ := hb
          show evalC P call d sx e a S _ = Res.bind (Res.bind _ _) k
          rw [ihE, Res.assoc']; congr 1; funext u S1
          rw [evOC_eq (f := evalE P call d sx e) (fun x S k => ihE sx e x S k), Res.assoc']; congr 1; funext l S2
          rw [evOC_eq (f := evalE P call d sx e) (fun x S k => ihE sx e x S k), Res.assoc']
        · have e1 : evalC P call (d + 1) sx e (.Subscript a b p) S k = if isSlice b = true then .bad else evalC P call d sx e a S fun u S1 => evalC P call d sx e b S1 fun v S2 => (ofO (item u v S2) S2).bind k := by
            cases b with
            | Slice lo hi st q =>
              cases st with
              | none => exact absurd ⟨lo, hi, q, rfl⟩ hb
              | some _ => rfl
            | _ => rfl
          have e2 : evalE P call (d + 1) sx e (.Subscript a b p) S = if isSlice b = true then .bad else (evalE P call d sx e a S).bind fun u S1 => (evalE P call d sx e b S1).bind fun v S2 => ofO (item u v S2) S2 := by
            cases b with
            | Slice lo hi st q =>
              cases st with
              | none => exact absurd ⟨lo, hi, q, rfl⟩ hb
              | some _ => rfl
            | _ => rfl
          rw [e1, e2]
          split
          · rfl
          · rw [ihE, Res.assoc']; congr 1; funext u S1
            rw [ihE, Res.assoc']
      | JoinedStr es p =>
        show (if es.all partJ = true ∧ 2 ≤ es.length then _ else _) = Res.bind (if es.all partJ = true ∧ 2 ≤ es.length then _ else _) k
        split
        · rw [evJC_eq (f := evalE P call d sx e) (fun x S k => ihE sx e x S k), Res.assoc']; rfl
        · rfl
      | Attribute o n p =>
        show (if isSuper o = false then _ else _) = Res.bind (if isSuper o = false then _ else _) k
        split
        · rw [ihE, Res.assoc']
        · rfl
      | Dict ks vs p =>
        by_cases h0 : ks = [] ∧ vs = []
        · obtain ⟨rfl, rfl⟩ := h0
          rfl
        · have e1 : evalC P call (d + 1) sx e (.Dict ks vs p) S k = if (ks.all (·.isSome) = true ∧ ks.length = vs.length) ∧ ks.length ≤ 15 then evPC (evalC P call d sx e) ks vs S fun kvs S1 =>
              if kvs.length ≤ 15 ∧ (kvs.all fun kv => flatK kv.1) = true then (mkD (P.mu p) (kvs.foldl (fun r kv => putW r kv.1 kv.2) []) S1).bind k else .bad
            else .bad := by
            cases ks with
            | nil => cases vs with
              | nil => exact absurd ⟨rfl, rfl⟩ h0
              | cons _ _ => rfl
            | cons _ _ => rfl
          have e2 : evalE P call (d + 1) sx e (.Dict ks vs p) S = if (ks.all (·.isSome) = true ∧ ks.length = vs.length) ∧ ks.length ≤ 15 then (evP (evalE P call d sx e) ks vs S).bind fun kvs S1 =>
              if kvs.length ≤ 15 ∧ (kvs.all fun kv => flatK kv.1) = true then mkD (P.mu p) (kvs.foldl (fun r kv => putW r kv.1 kv.2) []) S1 else .bad
            else .bad := by
            cases ks with
            | nil => cases vs with
              | nil => exact absurd ⟨rfl, rfl⟩ h0
              | cons _ _ => rfl
            | cons _ _ => rfl
          rw [e1, e2]
          split
          · rw [evPC_eq (f := evalE P call d sx e) (fun x S k => ihE sx e x S k), Res.assoc']; congr 1; funext kvs S1
            split <;> rfl
          · rfl
      | ListComp elt gs scope p =>
        match gs with
        | [] => rfl
        | ⟨_, _, _, a⟩ :: _ :: _ => (cases a with | ofNat n => (cases n <;> rfl) | negSucc n => rfl)
        | [⟨tg, iter, ifs, a⟩] =>
          by_cases ha : a = 0
          · subst ha
            show (if _ then _ else _) = Res.bind (if _ then _ else _) k
            split
            · rw [walkC_eq (f := evalE P call d sx e) (fun x S k => ihE sx e x S k), Res.assoc']; congr 1; funext q S1
              rw [Res.assoc']
            · rfl
          · cases a with
            | ofNat n => cases n with
              | zero => exact absurd rfl ha
              | succ n => rfl
            | negSucc n => rfl
      | Call fn es kws pos =>
        cases fn with
        | Name f q => exact hC sx e f q es kws pos S k
        | Attribute o m ap =>
          cases kws with
          | nil => exact hM sx e o m ap es pos S k
          | cons _ _ => rfl
        | _ => rfl
      | _ => rfl
    · cases x with
      | Constant c j p => rfl
      | Name n p =>
        show (if okN n = true then _ else _) = Res.bind (if okN n = true then _ else _) _
        split <;> rfl
      | UnaryOp op x p =>
        cases op with
        | Not =>
          show testC P call d sx e x S b a = Res.bind (Res.bind _ _) _
          rw [ihT, Res.assoc']; congr 1; funext u S1
          unfold tsK
          cases truth u S1 with
          | none => rfl
          | some t => cases t <;> rfl
        | _ => rfl
      | BoolOp op vs p => exact tsBC_eq (fun x S a b => ihT sx e x S a b) _ vs S a b
      | Compare x ops cs p =>
        match ops, cs with
        | [op], [y] =>
          rw [hC1]
          show (if isSet y = true then _ else _) = _
          split
          · rfl
          · rw [ihE, Res.assoc']; congr 1; funext u S1
            rw [ihE, Res.assoc']; congr 1; funext v S2
            cases cmp op u v S2 with
            | none => rfl
            | some t => cases t <;> rfl
        | [op, op'], [y, z] =>
          rw [hC2]
          show (if (isSet y || isSet z) = true then _ else _) = _
          split
          · rfl
          · rw [ihE, Res.assoc']; congr 1; funext u S1
            rw [ihE, Res.assoc']; congr 1; funext v S2
            cases cmp op u v S2 with
            | none => rfl
            | some t =>
              cases t with
              | false => rfl
              | true =>
                show evalC P call d sx e z S2 _ = Res.bind (Res.bind (evalE P call d sx e z S2) _) _
                rw [ihE, Res.assoc']; congr 1; funext w S4
                cases cmp op' v w S4 with
                | none => rfl
                | some t => cases t <;> rfl
        | [], _ => rfl
        | [_], [] => rfl
        | [_], _ :: _ :: _ => rfl
        | [_, _], [] => rfl
        | [_, _], [_] => rfl
        | [_, _], _ :: _ :: _ :: _ => rfl
        | _ :: _ :: _ :: _, _ => rfl
      | Subscript x y p =>
        cases y with
        | Slice lo hi st q => rfl
        | _ =>
          show evalC P call d sx e x S _ = Res.bind (Res.bind (evalE P call d sx e x S) _) _
          rw [ihE, Res.assoc']; congr 1; funext u S1
          rw [ihE, Res.assoc']
      | Call fn es kws pos =>
        cases fn with
        | Name f q => exact hC sx e f q es kws pos S _
        | Attribute o m ap =>
          cases kws with
          | nil => exact hM sx e o m ap es pos S _
          | cons _ _ => rfl
        | _ => rfl
      | _ => rfl
end
end Y

/-! Statements from the left; what a def's call is worth. -/
namespace Y
open PySem L2
/-- what follows a statement: it goes on, returns, breaks, continues -/
structure Kn (α : Type) where
  nx : En → So → Res α
  rt : En → W → So → Res α
  bk : En → So → Res α
  ct : En → So → Res α
def kof {α : Type} (K : Kn α) : En × Fl → So → Res α := fun r S => match r.2 with
  | .nx => K.nx r.1 S
  | .ret w => K.rt r.1 w S
  | .brk => K.bk r.1 S
  | .ct => K.ct r.1 S
def evSC {α : Type} (f : Stmt → En → So → Kn α → Res α) : List Stmt → En → So → Kn α → Res α
  | [], e, S, K => K.nx e S
  | x :: xs, e, S, K => f x e S ⟨fun e1 S1 => evSC f xs e1 S1 K, K.rt, K.bk, K.ct⟩
theorem evSC_eq {α : Type} {f : Stmt → En → So → Res (En × Fl)} {g : Stmt → En → So → Kn α → Res α} (h : ∀ x e S K, g x e S K = (f x e S).bind (kof K)) : ∀ (l : List Stmt) (e : En) (S : So) (K : Kn α), evSC g l e S K = (evS f l e S).bind (kof K)
  | [], e, S, K => rfl
  | x :: xs, e, S, K => by
    unfold evSC evS
    rw [h, Res.assoc']
    congr 1; funext r S1
    obtain ⟨e1, fl⟩ := r
    cases fl with
    | nx => exact evSC_eq h xs e1 S1 K
    | ret w => rfl
    | brk => rfl
    | ct => rfl
/-- a block in two pieces -/
theorem evSC_cut {α : Type} {f : Stmt → En → So → Kn α → Res α} : ∀ (n : Nat) {l : List Stmt} {e : En} {S : So} {K : Kn α}, evSC f l e S K = evSC f (l.take n) e S ⟨fun e1 S1 => evSC f (l.drop n) e1 S1 K, K.rt, K.bk, K.ct⟩
  | 0, l, e, S, K => rfl
  | n + 1, [], e, S, K => rfl
  | n + 1, x :: xs, e, S, K => by
    show f x e S _ = f x e S _
    congr 1
    have h : (fun e1 S1 => evSC f xs e1 S1 K) = fun e1 S1 => evSC f (xs.take n) e1 S1 ⟨fun e1 S1 => evSC f (xs.drop n) e1 S1 K, K.rt, K.bk, K.ct⟩ := by
      funext e1 S1
      exact evSC_cut n
    show (⟨fun e1 S1 => evSC f xs e1 S1 K, K.rt, K.bk, K.ct⟩ : Kn α) = ⟨fun e1 S1 => evSC f (xs.take n) e1 S1 ⟨fun e1 S1 => evSC f (xs.drop n) e1 S1 K, K.rt, K.bk, K.ct⟩, K.rt, K.bk, K.ct⟩
    rw [h]
def execC {α : Type} (P : Pg) (call : Cf) : Nat → Sx → Stmt → En → So → Kn α → Res α
  | 0, _, _, _, _, _ => .bad
  | d + 1, sx, x, e, S, K => match x with
    | .Assign [.Subscript o i _] v _ => if isSlice i = true then .bad else evalC P call d sx e v S fun w S1 => evalC P call d sx e o S1 fun u S2 => evalC P call d sx e i S2 fun k S3 => (ofO (setItem u k w S3) S3).bind fun S4 _ => K.nx e S4
    | .Assign [tg] v _ => if swK sx tg v = none ∨ tgOk sx.N tg = false then .bad else evalC P call d sx e v S fun w S1 => (ofO (asg sx e tg w) S1).bind fun e2 S2 => K.nx e2 S2
    | .Expr v _ => if isComp v = true then .bad else evalC P call d sx e v S fun _ S1 => K.nx e S1
    | .Return (some v) _ => evalC P call d sx e v S fun w S1 => K.rt e w S1
    | .Return none _ => K.rt e .non S
    | .If c a b _ => testC P call d sx e c S (fun S1 => evSC (execC P call d sx) a e S1 K) (fun S1 => evSC (execC P call d sx) b e S1 K)
    | .For tg iter body [] _ => walkC (rgF P sx) tg (evalC P call d sx e) iter S fun q S1 => (turns q (forTurn sx tg (evS (execS P call d sx) body)) q.len 0 (e, Fl.nx) S1).bind (kof K)
    | .AugAssign (.Name x _) op v _ => match (if augOk op = true then ownS sx x else none) with
      | none => .bad
      | some i => match slot e i with
        | none => .bad
        | some u => evalC P call d sx e v S fun w S1 => (augI op u w S1).bind fun z S2 => K.nx (e.set i (some z)) S2
    | .Pass _ => K.nx e S
    | .Break _ => K.bk e S
    | .Continue _ => K.ct e S
    | x => (execS P call (d + 1) sx x e S).bind (kof K)
theorem execC_eq {P : Pg} {call : Cf} : ∀ (d : Nat) {α : Type} (sx : Sx) (x : Stmt) (e : En) (S : So) (K : Kn α), execC P call d sx x e S K = (execS P call d sx x e S).bind (kof K)
  | 0, _, _, _, _, _, _ => rfl
  | d + 1, α, sx, x, e, S, K => by
    have hE : ∀ {β : Type} (e : En) (x : Expr) (S : So) (k : W → So → Res β), evalC P call d sx e x S k = (evalE P call d sx e x S).bind k := fun e x S k => (both_eq d).1 sx e x S k
    have hT : ∀ {β : Type} (e : En) (x : Expr) (S : So) (a b : So → Res β), testC P call d sx e x S a b = (evalE P call d sx e x S).bind (tsK a b) := fun e x S a b => (both_eq d).2 sx e x S a b
    have hB : ∀ (l : List Stmt) (e : En) (S : So) (K : Kn α), evSC (execC P call d sx) l e S K = (evS (execS P call d sx) l e S).bind (kof K) := evSC_eq fun x e S K => execC_eq d sx x e S K
    have plain : ∀ (tg v : Expr) (p : Pos), (∀ o i q, tg ≠ .Subscript o i q) → execC P call (d + 1) sx (.Assign [tg] v p) e S K = (execS P call (d + 1) sx (.Assign [tg] v p) e S).bind (kof K) := fun tg v p hn => by
      have e1 : execC P call (d + 1) sx (.Assign [tg] v p) e S K = if swK sx tg v = none ∨ tgOk sx.N tg = false then .bad else evalC P call d sx e v S fun w S1 => (ofO (asg sx e tg w) S1).bind fun e2 S2 => K.nx e2 S2 := by
        cases tg <;> first | rfl | exact absurd rfl (hn _ _ _)
      have e2 : execS P call (d + 1) sx (.Assign [tg] v p) e S = if swK sx tg v = none ∨ tgOk sx.N tg = false then .bad else (evalE P call d sx e v S).bind fun w S1 => (ofO (asg sx e tg w) S1).bind fun e2 S2 => .ok (e2, .nx) S2 := by
        cases tg <;> first | rfl | exact absurd rfl (hn _ _ _)
      rw [e1, e2]
      split
      · rfl
      · rw [hE, Res.assoc']; congr 1; funext w S1
        rw [Res.assoc']; rfl
    cases x with
    | Assign tgs v p =>
      match tgs with
      | [] => rfl
      | t1 :: _ :: _ => cases t1 <;> rfl
      | [tg] =>
        cases tg with
        | Subscript o i q =>
          show (if isSlice i = true then _ else _) = Res.bind (if isSlice i = true then _ else _) _
          split
          · rfl
          · rw [hE, Res.assoc']; congr 1; funext w S1
            rw [hE, Res.assoc']; congr 1; funext u S2
            rw [hE, Res.assoc']; congr 1; funext k S3
            rw [Res.assoc']; rfl
        | _ => exact plain _ v p (fun o i q h => by cases h)
    | Expr v p =>
      show (if isComp v = true then _ else _) = Res.bind (if isComp v = true then _ else _) _
      split
      · rfl
      · rw [hE, Res.assoc']; rfl
    | Return v p =>
      cases v with
      | none => rfl
      | some v =>
        show evalC P call d sx e v S _ = Res.bind (Res.bind _ _) _
        rw [hE, Res.assoc']; rfl
    | If c a b p =>
      show testC P call d sx e c S _ _ = Res.bind (Res.bind _ _) _
      rw [hT, Res.assoc']; congr 1; funext u S1
      unfold tsK
      cases truth u S1 with
      | none => rfl
      | some t =>
        cases t with
        | true => exact hB a e S1 K
        | false => exact hB b e S1 K
    | AugAssign tg op v p =>
      cases tg with
      | Name x q =>
        have e1 : execC P call (d + 1) sx (.AugAssign (.Name x q) op v p) e S K = (match (if augOk op = true then ownS sx x else none) with
          | none => .bad
          | some i => match slot e i with
            | none => .bad
            | some u => evalC P call d sx e v S fun w S1 => (augI op u w S1).bind fun z S2 => K.nx (e.set i (some z)) S2) := rfl
        have e2 : execS P call (d + 1) sx (.AugAssign (.Name x q) op v p) e S = (match (if augOk op = true then ownS sx x else none) with
          | none => .bad
          | some i => match slot e i with
            | none => .bad
            | some u => (evalE P call d sx e v S).bind fun w S1 => (augI op u w S1).bind fun z S2 => .ok (e.set i (some z), .nx) S2) := rfl
        rw [e1, e2]
        cases (if augOk op = true then ownS sx x else none) with
        | none => rfl
        | some i =>
          dsimp only
          cases slot e i with
          | none => rfl
          | some u =>
            dsimp only
            rw [hE, Res.assoc']; congr 1; funext w S1
            rw [Res.assoc']; rfl
      | _ => rfl
    | For tg iter body els p =>
      cases els with
      | cons _ _ => rfl
      | nil =>
        have e1 : execC P call (d + 1) sx (.For tg iter body [] p) e S K = walkC (rgF P sx) tg (evalC P call d sx e) iter S fun q S1 => (turns q (forTurn sx tg (evS (execS P call d sx) body)) q.len 0 (e, Fl.nx) S1).bind (kof K) := rfl
        have e2 : execS P call (d + 1) sx (.For tg iter body [] p) e S = (walkE (rgF P sx) tg (evalE P call d sx e) iter S).bind fun q S1 => turns q (forTurn sx tg (evS (execS P call d sx) body)) q.len 0 (e, Fl.nx) S1 := rfl
        rw [e1, e2, walkC_eq (f := evalE P call d sx e) (fun x S k => hE e x S k), Res.assoc']
    | _ => rfl
/-- a def's body, read from the left -/
theorem bodyN_eq {P : Pg} {call : Cf} {fi : Fi} {vs : List W} {S : So} : bodyN P call fi vs S = evSC (execC P call deepT ⟨fi.N, defScope fi.st, fun _ => true⟩) (defBody fi.st) (vs.map some ++ List.replicate (fi.N.length - vs.length) none) S
    ⟨fun _ S => .ok .non S, fun _ w S => .ok w S, fun _ _ => .bad, fun _ _ => .bad⟩ := by
  rw [evSC_eq (f := execS P call deepT ⟨fi.N, defScope fi.st, fun _ => true⟩) fun x e S K => execC_eq deepT _ x e S K]
  unfold bodyN
  congr 1; funext r S1
  obtain ⟨e1, fl⟩ := r
  cases fl <;> rfl
/-- one turn of a for, read from the left -/
theorem turn_eq {P : Pg} {call : Cf} {d : Nat} {sx : Sx} {tg : Expr} {body : List Stmt} {w : W} {r : En × Fl} {S : So} : forTurn sx tg (evS (execS P call d sx) body) w r S = (ofO (asg sx r.1 tg w) S).bind fun e2 S2 => evSC (execC P call d sx) body e2 S2
    ⟨fun e S => .ok ((e, Fl.nx), true) S, fun e w S => .ok ((e, Fl.ret w), false) S, fun e S => .ok ((e, Fl.nx), false) S, fun e S => .ok ((e, Fl.nx), true) S⟩ := by
  unfold forTurn
  cases asg sx r.1 tg w with
  | none => rfl
  | some e2 =>
    show Res.bind _ _ = evSC _ body e2 S _
    rw [evSC_eq (f := execS P call d sx) fun x e S K => execC_eq d _ x e S K]
    congr 1; funext r S1
    obtain ⟨e1, fl⟩ := r
    cases fl <;> rfl
/-- the tests of a comprehension -/
def ifsC {α : Type} (g : Expr → So → (So → Res α) → (So → Res α) → Res α) : List Expr → So → (So → Res α) → (So → Res α) → Res α
  | [], S, a, _ => a S
  | [c], S, a, b => g c S a b
  | _, _, _, _ => .bad
/-- one turn of a comprehension, read from the left -/
theorem lct_eq {P : Pg} {call : Cf} {d : Nat} {sx : Sx} {e : En} {tg elt : Expr} {ifs : List Expr} {w : W} {acc : List W} {S : So} : lcTurn (evalE P call d sx) sx e tg ifs elt w acc S = (ofO (asg sx e tg w) S).bind fun e2 S2 =>
    ifsC (testC P call d sx e2) ifs S2 (fun S3 => evalC P call d sx e2 elt S3 fun y S4 => if acc.length < sizeLine then .ok (acc ++ [y], true) S4 else .bad) (fun S3 => .ok (acc, true) S3) := by
  unfold lcTurn
  cases asg sx e tg w with
  | none => rfl
  | some e2 =>
    show (ifsE (evalE P call d sx e2) ifs S).bind _ = ifsC _ ifs S _ _
    match ifs with
    | [] =>
      show (evalE P call d sx e2 elt S).bind _ = evalC P call d sx e2 elt S _
      rw [(both_eq d).1]
    | [c] =>
      show Res.bind (Res.bind _ _) _ = testC P call d sx e2 c S _ _
      rw [(both_eq d).2, Res.assoc']
      congr 1; funext u S1
      unfold tsK
      cases truth u S1 with
      | none => rfl
      | some t =>
        cases t with
        | true =>
          show (evalE P call d sx e2 elt S1).bind _ = evalC P call d sx e2 elt S1 _
          rw [(both_eq d).1]
        | false => rfl
    | _ :: _ :: _ => rfl
/-! ### calls -/
theorem callN_plain {P : Pg} {k : Nat} {f : Str} {fi : Fi} {vs : List W} {S : So} (h : P.F f = some fi) (hl : vs.length = fi.ps.length) (hb : fi.bw = false) (hf : fi.fz = false) (he : P.er f = none := by rfl) : callN P (k + 1) f vs S = bodyN P (callN P k) fi vs S := by
  unfold callN
  simp only [h, hl, hb, hf, he, if_true, Bool.false_eq_true, if_false, Option.isSome_none]
theorem callN_fz {P : Pg} {k : Nat} {f : Str} {fi : Fi} {vs : List W} {S : So} (h : P.F f = some fi) (hl : vs.length = fi.ps.length) (hb : fi.bw = false) (hf : fi.fz = true) (he : P.er f = none := by rfl) : callN P (k + 1) f vs S = lockR S.length (bodyN P (callN P k) fi vs S) := by
  unfold callN
  simp only [h, hl, hb, hf, he, if_true, Bool.false_eq_true, if_false, Option.isSome_none]
theorem callN_bw {P : Pg} {k : Nat} {f : Str} {fi : Fi} {vs us : List W} {S : So} (h : P.F f = some fi) (hl : vs.length = fi.ps.length) (hb : fi.bw = true) (hu : lkWs 0 (lkR 0 true S deepS) vs = some us) (he : P.er f = none := by rfl) : callN P (k + 1) f vs S = backR S (lockR 0 (bodyN P (callN P k) fi us [])) := by
  unfold callN
  simp only [h, hl, hb, hu, he, if_true, Bool.false_eq_true, if_false, Option.isSome_none]
/-- an own error made -/
theorem callN_er {P : Pg} {k : Nat} {f : Str} {fi : Fi} {vs : List W} {S : So} (h : P.F f = some fi) (hl : vs.length = fi.ps.length) (he : (P.er f).isSome = true) : callN P (k + 1) f vs S = .ok (.fins false f (fi.ps.zip vs)) S := by
  unfold callN
  simp only [h, hl, he, if_true]
/-! ### the way to a piece of a text -/
def sN (i : Nat) (l : List Stmt) : Stmt := l.getD i (.Pass ⟨0, 0, 0, 0⟩)
def xNo : Expr := .Constant .none 0 ⟨0, 0, 0, 0⟩
/-- a statement's blocks: 0 the first, 1 the other -/
def sBlk (i : Nat) : Stmt → List Stmt
  | .If _ a b _ => if i = 0 then a else b
  | .For _ _ a _ _ => a
  | .While _ a _ _ => a
  | .Try a _ _ _ _ => a
  | _ => []
/-- a statement's expressions -/
def sX (i : Nat) : Stmt → Expr
  | .Assign [tg] v _ => if i = 0 then v else tg
  | .Expr v _ => v
  | .Return (some v) _ => v
  | .If c _ _ _ => c
  | .For tg it _ _ _ => if i = 0 then it else tg
  | .While c _ _ _ => c
  | .AugAssign t _ v _ => if i = 0 then v else t
  | .Raise (some x) _ _ => x
  | _ => xNo
/-- an expression's pieces -/
def xX (i : Nat) : Expr → Expr
  | .BinOp a _ b _ => if i = 0 then a else b
  | .UnaryOp _ a _ => a
  | .BoolOp _ vs _ => vs.getD i xNo
  | .Compare a _ bs _ => if i = 0 then a else bs.getD (i - 1) xNo
  | .IfExp c a b _ => if i = 0 then c else if i = 1 then a else b
  | .Tuple es _ _ => es.getD i xNo
  | .List es _ => es.getD i xNo
  | .Dict ks vs _ => if i % 2 = 0 then ((ks.getD (i / 2) none).getD xNo) else vs.getD (i / 2) xNo
  | .Subscript a b _ => if i = 0 then a else b
  | .Slice lo hi _ _ => if i = 0 then lo.getD xNo else hi.getD xNo
  | .JoinedStr es _ => es.getD i xNo
  | .FormattedValue x _ _ _ => x
  | .Call f es kws _ => if i = 0 then f else if i ≤ es.length then es.getD (i - 1) xNo else (kws[i - 1 - es.length]?).elim xNo (·.value)
  | .Attribute o _ _ => o
  | .Starred x _ => x
  | .ListComp elt gs _ _ => if i = 0 then elt else match gs with
    | g :: _ => if i = 1 then g.iter else if i = 2 then g.target else g.ifs.getD (i - 3) xNo
    | _ => xNo
  | _ => xNo
/-- the turn of a comprehension that stands in the text -/
def lcF (P : Pg) (call : Cf) (d : Nat) (sx : Sx) (e : En) : Expr → W → List W → So → Res (List W × Bool)
  | .ListComp elt [⟨tg, _, ifs, _⟩] scope _ => lcTurn (evalE P call d ⟨sx.N, relS scope sx.sc, fun x => scope.names.lookup x == some .cell⟩) ⟨sx.N, relS scope sx.sc, fun x => scope.names.lookup x == some .cell⟩ (wipeW e ((ownOf sx.N scope).map (·.2))) tg ifs elt
  | _ => fun _ _ _ => .bad
/-- the turn of a for that stands in the text -/
def foF (P : Pg) (call : Cf) (d : Nat) (sx : Sx) : Stmt → W → En × Fl → So → Res ((En × Fl) × Bool)
  | .For tg _ body _ _ => forTurn sx tg (evS (execS P call d sx) body)
  | _ => fun _ _ _ => .bad
/-- the same, from the left -/
def lcC (P : Pg) (call : Cf) (d : Nat) (sx : Sx) (e : En) : Expr → W → List W → So → Res (List W × Bool)
  | .ListComp elt [⟨tg, _, ifs, _⟩] scope _ => fun w acc S => (ofO (asg ⟨sx.N, relS scope sx.sc, fun x => scope.names.lookup x == some .cell⟩ (wipeW e ((ownOf sx.N scope).map (·.2))) tg w) S).bind fun e2 S2 =>
    ifsC (testC P call d ⟨sx.N, relS scope sx.sc, fun x => scope.names.lookup x == some .cell⟩ e2) ifs S2 (fun S3 => evalC P call d ⟨sx.N, relS scope sx.sc, fun x => scope.names.lookup x == some .cell⟩ e2 elt S3 fun y S4 => if acc.length < sizeLine then .ok (acc ++ [y], true) S4 else .bad) (fun S3 => .ok (acc, true) S3)
  | _ => fun _ _ _ => .bad
def foC (P : Pg) (call : Cf) (d : Nat) (sx : Sx) : Stmt → W → En × Fl → So → Res ((En × Fl) × Bool)
  | .For tg _ body _ _ => fun w r S => (ofO (asg sx r.1 tg w) S).bind fun e2 S2 => evSC (execC P call d sx) body e2 S2
    ⟨fun e S => .ok ((e, Fl.nx), true) S, fun e w S => .ok ((e, Fl.ret w), false) S, fun e S => .ok ((e, Fl.nx), false) S, fun e S => .ok ((e, Fl.nx), true) S⟩
  | _ => fun _ _ _ => .bad
theorem lcF_eq {P : Pg} {call : Cf} {d : Nat} {sx : Sx} {e : En} {x : Expr} {w : W} {acc : List W} {S : So} : lcF P call d sx e x w acc S = lcC P call d sx e x w acc S := by
  unfold lcF lcC
  split
  · exact lct_eq
  · rfl
theorem foF_eq {P : Pg} {call : Cf} {d : Nat} {sx : Sx} {x : Stmt} {w : W} {r : En × Fl} {S : So} : foF P call d sx x w r S = foC P call d sx x w r S := by
  unfold foF foC
  split
  · exact turn_eq
  · rfl
/-- the test of a while that stands in the text, its body -/
def whT (P : Pg) (call : Cf) (d : Nat) (sx : Sx) : Stmt → En → So → Res Bool
  | .While c _ _ _ => fun e S => (evalE P call d sx e c S).bind fun u S1 => ofO (truth u S1) S1
  | _ => fun _ _ => .bad
def whB (P : Pg) (call : Cf) (d : Nat) (sx : Sx) : Stmt → En → So → Res (En × Fl)
  | .While _ body _ _ => fun e S => evS (execS P call d sx) body e S
  | _ => fun _ _ => .bad
def whTC (P : Pg) (call : Cf) (d : Nat) (sx : Sx) : Stmt → En → So → Res Bool
  | .While c _ _ _ => fun e S => testC P call d sx e c S (fun S1 => .ok true S1) (fun S1 => .ok false S1)
  | _ => fun _ _ => .bad
def whBC (P : Pg) (call : Cf) (d : Nat) (sx : Sx) : Stmt → En → So → Res (En × Fl)
  | .While _ body _ _ => fun e S => evSC (execC P call d sx) body e S ⟨fun e S => .ok (e, Fl.nx) S, fun e w S => .ok (e, Fl.ret w) S, fun e S => .ok (e, Fl.brk) S, fun e S => .ok (e, Fl.ct) S⟩
  | _ => fun _ _ => .bad
theorem whT_eq {P : Pg} {call : Cf} {d : Nat} {sx : Sx} {x : Stmt} {e : En} {S : So} : whT P call d sx x e S = whTC P call d sx x e S := by
  cases x with
  | While c body els p =>
    show (evalE P call d sx e c S).bind _ = testC P call d sx e c S _ _
    rw [(both_eq d).2]
    congr 1; funext u S1
    unfold tsK
    cases truth u S1 with
    | none => rfl
    | some t => cases t <;> rfl
  | _ => rfl
theorem whB_eq {P : Pg} {call : Cf} {d : Nat} {sx : Sx} {x : Stmt} {e : En} {S : So} : whB P call d sx x e S = whBC P call d sx x e S := by
  cases x with
  | While c body els p =>
    show evS (execS P call d sx) body e S = evSC (execC P call d sx) body e S _
    rw [evSC_eq (f := execS P call d sx) fun x e S K => execC_eq d sx x e S K]
    cases evS (execS P call d sx) body e S with
    | bad => rfl
    | exn _ _ => rfl
    | ok r S1 =>
      obtain ⟨e1, fl⟩ := r
      cases fl <;> rfl
  | _ => rfl
def isFor : Stmt → Bool
  | .For _ _ _ _ _ => true
  | _ => false
/-- a turn, once its target is stored -/
theorem foF_asg {P : Pg} {call : Cf} {d : Nat} {sx : Sx} {x : Stmt} {w : W} {r : En × Fl} {S : So} {e2 : En} (hx : isFor x = true) (h : asg sx r.1 (sX 1 x) w = some e2) : foF P call d sx x w r S = evSC (execC P call d sx) (sBlk 0 x) e2 S
    ⟨fun e S => .ok ((e, Fl.nx), true) S, fun e w S => .ok ((e, Fl.ret w), false) S, fun e S => .ok ((e, Fl.nx), false) S, fun e S => .ok ((e, Fl.nx), true) S⟩ := by
  cases x with
  | For tg it body els p =>
    have h : asg sx r.1 tg w = some e2 := h
    rw [foF_eq]
    show (ofO (asg sx r.1 tg w) S).bind _ = _
    rw [h]
    rfl
  | _ => cases hx
def sxF (fi : Fi) : Sx := ⟨fi.N, defScope fi.st, fun _ => true⟩
end Y

namespace Y
open PySem L2
/-- a slot alone -/
def sl1 (o : Option W) : Option W := slot [o] 0
/-- where a comprehension's pieces stand -/
def sxL (sx : Sx) : Expr → Sx
  | .ListComp _ _ scope _ => ⟨sx.N, relS scope sx.sc, fun x => scope.names.lookup x == some .cell⟩
  | _ => sx
end Y

/-! Rules for reading on: one construct a lemma. -/
namespace Y
open PySem L2
/-- the answer is there, and Q holds of it -/
def Yes {α : Type} (r : Res α) (Q : α → So → Prop) : Prop := ∃ a S, r = .ok a S ∧ Q a S
section
variable {α β : Type}
theorem yes_bind {r : Res α} {g : α → So → Res β} {R : α → So → Prop} {Q : β → So → Prop} (h : Yes r R) (k : ∀ a S, R a S → Yes (g a S) Q) : Yes (r.bind g) Q := by
  obtain ⟨a, S, rfl, q⟩ := h
  exact k a S q
theorem yes_ok {a : α} {S : So} {Q : α → So → Prop} (h : Q a S) : Yes (.ok a S) Q := ⟨a, S, rfl, h⟩
theorem yes_imp {r : Res α} {R Q : α → So → Prop} (h : Yes r R) (k : ∀ a S, R a S → Q a S) : Yes r Q := by
  obtain ⟨a, S, e, q⟩ := h
  exact ⟨a, S, e, k a S q⟩
theorem yes_eq {r : Res α} {a : α} {S : So} (h : Yes r fun x T => x = a ∧ T = S) : r = .ok a S := by
  obtain ⟨x, T, e, rfl, rfl⟩ := h; exact e
theorem of_eq {r : Res α} {a : α} {S : So} {Q : α → So → Prop} (h : r = .ok a S) (q : Q a S) : Yes r Q := ⟨a, S, h, q⟩
theorem bOk {a : α} {S : So} {f : α → So → Res β} : (Res.ok a S).bind f = f a S := rfl
theorem oOk {a : α} {S : So} : ofO (some a) S = .ok a S := rfl
theorem kNx {K : Kn α} {e : En} {S : So} : kof K (e, Fl.nx) S = K.nx e S := rfl
theorem kRt {K : Kn α} {e : En} {w : W} {S : So} : kof K (e, Fl.ret w) S = K.rt e w S := rfl
theorem kBk {K : Kn α} {e : En} {S : So} : kof K (e, Fl.brk) S = K.bk e S := rfl
theorem kCt {K : Kn α} {e : En} {S : So} : kof K (e, Fl.ct) S = K.ct e S := rfl
theorem iI_i {i : Int} {f : Int → Res α} : iI (.int i) f = f i := rfl
end
theorem sl1_s {w : W} : sl1 (some w) = some w := rfl
theorem sl0 {w : W} {r : En} : slot (some w :: r) 0 = some w := rfl
theorem slS {a : Option W} {r : En} {i : Nat} : slot (a :: r) (i + 1) = slot r i := by
  unfold slot; rw [List.getElem?_cons_succ]
section
variable {S : So} {m : Bool}
theorem tr_bl {b : Bool} : truth (.bl b) S = some b := rfl
theorem tr_non : truth .non S = some false := rfl
theorem tr_tup {xs : List W} : truth (.tup xs) S = some (!xs.isEmpty) := rfl
theorem tr_fl {t : Bool} {xs : List W} : truth (.fl t xs) S = some (!xs.isEmpty) := rfl
theorem tr_fd {t : Bool} {xs : List (Kd × W)} : truth (.fd t xs) S = some (!xs.isEmpty) := rfl
theorem tr_int {i : Int} : truth (.int i) S = some (i != 0) := rfl
theorem c_eqI {i j : Int} : cmp .Eq (.int i) (.int j) S = some (decide (i = j)) := rfl
theorem c_neI {i j : Int} : cmp .NotEq (.int i) (.int j) S = some (!decide (i = j)) := rfl
theorem c_ltI {i j : Int} : cmp .Lt (.int i) (.int j) S = some (decide (i < j)) := rfl
theorem c_leI {i j : Int} : cmp .LtE (.int i) (.int j) S = some (decide (i ≤ j)) := rfl
theorem c_gtI {i j : Int} : cmp .Gt (.int i) (.int j) S = some (decide (j < i)) := rfl
theorem c_geI {i j : Int} : cmp .GtE (.int i) (.int j) S = some (decide (j ≤ i)) := rfl
theorem c_eqS {x y : Str} : cmp .Eq (.str x) (.str y) S = some (decide (x = y)) := rfl
theorem c_neS {x y : Str} : cmp .NotEq (.str x) (.str y) S = some (!decide (x = y)) := rfl
theorem b_addI {i j : Int} : binop m .Add (.int i) (.int j) S = .ok (.int (i + j)) S := rfl
theorem b_subI {i j : Int} : binop m .Sub (.int i) (.int j) S = .ok (.int (i - j)) S := rfl
theorem b_mod {i j : Int} (h : 0 < j) : binop m .Mod (.int i) (.int j) S = .ok (.int (i % j)) S := if_pos h
theorem b_div {i j : Int} (h : 0 < j ∧ j < 1073741824) : binop m .FloorDiv (.int i) (.int j) S = .ok (.int (i / j)) S := if_pos h
theorem b_mul {i j : Int} (h : Builtin.Int.intBits i + Builtin.Int.intBits j ≤ 134217728) : binop m .Mult (.int i) (.int j) S = .ok (.int (i * j)) S := if_pos h
theorem b_pow {i j : Int} (h : 0 ≤ j ∧ (Builtin.Int.intBits i : Int) * j ≤ 134217728) : binop m .Pow (.int i) (.int j) S = .ok (.int (i ^ j.toNat)) S := if_pos h
theorem b_addS {x y : Str} (h : x.length + y.length ≤ sizeLine) : binop m .Add (.str x) (.str y) S = .ok (.str (x ++ y)) S := if_pos h
theorem b_addT {x y : List W} (h : x.length + y.length ≤ sizeLine) : binop m .Add (.tup x) (.tup y) S = .ok (.tup (x ++ y)) S := if_pos h
theorem b_addF {s t : Bool} {x y : List W} (h : x.length + y.length ≤ sizeLine) : binop false .Add (.fl s x) (.fl t y) S = .ok (.fl false (x ++ y)) S := if_pos h
theorem vb_intI {i : Int} : builtin m "int" [.int i] S = .ok (.int i) S := rfl
theorem vb_intB {b : Bool} : builtin m "int" [.bl b] S = .ok (.int (if b then 1 else 0)) S := rfl
theorem vb_max {i j : Int} : builtin m "max" [.int i, .int j] S = .ok (.int (if j > i then j else i)) S := rfl
theorem vb_min {i j : Int} : builtin m "min" [.int i, .int j] S = .ok (.int (if j < i then j else i)) S := rfl
theorem len_tup {xs : List W} : builtin m "len" [.tup xs] S = .ok (.int xs.length) S := rfl
theorem len_fl {t : Bool} {xs : List W} : builtin m "len" [.fl t xs] S = .ok (.int xs.length) S := rfl
theorem len_str {z : Str} (h : z.length ≤ sizeLine) : builtin m "len" [.str z] S = .ok (.int z.length) S := if_pos h
theorem vb_listT {xs : List W} : builtin false "list" [.tup xs] S = .ok (.fl false xs) S := rfl
theorem vb_listF {t : Bool} {xs : List W} : builtin false "list" [.fl t xs] S = .ok (.fl false xs) S := rfl
theorem vb_tupT {xs : List W} : builtin m "tuple" [.tup xs] S = .ok (.tup xs) S := rfl
theorem vb_tupF {t : Bool} {xs : List W} : builtin m "tuple" [.fl t xs] S = .ok (.tup xs) S := rfl
theorem vw_tup {xs : List W} : walkV (.tup xs) S = .ok (.seq xs) S := rfl
theorem vw_fl {t : Bool} {xs : List W} : walkV (.fl t xs) S = .ok (.seq xs) S := rfl
/-- a sign as a text -/
def one (c : Nat) : Str := ⟨#[c]⟩
theorem vw_str {z : Str} : walkV (.str z) S = .ok (.seq (z.cps.toList.map fun c => W.str (one c))) S := rfl
theorem vs_tup {xs : List W} {lo hi : Option Int} : slice m (.tup xs) lo hi S = .ok (.tup (cutW xs lo hi)) S := rfl
theorem vs_fl {t : Bool} {xs : List W} {lo hi : Option Int} : slice false (.fl t xs) lo hi S = .ok (.fl false (cutW xs lo hi)) S := rfl
theorem it_tup {xs : List W} {i : Int} : item (.tup xs) (.int i) S = L2.atI xs i := rfl
theorem it_fl {t : Bool} {xs : List W} {i : Int} : item (.fl t xs) (.int i) S = L2.atI xs i := rfl
theorem atI_ok {ws : List W} {i : Int} {w : W} (h0 : 0 ≤ i) (h : ws[i.toNat]? = some w) : L2.atI ws i = some w := by
  have hl := (List.getElem?_eq_some_iff.mp h).1
  unfold L2.atI L2.ixN
  rw [if_pos h0, if_pos (by omega)]
  exact h
theorem at0 {x : W} {r : List W} : L2.atI (x :: r) 0 = some x := atI_ok (by decide) rfl
theorem at1 {x y : W} {r : List W} : L2.atI (x :: y :: r) 1 = some y := atI_ok (by decide) rfl
theorem at2 {x y z : W} {r : List W} : L2.atI (x :: y :: z :: r) 2 = some z := atI_ok (by decide) rfl
end
theorem bits_ltI {x : Int} {n : Nat} (h0 : 0 ≤ x) (h : x < 2 ^ n) : Builtin.Int.intBits x ≤ n := by
  rw [intBits_le_iff]
  have e : ((x.natAbs : Nat) : Int) = x := Int.natAbs_of_nonneg h0
  have e2 : (((2 : Nat) ^ n : Nat) : Int) = (2 : Int) ^ n := by simp
  omega
/-! loops -/
theorem turns_seq {α : Type} {ws : List W} {f : W → α → So → Res (α × Bool)} {Inv : Nat → α → So → Prop} (step : ∀ j a S w, ws[j]? = some w → Inv j a S → Yes (f w a S) fun r S' => r.2 = true ∧ Inv (j + 1) r.1 S') : ∀ (n j : Nat) (a : α) (S : So), j + n = ws.length → Inv j a S → Yes (turns (.seq ws) f n j a S) (Inv ws.length)
  | 0, j, a, S, h, q => by
    have e : ws[j]? = none := by rw [List.getElem?_eq_none_iff]; omega
    have hj : j = ws.length := by omega
    unfold turns Wk.at
    simp only [e]
    exact yes_ok (by rw [← hj]; exact q)
  | n + 1, j, a, S, h, q => by
    have hj : j < ws.length := by omega
    have e : ws[j]? = some ws[j] := List.getElem?_eq_getElem hj
    unfold turns Wk.at
    simp only [e]
    refine yes_bind (step j a S _ e q) fun r S' ⟨h1, h2⟩ => ?_
    rw [h1]
    exact turns_seq step n (j + 1) r.1 S' (by omega) h2
/-- a walk over what is written down: an invariant -/
theorem yes_turns {α β : Type} {ws : List W} {f : W → α → So → Res (α × Bool)} {a : α} {S : So} {g : α → So → Res β} {Q : β → So → Prop} (Inv : Nat → α → So → Prop) (h0 : Inv 0 a S) (step : ∀ j a S w, ws[j]? = some w → Inv j a S → Yes (f w a S) fun r S' => r.2 = true ∧ Inv (j + 1) r.1 S') (k : ∀ a S, Inv ws.length a S → Yes (g a S) Q) :
    Yes ((turns (.seq ws) f (Wk.seq ws).len 0 a S).bind g) Q :=
  yes_bind (turns_seq step ws.length 0 a S (by simp) h0) k
theorem noX_ok {α : Type} {r : Res α} {Q : α → So → Prop} (h : Yes r Q) : Yes (noX r) Q := by
  obtain ⟨a, S, rfl, q⟩ := h
  exact ⟨a, S, rfl, q⟩
/-- a comprehension: an invariant over what the list has so far -/
theorem yes_lc {β : Type} {ws : List W} {f : W → List W → So → Res (List W × Bool)} {S : So} {g : List W → So → Res β} {Q : β → So → Prop} (Inv : Nat → List W → So → Prop) (h0 : Inv 0 [] S) (step : ∀ j a S w, ws[j]? = some w → Inv j a S → Yes (f w a S) fun r S' => r.2 = true ∧ Inv (j + 1) r.1 S') (k : ∀ a S, Inv ws.length a S → Yes (g a S) Q) :
    Yes ((noX (turns (.seq ws) f (Wk.seq ws).len 0 [] S)).bind g) Q :=
  yes_bind (noX_ok (turns_seq step ws.length 0 [] S (by simp) h0)) k
/-- a comprehension whose turns leave the store as it is: fm w: what the turn with w puts in -/
theorem lc_pure {ws : List W} {f : W → List W → So → Res (List W × Bool)} {S : So} (fm : W → List W) (step : ∀ w ∈ ws, ∀ acc : List W, acc.length ≤ (ws.flatMap fm).length → f w acc S = .ok (acc ++ fm w, true) S) : noX (turns (.seq ws) f (Wk.seq ws).len 0 [] S) = .ok (ws.flatMap fm) S := by
  have core : Yes (turns (.seq ws) f (Wk.seq ws).len 0 [] S) fun a T => a = (ws.take ws.length).flatMap fm ∧ T = S := by
    refine turns_seq (Inv := fun j a T => a = (ws.take j).flatMap fm ∧ T = S) (fun j a T w hw ⟨e1, e2⟩ => ?_) ws.length 0 [] S (by simp) ⟨by simp, rfl⟩
    subst e1 e2
    have hm := List.mem_of_getElem? hw
    have hl : ((ws.take j).flatMap fm).length ≤ (ws.flatMap fm).length := by
      rw [List.length_flatMap, List.length_flatMap, List.map_take]
      have h0 : (ws.map fun x => (fm x).length) = (ws.map fun x => (fm x).length).take j ++ (ws.map fun x => (fm x).length).drop j := (List.take_append_drop j _).symm
      have := congrArg List.sum h0
      rw [List.sum_append_nat] at this
      omega
    refine ⟨_, _, step w hm _ hl, rfl, ?_, rfl⟩
    rw [List.take_add_one, hw]
    simp
  obtain ⟨a, T, e, e1, e2⟩ := core
  rw [e, e1, e2, List.take_length]
  rfl
theorem rg_at {n j : Nat} {lo : Int} {w : W} (h : (rangeW lo n)[j]? = some w) : w = .int (lo + (j : Int)) ∧ j < n := by
  unfold rangeW at h
  rw [List.getElem?_map] at h
  obtain ⟨c, e1, e2⟩ := Option.map_eq_some_iff.mp h
  obtain ⟨hl, e3⟩ := List.getElem?_eq_some_iff.mp e1
  rw [List.getElem_range] at e3
  rw [List.length_range] at hl
  subst e3
  exact ⟨e2.symm, hl⟩
theorem rg_len {lo : Int} {n : Nat} : (rangeW lo n).length = n := by unfold rangeW; simp
theorem rgC1 {α : Type} {j : Int} {k : Wk → Res α} (h : -(2 ^ 62) ≤ j ∧ j < 2 ^ 62) : rgC [.int j] k = k (.seq (rangeW 0 j.toNat)) := if_pos h
theorem rgC2 {α : Type} {i j : Int} {k : Wk → Res α} (h : (-(2 ^ 62) ≤ i ∧ i < 2 ^ 62) ∧ -(2 ^ 62) ≤ j ∧ j < 2 ^ 62) : rgC [.int i, .int j] k = k (.seq (rangeW i (j - i).toNat)) := if_pos h
/-- a while: m falls at each turn -/
theorem yes_while {c : En → So → Res Bool} {f : En → So → Res (En × Fl)} {Q : En × Fl → So → Prop} (Inv : Nat → En → So → Prop)
    (step : ∀ m e S, Inv m e S → Yes (c e S) fun b S1 => if b = true then Yes (f e S1) fun r S2 => (r.2 = .nx ∨ r.2 = .ct) ∧ ∃ m', m' < m ∧ Inv m' r.1 S2 else Q (e, .nx) S1) : ∀ (n m : Nat) (e : En) (S : So), Inv m e S → m < n → Yes (whileE c f n e S) Q
  | 0, m, e, S, _, h => absurd h (Nat.not_lt_zero _)
  | n + 1, m, e, S, hi, h => by
    show Yes ((c e S).bind _) Q
    refine yes_bind (step m e S hi) fun b S1 hb => ?_
    cases b with
    | false => exact yes_ok (by simpa using hb)
    | true =>
      rw [if_pos rfl] at hb
      refine yes_bind hb fun r S2 ⟨q1, m', q2, q3⟩ => ?_
      obtain ⟨e1, fl⟩ := r
      have go := yes_while Inv step n m' e1 S2 q3 (by omega)
      rcases q1 with q1 | q1
      · have q1 : fl = .nx := q1
        subst q1; exact go
      · have q1 : fl = .ct := q1
        subst q1; exact go
/-! isinstance of data -/
def isStr : W → Bool
  | .str _ => true
  | _ => false
def isTup : W → Bool
  | .tup _ => true
  | _ => false
def isLst : W → Bool
  | .fl _ _ => true
  | _ => false
def isDct : W → Bool
  | .fd _ _ => true
  | _ => false
/-- a value of data: no thing of the store, no class, no instance -/
def top1 : W → Bool
  | .non => true
  | .bl _ => true
  | .int _ => true
  | .str _ => true
  | .tup _ => true
  | .fl _ _ => true
  | .fd _ _ => true
  | _ => false
theorem isi_str {w : W} {S : So} {m : Bool} (h : top1 w = true) : builtin m "isinstance" [w, .ty "str"] S = .ok (.bl (isStr w)) S := by
  cases w <;> first | rfl | cases h
theorem isi_tup {w : W} {S : So} {m : Bool} (h : top1 w = true) : builtin m "isinstance" [w, .ty "tuple"] S = .ok (.bl (isTup w)) S := by
  cases w <;> first | rfl | cases h
theorem isi_lst {w : W} {S : So} {m : Bool} (h : top1 w = true) : builtin m "isinstance" [w, .ty "list"] S = .ok (.bl (isLst w)) S := by
  cases w <;> first | rfl | cases h
theorem isi_dct {w : W} {S : So} {m : Bool} (h : top1 w = true) : builtin m "isinstance" [w, .ty "dict"] S = .ok (.bl (isDct w)) S := by
  cases w <;> first | rfl | cases h
theorem isi_s {z : Str} {S : So} {m : Bool} : builtin m "isinstance" [.str z, .ty "str"] S = .ok (.bl true) S := rfl
theorem isi_t {z : List W} {S : So} {m : Bool} : builtin m "isinstance" [.tup z, .ty "tuple"] S = .ok (.bl true) S := rfl
theorem bls_map : ∀ l : List Bool, blsOf (l.map W.bl) = some l
  | [] => rfl
  | b :: r => by
    show (blsOf (r.map W.bl)).map (b :: ·) = _
    rw [bls_map r]; rfl
theorem all_fl {l : List Bool} {t : Bool} {S : So} {m : Bool} : builtin m "all" [.fl t (l.map W.bl)] S = .ok (.bl (l.all id)) S := by
  show (match blsOf (l.map W.bl) with | some bs => Res.ok (W.bl (bs.all id)) S | none => Res.bad) = _
  rw [bls_map]
theorem any_fl {l : List Bool} {t : Bool} {S : So} {m : Bool} : builtin m "any" [.fl t (l.map W.bl)] S = .ok (.bl (l.any id)) S := by
  show (match blsOf (l.map W.bl) with | some bs => Res.ok (W.bl (bs.any id)) S | none => Res.bad) = _
  rw [bls_map]
/-! one sign against a text of one sign -/
theorem lt_one {a b : Nat} : decide ((one a).cps.toList < (one b).cps.toList) = decide (a < b) := by
  have : ((one a).cps.toList < (one b).cps.toList) ↔ a < b := by
    show ([a] < [b]) ↔ _
    rw [List.cons_lt_cons_iff]
    constructor
    · rintro (h | ⟨rfl, h⟩)
      · exact h
      · exact absurd h (List.not_lt_nil _)
    · exact .inl
  simp [this]
theorem c_le1 {a b : Nat} {S : So} : cmp .LtE (.str (one a)) (.str (one b)) S = some (decide (a ≤ b)) := by
  show some (!decide ((one b).cps.toList < (one a).cps.toList)) = _
  rw [lt_one]
  congr 1
  by_cases h : a ≤ b <;> simp [h] <;> omega
end Y

/-! Data: what is read of it, its repr, its equality. -/
namespace Y
open PySem L2
section
variable {f g : Nat → Option PyData}
mutual
theorem dW_le (h : ∀ i d, f i = some d → g i = some d) : ∀ (w : W) (d : PyData), dW f w = some d → dW g w = some d
  | .non, _, e => by unfold dW at e ⊢; exact e
  | .bl _, _, e => by unfold dW at e ⊢; exact e
  | .int _, _, e => by unfold dW at e ⊢; exact e
  | .str _, _, e => by unfold dW at e ⊢; exact e
  | .ty _, _, e => by unfold dW at e; cases e
  | .glo _, _, e => by unfold dW at e; cases e
  | .fins _ _ _, _, e => by unfold dW at e; cases e
  | .fdn _ _, _, e => by unfold dW at e; cases e
  | .ref i, _, e => by unfold dW at e ⊢; exact h _ _ e
  | .tup xs, _, e => by
    unfold dW at e ⊢
    obtain ⟨ds, e1, rfl⟩ := Option.map_eq_some_iff.mp e
    rw [dWs_le h xs ds e1]; rfl
  | .fl _ xs, _, e => by
    unfold dW at e ⊢
    obtain ⟨ds, e1, rfl⟩ := Option.map_eq_some_iff.mp e
    rw [dWs_le h xs ds e1]; rfl
  | .fd _ xs, _, e => by
    unfold dW at e ⊢
    obtain ⟨ds, e1, rfl⟩ := Option.map_eq_some_iff.mp e
    rw [dKvs_le h xs ds e1]; rfl
theorem dWs_le (h : ∀ i d, f i = some d → g i = some d) : ∀ (w : List W) (d : List PyData), dWs f w = some d → dWs g w = some d
  | [], _, e => by unfold dWs at e ⊢; exact e
  | x :: xs, _, e => by
    unfold dWs at e ⊢
    split at e
    · cases e
    · rename_i d hd
      split at e
      · cases e
      · rename_i ds hds
        cases e
        rw [dW_le h x d hd, dWs_le h xs ds hds]
theorem dKvs_le (h : ∀ i d, f i = some d → g i = some d) : ∀ (w : List (Kd × W)) (d : List (PyData × PyData)), dKvs f w = some d → dKvs g w = some d
  | [], _, e => by unfold dKvs at e ⊢; exact e
  | (k, x) :: xs, _, e => by
    unfold dKvs at e ⊢
    split at e
    · cases e
    · rename_i d hd
      split at e
      · cases e
      · rename_i ds hds
        cases e
        rw [dW_le h x d hd, dKvs_le h xs ds hds]
end
end
/-- what is read of a value that is no thing of the store -/
def dt (w : W) : Option PyData := dW (fun _ => none) w
theorem toD_dt {w : W} {d : PyData} {S : So} (h : dt w = some d) : toD S w = some d := dW_le (fun i d e => by cases e) w d h
theorem dt_str {z : Str} : dt (.str z) = some (.str z) := rfl
/-- repr may be asked -/
def reOk (d : PyData) : Bool := d.showable && decide (d.shown.length ≤ sizeLine) && decide (d.depth ≤ 150)
theorem vb_repr {w : W} {d : PyData} {S : So} {m : Bool} (h : dt w = some d) (hr : reOk d = true) : builtin m "repr" [w] S = .ok (.str d.shown) S := by
  show (match toD S w with | some d => if (d.showable && decide (d.shown.length ≤ sizeLine) && decide (d.depth ≤ 150)) = true then Res.ok (W.str d.shown) S else Res.bad | none => Res.bad) = _
  rw [toD_dt h]
  exact if_pos hr
theorem reOk_of {d : PyData} (h1 : d.showable = true) (h2 : d.depth ≤ 150) (h3 : d.leavesShort 8 = true) (h4 : d.weight ≤ 2 ^ 20) : reOk d = true := by
  unfold reOk
  rw [h1, decide_eq_true (PyData.shown_fits (B := 8) (by decide) (by decide) h3 h4), decide_eq_true h2]
  rfl
/-! small data -/
def fitS (z : Str) : Bool := decide (z.length ≤ 40) && z.cps.toList.all fun c => decide (c < 128)
def fit : Nat → W → Bool
  | _, .non => true
  | _, .bl _ => true
  | _, .int i => decide (0 ≤ i) && decide (i ≤ 100)
  | _, .str z => fitS z
  | n + 1, .tup xs => decide (xs.length ≤ 10) && xs.all (fit n)
  | n + 1, .fl _ xs => decide (xs.length ≤ 10) && xs.all (fit n)
  | _ + 1, .fd _ kvs => kvs.isEmpty
  | _, _ => false
theorem int_short : ∀ n : Nat, n ≤ 100 → PyData.leavesShort 8 (.int n) = true ∧ PyData.showable (.int n) = true ∧ PyData.weight (.int n) ≤ 40 := by
  intro n hn
  have h : ∀ m ∈ List.range 101, PyData.leavesShort 8 (.int m) = true ∧ PyData.showable (.int m) = true ∧ PyData.weight (.int m) ≤ 40 := by decide +kernel
  exact h n (List.mem_range.mpr (by omega))
/-- what is known of small data -/
structure Sm (n : Nat) (d : PyData) : Prop where
  sh : d.showable = true
  dp : d.depth ≤ n
  sl : d.leavesShort 8 = true
  wt : d.weight ≤ 40 * 11 ^ n
theorem p41 (n : Nat) : 1 ≤ 11 ^ n := Nat.one_le_pow _ _ (by decide)
theorem fit_str {z : Str} (h : fitS z = true) (n : Nat) : Sm n (.str z) := by
  unfold fitS at h
  rw [Bool.and_eq_true] at h
  refine ⟨rfl, Nat.zero_le _, ?_, ?_⟩
  · show (z.cps.toList.all fun c => decide (c < 16 ^ 8)) = true
    rw [List.all_eq_true]
    intro c hc
    have := of_decide_eq_true (List.all_eq_true.mp h.2 c hc)
    have e : (16 : Nat) ^ 8 = 4294967296 := by decide
    rw [e]
    exact decide_eq_true (by omega)
  · show z.cps.size ≤ _
    have : z.length ≤ 40 := of_decide_eq_true h.1
    have e : z.cps.size = z.length := rfl
    have := p41 n
    rw [e]
    calc z.length ≤ 40 * 1 := by omega
      _ ≤ 40 * 11 ^ n := Nat.mul_le_mul_left _ this
theorem fits_ok (n : Nat) (ih : ∀ w, fit n w = true → ∃ d, dt w = some d ∧ Sm n d) : ∀ xs : List W, xs.all (fit n) = true → ∃ ds, dWs (fun _ => none) xs = some ds ∧ ds.length = xs.length ∧ PyData.showableAll ds = true ∧ PyData.depthAll ds ≤ n ∧ PyData.leavesShortAll 8 ds = true ∧ PyData.weightAll ds ≤ xs.length * (40 * 11 ^ n + 1)
  | [], _ => ⟨[], rfl, rfl, rfl, Nat.zero_le _, rfl, Nat.zero_le _⟩
  | x :: xs, h => by
    rw [List.all_cons, Bool.and_eq_true] at h
    obtain ⟨d, e, s⟩ := ih x h.1
    obtain ⟨ds, e1, l1, a1, a2, a3, a4⟩ := fits_ok n ih xs h.2
    refine ⟨d :: ds, ?_, by simp [l1], ?_, ?_, ?_, ?_⟩
    · unfold dWs
      rw [show dW (fun _ => none) x = some d from e, e1]
    · show (d.showable && PyData.showableAll ds) = true
      rw [s.sh, a1]; rfl
    · show max d.depth (PyData.depthAll ds) ≤ n
      exact Nat.max_le.mpr ⟨s.dp, a2⟩
    · show (d.leavesShort 8 && PyData.leavesShortAll 8 ds) = true
      rw [s.sl, a3]; rfl
    · show d.weight + 1 + PyData.weightAll ds ≤ _
      have := s.wt
      rw [List.length_cons, Nat.add_mul]
      omega
theorem fit_ok : ∀ (n : Nat) (w : W), fit n w = true → ∃ d, dt w = some d ∧ Sm n d
  | n, .non, _ => ⟨_, rfl, rfl, Nat.zero_le _, rfl, Nat.zero_le _⟩
  | n, .bl _, _ => ⟨_, rfl, rfl, Nat.zero_le _, rfl, Nat.zero_le _⟩
  | n, .int i, h => by
    have h' : (decide (0 ≤ i) && decide (i ≤ 100)) = true := by cases n <;> exact h
    rw [Bool.and_eq_true] at h'
    have h0 := of_decide_eq_true h'.1
    have h1 := of_decide_eq_true h'.2
    obtain ⟨m, rfl⟩ := Int.eq_ofNat_of_zero_le h0
    obtain ⟨a, b, c⟩ := int_short m (by omega)
    refine ⟨_, rfl, b, Nat.zero_le _, a, Nat.le_trans c ?_⟩
    have := p41 n
    calc 40 = 40 * 1 := rfl
      _ ≤ 40 * 11 ^ n := Nat.mul_le_mul_left _ this
  | n, .str z, h => ⟨_, rfl, fit_str (by cases n <;> exact h) n⟩
  | n + 1, .tup xs, h => by
    have h' : (decide (xs.length ≤ 10) && xs.all (fit n)) = true := h
    rw [Bool.and_eq_true] at h'
    obtain ⟨ds, e1, l1, a1, a2, a3, a4⟩ := fits_ok n (fit_ok n) xs h'.2
    refine ⟨.tuple ds, ?_, a1, Nat.succ_le_succ a2, a3, ?_⟩
    · show (dWs _ xs).map _ = _
      rw [e1]; rfl
    · have hl : xs.length ≤ 10 := of_decide_eq_true h'.1
      have h2 : xs.length * (40 * 11 ^ n + 1) ≤ 10 * (40 * 11 ^ n + 1) := Nat.mul_le_mul_right _ hl
      have := p41 n
      have e : (11 : Nat) ^ (n + 1) = 11 * 11 ^ n := by rw [Nat.pow_succ, Nat.mul_comm]
      show PyData.weightAll ds ≤ _
      rw [e]
      omega
  | n + 1, .fl _ xs, h => by
    have h' : (decide (xs.length ≤ 10) && xs.all (fit n)) = true := h
    rw [Bool.and_eq_true] at h'
    obtain ⟨ds, e1, l1, a1, a2, a3, a4⟩ := fits_ok n (fit_ok n) xs h'.2
    refine ⟨.list ds, ?_, a1, Nat.succ_le_succ a2, a3, ?_⟩
    · show (dWs _ xs).map _ = _
      rw [e1]; rfl
    · have hl : xs.length ≤ 10 := of_decide_eq_true h'.1
      have h2 : xs.length * (40 * 11 ^ n + 1) ≤ 10 * (40 * 11 ^ n + 1) := Nat.mul_le_mul_right _ hl
      have := p41 n
      have e : (11 : Nat) ^ (n + 1) = 11 * 11 ^ n := by rw [Nat.pow_succ, Nat.mul_comm]
      show PyData.weightAll ds ≤ _
      rw [e]
      omega
  | n + 1, .fd _ kvs, h => by
    have h' : kvs.isEmpty = true := h
    have e : kvs = [] := List.isEmpty_iff.mp h'
    subst e
    exact ⟨.dict [], rfl, rfl, Nat.succ_le_succ (Nat.zero_le _), rfl, Nat.zero_le _⟩
  | 0, .fd _ _, h => by cases h
  | 0, .tup _, h => by cases h
  | 0, .fl _ _, h => by cases h
  | n, .ref _, h => by cases n <;> cases h
  | n, .ty _, h => by cases n <;> cases h
  | n, .glo _, h => by cases n <;> cases h
  | n, .fins _ _ _, h => by cases n <;> cases h
  | n, .fdn _ _, h => by cases n <;> cases h
theorem fit_re {n : Nat} {w : W} (h : fit n w = true) (hn : n ≤ 4) : ∃ d, dt w = some d ∧ reOk d = true := by
  obtain ⟨d, e, s⟩ := fit_ok n w h
  refine ⟨d, e, reOk_of s.sh (by have := s.dp; omega) s.sl (Nat.le_trans s.wt ?_)⟩
  have : (11 : Nat) ^ n ≤ 11 ^ 4 := Nat.pow_le_pow_right (by decide) hn
  have e2 : (11 : Nat) ^ 4 = 14641 := by decide
  have e3 : (2 : Nat) ^ 20 = 1048576 := by decide
  omega
theorem fit_repr {n : Nat} {w : W} (h : fit n w = true) (hn : n ≤ 4) : ∃ x : Str, ∀ (m : Bool) (S : So), builtin m "repr" [w] S = .ok (.str x) S := by
  obtain ⟨d, e, r⟩ := fit_re h hn
  exact ⟨d.shown, fun m S => vb_repr e r⟩
theorem fit_up {n m : Nat} (hm : n ≤ m) : ∀ {w : W}, fit n w = true → fit m w = true := by
  induction n generalizing m with
  | zero =>
    intro w h
    cases w <;> first | (cases m <;> exact h) | cases h
  | succ n ih =>
    intro w h
    obtain ⟨m, rfl⟩ : ∃ k, m = k + 1 := ⟨m - 1, by omega⟩
    cases w with
    | tup xs =>
      have h' : (decide (xs.length ≤ 10) && xs.all (fit n)) = true := h
      rw [Bool.and_eq_true, List.all_eq_true] at h'
      show (decide (xs.length ≤ 10) && xs.all (fit m)) = true
      rw [h'.1, Bool.true_and, List.all_eq_true]
      exact fun x hx => ih (by omega) (h'.2 x hx)
    | fl t xs =>
      have h' : (decide (xs.length ≤ 10) && xs.all (fit n)) = true := h
      rw [Bool.and_eq_true, List.all_eq_true] at h'
      show (decide (xs.length ≤ 10) && xs.all (fit m)) = true
      rw [h'.1, Bool.true_and, List.all_eq_true]
      exact fun x hx => ih (by omega) (h'.2 x hx)
    | _ => exact h
/-! equality -/
theorem c_eqX {x y : W} {d e : PyData} {S : So} (hx : dt x = some d) (hy : dt y = some e) (sx : SeqAt.shaped d = true) (sy : SeqAt.shaped e = true) (n : ∀ z, x ≠ .str z) (n2 : ∀ z, x ≠ .int z) (nl : lenD x y S = false) (no : oddEq x y S = none) : cmp .Eq x y S = some (PyData.eqv d e) := by
  show eqX x y S = _
  unfold eqX
  split
  · exact absurd rfl (n _)
  · exact absurd rfl (n2 _)
  · rw [nl]
    unfold eqD
    rw [toD_dt hx, toD_dt hy]
    simp only [no, sx, sy, Bool.and_self, if_true, Bool.false_eq_true, if_false]
/-- against the empty list -/
theorem c_eqE {t u : Bool} {xs : List W} {S : So} : cmp .Eq (.fl t xs) (.fl u []) S = some xs.isEmpty := by
  cases xs with
  | nil => rfl
  | cons a r =>
    have h : lenD (.fl t (a :: r)) (.fl u []) S = true := rfl
    show eqX (.fl t (a :: r)) (.fl u []) S = _
    unfold eqX
    simp only [h, if_true]
    rfl
theorem c_neE {t u : Bool} {xs : List W} {S : So} : cmp .NotEq (.fl t xs) (.fl u []) S = some (!xs.isEmpty) := by
  have h := c_eqE (t := t) (u := u) (xs := xs) (S := S)
  show (eqX (.fl t xs) (.fl u []) S).map (!·) = _
  rw [show eqX (.fl t xs) (.fl u []) S = some xs.isEmpty from h]; rfl
end Y

/-! What is locked already stays as it is; things of the store. -/
namespace Y
open PySem L2
section
variable {n : Nat} {f : Nat → Option W}
mutual
theorem lkW_id : ∀ w : W, freeW w = true → lkW n f w = some w
  | .non, _ => rfl
  | .bl _, _ => rfl
  | .int _, _ => rfl
  | .str _, _ => rfl
  | .ty _, _ => rfl
  | .glo _, _ => rfl
  | .ref _, h => by unfold freeW at h; cases h
  | .tup xs, h => by unfold freeW at h; unfold lkW; rw [lkWs_id xs h]; rfl
  | .fl t xs, h => by unfold freeW at h; rw [Bool.and_eq_true] at h; unfold lkW; rw [lkWs_id xs h.2]; rfl
  | .fd t xs, h => by unfold freeW at h; rw [Bool.and_eq_true] at h; unfold lkW; rw [lkKs_id xs h.2]; rfl
  | .fdn t xs, h => by unfold freeW at h; rw [Bool.and_eq_true] at h; unfold lkW; rw [lkKs_id xs h.2]; rfl
  | .fins t C xs, h => by unfold freeW at h; rw [Bool.and_eq_true] at h; unfold lkW; rw [lkFs_id xs h.2]; rfl
theorem lkWs_id : ∀ w : List W, freeWs w = true → lkWs n f w = some w
  | [], _ => rfl
  | x :: xs, h => by unfold freeWs at h; rw [Bool.and_eq_true] at h; unfold lkWs; rw [lkW_id x h.1, lkWs_id xs h.2]; rfl
theorem lkKs_id : ∀ w : List (Kd × W), freeKs w = true → lkKs n f w = some w
  | [], _ => rfl
  | (k, x) :: xs, h => by unfold freeKs at h; rw [Bool.and_eq_true] at h; unfold lkKs; rw [lkW_id x h.1, lkKs_id xs h.2]; rfl
theorem lkFs_id : ∀ w : List (Str × W), freeFs w = true → lkFs n f w = some w
  | [], _ => rfl
  | (k, x) :: xs, h => by unfold freeFs at h; rw [Bool.and_eq_true] at h; unfold lkFs; rw [lkW_id x h.1, lkFs_id xs h.2]; rfl
end
end
/-- nothing in the store's things refers to the store -/
def shutO (o : O) : Prop := ∀ n f, lkO n f o = some o
def Shut (S : So) : Prop := ∀ o ∈ S, shutO o
theorem lkOs_id {n : Nat} {f : Nat → Option W} : ∀ {S : So}, Shut S → lkOs n f S = some S
  | [], _ => rfl
  | x :: xs, h => by
    unfold lkOs
    rw [h x List.mem_cons_self n f, lkOs_id fun o m => h o (List.mem_cons_of_mem _ m)]; rfl
theorem Shut.set {S : So} {i : Nat} {o : O} (h : Shut S) (q : shutO o) : Shut (S.set i o) := fun x m => by
  rcases List.mem_or_eq_of_mem_set m with m | rfl
  · exact h x m
  · exact q
theorem Shut.push {S : So} {o : O} (h : Shut S) (q : shutO o) : Shut (S ++ [o]) := fun x m => by
  rcases List.mem_append.mp m with m | m
  · exact h x m
  · rw [List.mem_singleton] at m; subst m; exact q
theorem Shut.nil : Shut [] := fun _ m => by cases m
theorem shutO_lst {xs : List W} (h : freeWs xs = true) : shutO (.lst xs) := fun n f => by show (lkWs n f xs).map O.lst = _; rw [lkWs_id xs h]; rfl
theorem shutO_dct {xs : List (Kd × W)} (h : freeKs xs = true) : shutO (.dct xs) := fun n f => by show (lkKs n f xs).map O.dct = _; rw [lkKs_id xs h]; rfl
/-- behind a def that locks, where its answer is free -/
theorem lock_ok {w : W} {S S' T : So} (hw : freeW w = true) (hS : S' = S ++ T) (h : Shut S) : lockR S.length (.ok w S') = .ok w S := by
  subst hS
  simp only [lockR]
  rw [lkW_id w hw]
  have : (S ++ T).take S.length = S := by simp
  rw [this, lkOs_id h]
theorem freeWs_mem : ∀ {xs : List W} {w : W}, freeWs xs = true → w ∈ xs → freeW w = true
  | x :: xs, w, h, m => by
    unfold freeWs at h
    rw [Bool.and_eq_true] at h
    rcases List.mem_cons.mp m with rfl | m
    · exact h.1
    · exact freeWs_mem h.2 m
theorem freeWs_app : ∀ {xs ys : List W}, freeWs (xs ++ ys) = (freeWs xs && freeWs ys)
  | [], ys => by simp [freeWs]
  | x :: xs, ys => by simp [freeWs, freeWs_app, Bool.and_assoc]
theorem get_set {S : So} {i : Nat} {x o : O} (h : S[i]? = some x) : (S.set i o)[i]? = some o := List.getElem?_set_self (List.getElem?_eq_some_iff.mp h).1
theorem get_new {S : So} {o : O} : (S ++ [o])[S.length]? = some o := by
  rw [List.getElem?_append_right (Nat.le_refl _)]; simp
theorem get_app {S : So} {D : Nat} {x o : O} (h : S[D]? = some x) : (S ++ [o])[D]? = some x := by
  rw [List.getElem?_append_left (List.getElem?_eq_some_iff.mp h).1]; exact h
theorem get_other {S : So} {i D : Nat} {x o : O} (h : S[D]? = some x) (n : D ≠ i) : (S.set i o)[D]? = some x := by rw [List.getElem?_set_ne (Ne.symm n)]; exact h
theorem set_new {S : So} {a b : O} : (S ++ [a]).set S.length b = S ++ [b] := by
  rw [List.set_append_right _ _ (Nat.le_refl _)]
  simp
theorem set_app {S : So} {i : Nat} {a b x : O} (h : S[i]? = some x) : (S ++ [a]).set i b = S.set i b ++ [a] := by
  rw [List.set_append_left _ _ (List.getElem?_eq_some_iff.mp h).1]
theorem lst_ref {S : So} {i : Nat} {xs : List W} (h : S[i]? = some (.lst xs)) : lstOf (.ref i) S = some xs := by
  unfold lstOf; simp only [h]
theorem seq_ref {S : So} {i : Nat} {xs : List W} (h : S[i]? = some (.lst xs)) : seqOf (.ref i) S = some xs := lst_ref h
theorem lst_none {S : So} {i : Nat} {xs : List (Kd × W)} (h : S[i]? = some (.dct xs)) : lstOf (.ref i) S = none := by
  unfold lstOf; simp only [h]
theorem dct_ref {S : So} {i : Nat} {xs : List (Kd × W)} (h : S[i]? = some (.dct xs)) : dctOf (.ref i) S = some xs := by
  unfold dctOf; simp only [h]
theorem it_dct {S : So} {i : Nat} {kvs : List (Kd × W)} {y : W} {k : Kd} (h : S[i]? = some (.dct kvs)) (hk : toK y = some k) (hs : seeK kvs k = true) : item (.ref i) y S = findK kvs k := by
  show (match lstOf (.ref i) S with
    | some xs => (match y with | .int i => L2.atI xs i | _ => none)
    | none => match dctOf (.ref i) S, toK y with
      | some kvs, some k => if seeK kvs k = true then findK kvs k else none
      | _, _ => match ndOf (.ref i) S, toK y with
        | some kvs, some k => if nestK k = true then findK kvs k else none
        | _, _ => none) = _
  rw [lst_none h, dct_ref h, hk]
  exact if_pos hs
theorem it_lst {S : So} {i : Nat} {xs : List W} {j : Int} (h : S[i]? = some (.lst xs)) : item (.ref i) (.int j) S = L2.atI xs j := by
  show (match lstOf (.ref i) S with
    | some xs => L2.atI xs j
    | none => match dctOf (.ref i) S, toK (.int j) with
      | some kvs, some k => if seeK kvs k = true then findK kvs k else none
      | _, _ => match ndOf (.ref i) S, toK (.int j) with
        | some kvs, some k => if nestK k = true then findK kvs k else none
        | _, _ => none) = _
  rw [lst_ref h]
theorem len_ref {S : So} {i : Nat} {xs : List W} {m : Bool} (h : S[i]? = some (.lst xs)) : builtin m "len" [.ref i] S = .ok (.int xs.length) S := by
  show (match lenOf (.ref i) S with | some n => Res.ok (W.int n) S | none => Res.bad) = _
  unfold lenOf
  rw [seq_ref h]
theorem ty_ref {α : Type} {S : So} {i : Nat} {xs : List W} {a : Res α} (h : S[i]? = some (.lst xs)) : ifTy (.ref i) S "list" a = a := by
  have e : valTy (.ref i) S = some "list" := by
    show (match S[i]? with | some (.lst _) => some "list" | some (.dct _) => some "dict" | some (.dcn _) => some "dict" | _ => none) = _
    rw [h]
  unfold ifTy
  exact if_pos e
theorem app_ref {S : So} {i : Nat} {xs : List W} {w : W} {m : Bool} (h : S[i]? = some (.lst xs)) (hl : xs.length < sizeLine) : method m (.ref i) "append" [w] S = .ok .non (S.set i (.lst (xs ++ [w]))) := by
  show (match S[i]? with
      | some (.lst xs) => if xs.length < sizeLine then Res.ok W.non (S.set i (.lst (xs ++ [w]))) else Res.bad
      | _ => Res.bad) = _
  rw [h]
  exact if_pos hl
end Y

/-! Texts cut at a sign. -/
namespace Y
open PySem L2 Builtin.Str
def ofL (l : List Nat) : Str := ⟨l.toArray⟩
theorem ofL_to (z : Str) : ofL z.cps.toList = z := rfl
theorem to_ofL (l : List Nat) : (ofL l).cps.toList = l := rfl
theorem len_ofL (l : List Nat) : (ofL l).length = l.length := by simp [ofL, Str.length]
/-- cut at every c -/
def spl (c : Nat) : List Nat → List (List Nat)
  | [] => [[]]
  | a :: r => if a = c then [] :: spl c r else match spl c r with
    | [] => [[a]]
    | p :: ps => (a :: p) :: ps
theorem spl_none {c : Nat} : ∀ {l : List Nat}, c ∉ l → spl c l = [l]
  | [], _ => rfl
  | a :: r, h => by
    have h1 : ¬ a = c := fun e => h (by rw [e]; exact List.mem_cons_self ..)
    have h2 := spl_none (c := c) (l := r) fun m => h (List.mem_cons_of_mem _ m)
    unfold spl
    rw [if_neg h1, h2]
theorem spl_cut {c : Nat} : ∀ {p q : List Nat}, c ∉ p → spl c (p ++ c :: q) = p :: spl c q
  | [], q, _ => by show (if c = c then [] :: spl c q else _) = _; rw [if_pos rfl]
  | a :: r, q, h => by
    have h1 : ¬ a = c := fun e => h (by rw [e]; exact List.mem_cons_self ..)
    have h2 := spl_cut (c := c) (p := r) (q := q) fun m => h (List.mem_cons_of_mem _ m)
    show (if a = c then _ else _) = _
    rw [if_neg h1]
    show (match spl c (r ++ c :: q) with | [] => [[a]] | p :: ps => (a :: p) :: ps) = _
    rw [h2]
theorem spl_ne {c : Nat} {l : List Nat} : spl c l ≠ [] := by
  cases l with
  | nil => nofun
  | cons a r =>
    unfold spl
    split
    · nofun
    · split <;> nofun
/-- at the first c, or nowhere -/
theorem cut_or (c : Nat) (l : List Nat) : c ∉ l ∨ ∃ p q, l = p ++ c :: q ∧ c ∉ p := by
  induction l with
  | nil => exact .inl (by simp)
  | cons a r ih =>
    by_cases h : a = c
    · exact .inr ⟨[], r, by rw [h]; rfl, by simp⟩
    · rcases ih with ih | ⟨p, q, rfl, ih⟩
      · exact .inl fun m => by
          rcases List.mem_cons.mp m with e | m
          · exact h e.symm
          · exact ih m
      · exact .inr ⟨a :: p, q, rfl, fun m => by
          rcases List.mem_cons.mp m with e | m
          · exact h e.symm
          · exact ih m⟩
def hits (l : List Nat) (c b n : Nat) : List Nat := (List.range' b n).filter fun i => decide (l[i]? = some c)
theorem occ_run (s : Str) (c limit : Nat) : ∀ (n b : Nat) (arr : Array Nat) (free : Nat), free ≤ b → arr.size + n ≤ limit → (forIn (List.range' b n) (arr, free) (StrLaws.occBody s ⟨#[c]⟩ s.length limit)).run.fst.toList = arr.toList ++ hits s.cps.toList c b n
  | 0, b, arr, free, _, _ => by simp [hits]
  | n + 1, b, arr, free, h1, h2 => by
    unfold hits
    rw [List.range'_succ, List.forIn_cons, List.filter_cons]
    unfold StrLaws.occBody
    by_cases hc : s.cps.toList[b]? = some c
    · have q := (StrLaws.subAt_one s c b).mpr hc
      rw [if_pos ⟨⟨⟨by show arr.size < limit; omega, h1⟩, q.1⟩, q.2⟩, if_pos (decide_eq_true hc)]
      have ih := occ_run s c limit n (b + 1) (arr.push b) (b + 1) (Nat.le_refl _) (by rw [Array.size_push]; omega)
      refine Eq.trans ih ?_
      rw [Array.toList_push, List.append_assoc]
      rfl
    · have q : ¬ (((((arr, free) : Array Nat × Nat).fst.size < limit ∧ ((arr, free) : Array Nat × Nat).snd ≤ b) ∧ b + (⟨#[c]⟩ : Str).length ≤ s.length) ∧ subAt s ⟨#[c]⟩ b = true) := fun z => hc ((StrLaws.subAt_one s c b).mp ⟨z.1.2, z.2⟩)
      rw [if_neg q, if_neg (by rw [decide_eq_false hc]; nofun)]
      exact occ_run s c limit n (b + 1) arr free (by omega) (by omega)
theorem sub_eq (x : Str) {a b : Nat} : strSub x a b = ofL ((x.cps.toList.drop a).take (b - a)) := by
  apply Str.ext'
  apply Array.toList_inj.mp
  rw [StrLaws.strSub_toList, to_ofL]
theorem parts_spl (x : Str) (c : Nat) : ∀ (n b a : Nat), b + n = x.length + 1 → a ≤ b → (∀ i, a ≤ i → i < b → x.cps.toList[i]? ≠ some c) → StrLaws.partsFrom x 1 a (hits x.cps.toList c b n) = (spl c (x.cps.toList.drop a)).map ofL
  | 0, b, a, h1, h2, h3 => by
    have hx : x.cps.toList.length = x.length := by simp [Str.length]
    have e : c ∉ x.cps.toList.drop a := fun m => by
      obtain ⟨j, hj⟩ := List.mem_iff_getElem?.mp m
      rw [List.getElem?_drop] at hj
      have := (List.getElem?_eq_some_iff.mp hj).1
      exact h3 (a + j) (by omega) (by omega) hj
    rw [spl_none e]
    show [strSub x a x.length] = _
    rw [sub_eq, List.take_of_length_le (by rw [List.length_drop]; omega)]
    rfl
  | n + 1, b, a, h1, h2, h3 => by
    have hx : x.cps.toList.length = x.length := by simp [Str.length]
    unfold hits
    rw [List.range'_succ, List.filter_cons]
    by_cases hc : x.cps.toList[b]? = some c
    · rw [if_pos (decide_eq_true hc)]
      obtain ⟨hb, hv⟩ := List.getElem?_eq_some_iff.mp hc
      have ih := parts_spl x c n (b + 1) (b + 1) (by omega) (Nat.le_refl _) (fun i q1 q2 => by omega)
      show strSub x a b :: StrLaws.partsFrom x 1 (b + 1) (hits x.cps.toList c (b + 1) n) = _
      have e1 : x.cps.toList.drop a = (x.cps.toList.drop a).take (b - a) ++ c :: x.cps.toList.drop (b + 1) := by
        have e2 : x.cps.toList.drop b = c :: x.cps.toList.drop (b + 1) := by rw [List.drop_eq_getElem_cons hb, hv]
        have e3 : (x.cps.toList.drop a).drop (b - a) = x.cps.toList.drop b := by rw [List.drop_drop]; congr 1; omega
        rw [← e2, ← e3, List.take_append_drop]
      have e4 : c ∉ (x.cps.toList.drop a).take (b - a) := fun m => by
        obtain ⟨j, hj⟩ := List.mem_iff_getElem?.mp m
        have q : j < b - a := by
          have := (List.getElem?_eq_some_iff.mp hj).1
          rw [List.length_take] at this; omega
        rw [List.getElem?_take_of_lt q, List.getElem?_drop] at hj
        exact h3 (a + j) (by omega) (by omega) hj
      rw [e1, spl_cut e4, List.map_cons, ih, sub_eq]
    · rw [if_neg (by rw [decide_eq_false hc]; nofun)]
      refine parts_spl x c n (b + 1) a (by omega) (by omega) fun i q1 q2 => ?_
      by_cases hi : i = b
      · rw [hi]; exact hc
      · exact h3 i q1 (by omega)
theorem split_one (x : Str) (c : Nat) : Txt.split x (one c) = (spl c x.cps.toList).map ofL := by
  have h := PySem.W.m_split x (one c) (show ((one c).length == 0) = false from rfl)
  have h2 : PySem.W.GW2.means .split (.str x) (.str (one c)) = some (PySem.W.WData.list ((partsBetween x (occurrences x (one c) 0 x.length (x.length + 1)) (one c).length).map PySem.W.WData.str)) := by
    show (if ((one c).length == 0) = true then Option.none else some (PySem.W.WData.list ((partsBetween x (occurrences x (one c) 0 x.length (x.length + 1)) (one c).length).map PySem.W.WData.str))) = _
    exact if_neg (by rw [show ((one c).length == 0) = false from rfl]; nofun)
  rw [h2] at h
  have h3 := PySem.W.WData.list.inj (Option.some.inj h)
  have h4 : Txt.split x (one c) = partsBetween x (occurrences x (one c) 0 x.length (x.length + 1)) (one c).length := by
    generalize Txt.split x (one c) = A at h3
    generalize partsBetween x (occurrences x (one c) 0 x.length (x.length + 1)) (one c).length = B at h3
    clear h h2
    induction A generalizing B with
    | nil => cases B with
      | nil => rfl
      | cons b r => cases h3
    | cons a r ih => cases B with
      | nil => cases h3
      | cons b t =>
        rw [List.map_cons, List.map_cons] at h3
        injection h3 with q1 q2
        injection q1 with q1
        rw [q1, ih _ q2]
  rw [h4, StrLaws.partsBetween_eq, StrLaws.occ_eq]
  have e := occ_run x c (x.length + 1) (x.length + 1 - 0) 0 #[] 0 (Nat.le_refl _) (by simp)
  have e' : (forIn (List.range' 0 (x.length + 1 - 0)) ((#[] : Array Nat), 0) (StrLaws.occBody x (one c) x.length (x.length + 1))).run.fst.toList = hits x.cps.toList c 0 (x.length + 1) := by
    refine Eq.trans e ?_
    simp
  rw [e']
  exact parts_spl x c (x.length + 1) 0 0 (by omega) (Nat.le_refl _) fun i q1 q2 => by omega
theorem part_one (x : Str) (c : Nat) : (c ∉ x.cps.toList ∧ Txt.partition x (one c) = (x, Str.empty, Str.empty)) ∨ ∃ p q, x.cps.toList = p ++ c :: q ∧ c ∉ p ∧ Txt.partition x (one c) = (ofL p, one c, ofL q) := by
  have hx : x.cps.toList.length = x.length := by simp [Str.length]
  rcases StrLaws.occ_head x (one c) 1 (Nat.le_refl _) with ⟨h, no⟩ | ⟨i, r, h, hi, no⟩
  · refine .inl ⟨fun m => ?_, ?_⟩
    · obtain ⟨j, hj⟩ := List.mem_iff_getElem?.mp m
      exact no j ((StrLaws.subAt_one x c j).mpr hj)
    · unfold Txt.partition; rw [h]
  · have hc := (StrLaws.subAt_one x c i).mp hi
    obtain ⟨hb, hv⟩ := List.getElem?_eq_some_iff.mp hc
    refine .inr ⟨x.cps.toList.take i, x.cps.toList.drop (i + 1), ?_, fun m => ?_, ?_⟩
    · rw [show c :: x.cps.toList.drop (i + 1) = x.cps.toList.drop i by rw [List.drop_eq_getElem_cons hb, hv], List.take_append_drop]
    · obtain ⟨j, hj⟩ := List.mem_iff_getElem?.mp m
      have q : j < i := by
        have := (List.getElem?_eq_some_iff.mp hj).1
        rw [List.length_take] at this; omega
      rw [List.getElem?_take_of_lt q] at hj
      exact no j q ((StrLaws.subAt_one x c j).mpr hj)
    · unfold Txt.partition
      rw [h]
      show (strSub x 0 i, one c, strSub x (i + 1) x.length) = _
      rw [sub_eq, sub_eq, List.drop_zero, Nat.sub_zero]
      rw [List.take_of_length_le (l := x.cps.toList.drop (i + 1)) (by rw [List.length_drop]; omega)]
section
variable {S : So}
theorem one_len (c : Nat) : ((one c).length == 0) = false := rfl
theorem m_split {z : Str} {c : Nat} (h : z.length + 2 ≤ sizeLine) : method false (.str z) "split" [.str (one c)] S = .ok (.fl false ((spl c z.cps.toList).map fun l => W.str (ofL l))) S := by
  show (if ((one c).length == 0) = false ∧ z.length + 2 ≤ sizeLine then mk false ((Txt.split z (one c)).map .str) S else .bad) = _
  rw [if_pos ⟨rfl, h⟩, split_one, List.map_map]
  rfl
theorem m_part {z : Str} {c : Nat} (h : z.length ≤ sizeLine) : method false (.str z) "partition" [.str (one c)] S = .ok (.tup [.str (Txt.partition z (one c)).1, .str (Txt.partition z (one c)).2.1, .str (Txt.partition z (one c)).2.2]) S := by
  show (if ((one c).length == 0) = false ∧ z.length ≤ sizeLine then _ else _) = _
  rw [if_pos ⟨rfl, h⟩]
end
end Y

namespace K8
open PySem Y L2
def top (i : Nat) : Stmt := PySem.Challenge.pw_sharerules_k08_texts_and_parts_of_rules.main.body.getD i (.Pass ⟨0, 0, 0, 0⟩)
def f_rule_text : Fi := ⟨top 1, ["rule"], ["rule", "word", "between", "part", "inner"], [], false, false⟩
def f_law_tape : Fi := ⟨top 4, ["script", "start"], ["script", "start", "mixed", "cell", "digits"], [], false, false⟩
def f_law_pick : Fi := ⟨top 5, ["tape", "size"], ["tape", "size", "found", "once"], [], false, false⟩
def f_law_one_of : Fi := ⟨top 6, ["tape", "items"], ["tape", "items"], [], false, false⟩
def f_law_word : Fi := ⟨top 7, ["tape"], ["tape"], [], false, false⟩
def f_law_free_rule : Fi := ⟨top 8, ["tape", "depth"], ["tape", "depth", "way", "found", "place"], [], false, true⟩
def f_law_parts : Fi := ⟨top 9, ["rule"], ["rule", "found", "inner"], [], false, false⟩
def f_law_words : Fi := ⟨top 10, ["rule"], ["rule", "found", "inner"], [], false, false⟩
def f_law : Fi := ⟨top 11, ["script"], ["script", "start", "tape", "turn", "rule", "kept", "again", "one"], [], false, false⟩
def glo : List (Str × W) := [("tuple", (.ty "tuple"))]
def tab : List (Str × Fi) := [("rule_text", f_rule_text), ("_law_tape", f_law_tape), ("_law_pick", f_law_pick), ("_law_one_of", f_law_one_of), ("_law_word", f_law_word), ("_law_free_rule", f_law_free_rule), ("_law_parts", f_law_parts), ("_law_words", f_law_words), ("law", f_law)]
def P : Pg := pgG glo tab [(26, 11, 45), (49, 12, 46), (76, 15, 39)]
theorem e_rule_text (k : Nat) (S : So) (rule_ : W) : callN P (k + 1) "rule_text" [rule_] S =
  ((ofO (item rule_ (.int 0) S) S).bind fun w1 S2 => iF (cmp .Eq w1 (.str "rows") S2) (.ok (.str "rows") S2) (iF (cmp .Eq w1 (.str "same") S2) ((ofO (item rule_ (.int 1) S2) S2).bind fun w3 S4 => .ok w3 S4) (iF (cmp .Eq w1 (.str "via") S2) ((ofO (item rule_ (.int 2) S2) S2).bind fun w6 S7 => jW w6 Str.empty fun t5 => jC " via " t5 fun t8 => (ofO (item rule_ (.int 1) S7) S7).bind fun w10 S11 => jW w10 t8 fun t9 => .ok (.str t9) S11) (iF (cmp .Eq w1 (.str "but") S2) (jC "( " Str.empty fun t12 => (ofO (item rule_ (.int 1) S2) S2).bind fun w14 S15 => (callN P k "rule_text" [w14] S15).bind fun w16 S17 => jW w16 t12 fun t13 => jC " but not " t13 fun t18 => (ofO (item rule_ (.int 2) S17) S17).bind fun w20 S21 => jW w20 t18 fun t19 => jC " )" t19 fun t22 => .ok (.str t22) S21) (jC " " Str.empty fun t23 => jW w1 t23 fun t24 => jC " " t24 fun t25 => ifTy (.str t25) S2 "str" ((slice false rule_ (some 1) none S2).bind fun w26 S27 => (walkV w26 S27).bind fun q28 S29 => (noX (turns q28 (lcF P (callN P k) 37 (sxF f_rule_text) [some rule_, some w1, some (.str t25), none, none] (xX 1 (sX 0 (sN 6 (defBody f_rule_text.st))))) q28.len 0 [] S29)).bind fun acc30 S31 => (method false (.str t25) "join" [(.fl false acc30)] S31).bind fun w32 S33 => jC "( " Str.empty fun t34 => jW w32 t34 fun t35 => jC " )" t35 fun t36 => .ok (.str t36) S33))))) : Res W) := (callN_plain rfl rfl rfl rfl).trans (by rw [bodyN_eq]; kernel_rfl)
theorem c_rule_text_1 (k : Nat) (S : So) (it : W) (acc : List W) (rule_ : W) (word_ : W) (between_ : W) (part_ : Option W) (inner_ : Option W) : lcF P (callN P k) 37 (sxF f_rule_text) [some rule_, some word_, some between_, part_, inner_] (xX 1 (sX 0 (sN 6 (defBody f_rule_text.st)))) it acc S =
  ((callN P k "rule_text" [it] S).bind fun w1 S2 => if acc.length < sizeLine then .ok (acc ++ [w1], true) S2 else .bad : Res (List W × Bool)) := by rw [lcF_eq]; kernel_rfl
theorem e_law_tape (k : Nat) (S : So) (script_ : W) (start_ : W) : callN P (k + 1) "_law_tape" [script_, start_] S =
  ((binop false .Mult start_ (.int 31) S).bind fun w1 S2 => (binop false .Add (.int 97) w1 S2).bind fun w3 S4 => (walkV script_ S4).bind fun q5 S6 => (turns q5 (foF P (callN P k) 39 (sxF f_law_tape) (sN 1 (defBody f_law_tape.st))) q5.len 0 ([some script_, some start_, some w3, none, none], Fl.nx) S6).bind (kof ⟨fun e7 S11 => let j16 := fun (w17 : W) (S18 : So) => (ofO (slot (List.set e7 4 (some w17)) 4) S18).bind fun w19 S20 => (ofO (slot (List.set e7 4 (some w17)) 2) S20).bind fun w21 S22 => (mkD true [(.str "digits", w19), (.str "mixed", w21)] S22).bind fun w23 S24 => .ok w23 S24; (ofO (slot e7 1) S11).bind fun w27 S28 => (ofO (slot e7 0) S28).bind fun w29 S30 => (builtin false "len" [w29] S30).bind fun w31 S32 => iF (cmp .Lt w27 w31 S32) ((ofO (slot e7 0) S32).bind fun w33 S34 => (ofO (slot e7 1) S34).bind fun w35 S36 => (ofO (item w33 w35 S36) S36).bind fun w37 S38 => (binop false .Pow (.int 10) (.int 18) S38).bind fun w39 S40 => iF (cmp .GtE w37 w39 S40) ((ofO (slot e7 0) S40).bind fun w41 S42 => (ofO (slot e7 1) S42).bind fun w43 S44 => (ofO (item w41 w43 S44) S44).bind fun w45 S46 => (binop false .Pow (.int 10) (.int 18) S46).bind fun w47 S48 => (binop false .Sub w45 w47 S48).bind fun w49 S50 => j16 w49 S50) (j16 (.int 0) S40)) (j16 (.int 0) S32), fun e8 w15 S12 => .ok w15 S12, fun e9 S13 => .bad, fun e10 S14 => .bad⟩) : Res W) := (callN_plain rfl rfl rfl rfl).trans (by rw [bodyN_eq]; kernel_rfl)
theorem b_law_tape_1 (k : Nat) (S : So) (it : W) (fl : Fl) (script_ : W) (start_ : W) (mixed_ : W) (cell_ : Option W) (digits_ : Option W) : foF P (callN P k) 39 (sxF f_law_tape) (sN 1 (defBody f_law_tape.st)) it ([some script_, some start_, some mixed_, cell_, digits_], fl) S =
  ((binop false .Mult mixed_ (.int 30011) S).bind fun w1 S2 => (binop false .Mult it it S2).bind fun w3 S4 => (binop false .Add w1 w3 S4).bind fun w5 S6 => (binop false .Add w5 (.int 7) S6).bind fun w7 S8 => (binop false .Pow w7 (.int 2) S8).bind fun w9 S10 => (builtin false "int" [w9] S10).bind fun w11 S12 => (binop false .Mod w11 (.int 2147483563) S12).bind fun w13 S14 => (binop false .Add w13 (.int 2) S14).bind fun w15 S16 => .ok (([some script_, some start_, some w15, some it, digits_], Fl.nx), true) S16 : Res ((En × Fl) × Bool)) := by rw [foF_eq]; kernel_rfl
theorem e_law_pick (k : Nat) (S : So) (tape_ : W) (size_ : W) : callN P (k + 1) "_law_pick" [tape_, size_] S =
  ((ofO (item tape_ (.str "digits") S) S).bind fun w1 S2 => iF (cmp .GtE w1 size_ S2) ((ofO (item tape_ (.str "digits") S2) S2).bind fun w3 S4 => (builtin false "int" [w3] S4).bind fun w5 S6 => (binop false .Mod w5 size_ S6).bind fun w7 S8 => (ofO (item tape_ (.str "digits") S8) S8).bind fun w9 S10 => (binop false .FloorDiv w9 size_ S10).bind fun w11 S12 => (ofO (setItem tape_ (.str "digits") w11 S12) S12).bind fun S13 z14 => .ok w7 S13) ((ofO (item tape_ (.str "mixed") S2) S2).bind fun w15 S16 => (binop false .Mult w15 (.int 40014) S16).bind fun w17 S18 => (binop false .Add w17 (.int 1013) S18).bind fun w19 S20 => (builtin false "int" [w19] S20).bind fun w21 S22 => (binop false .Mod w21 (.int 2147483563) S22).bind fun w23 S24 => (ofO (setItem tape_ (.str "mixed") w23 S24) S24).bind fun S25 z26 => (ofO (item tape_ (.str "mixed") S25) S25).bind fun w27 S28 => (binop false .Pow w27 (.int 2) S28).bind fun w29 S30 => (builtin false "int" [w29] S30).bind fun w31 S32 => (binop false .Mod w31 (.int 2147483399) S32).bind fun w33 S34 => (binop false .Pow w33 (.int 3) S34).bind fun w35 S36 => (builtin false "int" [w35] S36).bind fun w37 S38 => (binop false .Mod w37 (.int 998244353) S38).bind fun w39 S40 => (binop false .FloorDiv w39 (.int 5) S40).bind fun w41 S42 => (builtin false "int" [w41] S42).bind fun w43 S44 => (binop false .Mod w43 size_ S44).bind fun w45 S46 => .ok w45 S46) : Res W) := (callN_plain rfl rfl rfl rfl).trans (by rw [bodyN_eq]; kernel_rfl)
theorem e_law_one_of (k : Nat) (S : So) (tape_ : W) (items_ : W) : callN P (k + 1) "_law_one_of" [tape_, items_] S =
  ((builtin false "len" [items_] S).bind fun w1 S2 => (callN P k "_law_pick" [tape_, w1] S2).bind fun w3 S4 => (ofO (item items_ w3 S4) S4).bind fun w5 S6 => .ok w5 S6 : Res W) := (callN_plain rfl rfl rfl rfl).trans (by rw [bodyN_eq]; kernel_rfl)
theorem e_law_word (k : Nat) (S : So) (tape_ : W) : callN P (k + 1) "_law_word" [tape_] S =
  ((callN P k "_law_one_of" [tape_, (.fl false [(.str "p"), (.str "q"), (.str "r"), (.str "l"), (.str "up"), (.str "abcdefgh"), (.str "z"), (.str "same"), (.str "link")])] S).bind fun w1 S2 => .ok w1 S2 : Res W) := (callN_plain rfl rfl rfl rfl).trans (by rw [bodyN_eq]; kernel_rfl)
theorem e_law_free_rule (k : Nat) (S : So) (tape_ : W) (depth_ : W) : callN P (k + 1) "_law_free_rule" [tape_, depth_] S =
  (lockR S.length (let j1 := fun (w2 : W) (S3 : So) => iF (cmp .Eq w2 (.int 0) S3) (.ok (.tup [(.str "rows")]) S3) (iF (cmp .Eq w2 (.int 1) S3) ((callN P k "_law_word" [tape_] S3).bind fun w4 S5 => .ok (.tup [(.str "same"), w4]) S5) (iF (cmp .Eq w2 (.int 2) S3) ((callN P k "_law_word" [tape_] S3).bind fun w6 S7 => (callN P k "_law_word" [tape_] S7).bind fun w8 S9 => .ok (.tup [(.str "via"), w6, w8]) S9) (iF (cmp .Eq w2 (.int 3) S3) ((binop false .Sub depth_ (.int 1) S3).bind fun w10 S11 => (callN P k "_law_free_rule" [tape_, w10] S11).bind fun w12 S13 => (callN P k "_law_word" [tape_] S13).bind fun w14 S15 => .ok (.tup [(.str "but"), w12, w14]) S15) ((callN P k "_law_one_of" [tape_, (.fl false [(.str "or"), (.str "and")])] S3).bind fun w16 S17 => (mk true [w16] S17).bind fun w18 S19 => (callN P k "_law_pick" [tape_, (.int 4)] S19).bind fun w21 S22 => iB (cmp .Eq w21 (.int 0) S22) fun b23 => (builtin false "int" [(.bl b23)] S22).bind fun w24 S25 => (binop false .Add (.int 2) w24 S25).bind fun w26 S27 => rgC [w26] fun q20 => (turns q20 (foF P (callN P k) 39 (sxF f_law_free_rule) (sN 6 (defBody f_law_free_rule.st))) q20.len 0 ([some tape_, some depth_, some w2, some w18, none], Fl.nx) S27).bind (kof ⟨fun e28 S32 => (ofO (slot e28 3) S32).bind fun w37 S38 => (builtin false "tuple" [w37] S38).bind fun w39 S40 => .ok w39 S40, fun e29 w36 S33 => .ok w36 S33, fun e30 S34 => .bad, fun e31 S35 => .bad⟩))))); iF (cmp .Gt depth_ (.int 1) S) ((callN P k "_law_pick" [tape_, (.int 7)] S).bind fun w41 S42 => j1 w41 S42) ((callN P k "_law_pick" [tape_, (.int 3)] S).bind fun w43 S44 => j1 w43 S44)) : Res W) := (callN_fz rfl rfl rfl rfl).trans (congrArg (lockR S.length) (by rw [bodyN_eq]; kernel_rfl))
theorem b_law_free_rule_1 (k : Nat) (S : So) (it : W) (fl : Fl) (tape_ : W) (depth_ : W) (way_ : W) (found_ : W) (place_ : Option W) : foF P (callN P k) 39 (sxF f_law_free_rule) (sN 6 (defBody f_law_free_rule.st)) it ([some tape_, some depth_, some way_, some found_, place_], fl) S =
  (ifTy found_ S "list" ((binop false .Sub depth_ (.int 1) S).bind fun w1 S2 => (callN P k "_law_free_rule" [tape_, w1] S2).bind fun w3 S4 => (method false found_ "append" [w3] S4).bind fun w5 S6 => .ok (([some tape_, some depth_, some way_, some found_, some it], Fl.nx), true) S6) : Res ((En × Fl) × Bool)) := by rw [foF_eq]; kernel_rfl
theorem e_law_parts (k : Nat) (S : So) (rule_ : W) : callN P (k + 1) "_law_parts" [rule_] S =
  (let n3 := fun (e1 : En) (S2 : So) => (ofO (slot e1 0) S2).bind fun w9 S10 => (ofO (item w9 (.int 0) S10) S10).bind fun w11 S12 => iF (cmp .Eq w11 (.str "but") S12) ((ofO (slot e1 1) S12).bind fun w13 S14 => (ofO (slot e1 0) S14).bind fun w15 S16 => (ofO (item w15 (.int 1) S16) S16).bind fun w17 S18 => (callN P k "_law_parts" [w17] S18).bind fun w19 S20 => (binop false .Add w13 w19 S20).bind fun w21 S22 => (ofO (slot (List.set e1 1 (some w21)) 1) S22).bind fun w23 S24 => .ok w23 S24) ((ofO (slot e1 1) S12).bind fun w25 S26 => .ok w25 S26); (ofO (item rule_ (.int 0) S) S).bind fun w27 S28 => iF (cmp .In w27 (.tup [(.str "or"), (.str "and")]) S28) ((slice false rule_ (some 1) none S28).bind fun w29 S30 => (walkV w29 S30).bind fun q31 S32 => (turns q31 (foF P (callN P k) 38 (sxF f_law_parts) (sN 0 (sBlk 0 (sN 1 (defBody f_law_parts.st))))) q31.len 0 ([some rule_, some (.fl false [rule_]), none], Fl.nx) S32).bind (kof ⟨fun e33 S37 => n3 e33 S37, fun e34 w41 S38 => .ok w41 S38, fun e35 S39 => .bad, fun e36 S40 => .bad⟩)) (n3 [some rule_, some (.fl false [rule_]), none] S28) : Res W) := (callN_plain rfl rfl rfl rfl).trans (by rw [bodyN_eq]; kernel_rfl)
theorem b_law_parts_1 (k : Nat) (S : So) (it : W) (fl : Fl) (rule_ : W) (found_ : W) (inner_ : Option W) : foF P (callN P k) 38 (sxF f_law_parts) (sN 0 (sBlk 0 (sN 1 (defBody f_law_parts.st)))) it ([some rule_, some found_, inner_], fl) S =
  ((callN P k "_law_parts" [it] S).bind fun w1 S2 => (binop false .Add found_ w1 S2).bind fun w3 S4 => .ok (([some rule_, some w3, some it], Fl.nx), true) S4 : Res ((En × Fl) × Bool)) := by rw [foF_eq]; kernel_rfl
theorem e_law_words (k : Nat) (S : So) (rule_ : W) : callN P (k + 1) "_law_words" [rule_] S =
  ((ofO (item rule_ (.int 0) S) S).bind fun w1 S2 => iF (cmp .Eq w1 (.str "rows") S2) (.ok (.fl false [(.str "rows")]) S2) ((ofO (item rule_ (.int 0) S2) S2).bind fun w3 S4 => iF (cmp .Eq w3 (.str "same") S4) ((ofO (item rule_ (.int 1) S4) S4).bind fun w5 S6 => .ok (.fl false [w5]) S6) ((ofO (item rule_ (.int 0) S4) S4).bind fun w7 S8 => iF (cmp .Eq w7 (.str "via") S8) ((ofO (item rule_ (.int 2) S8) S8).bind fun w9 S10 => (ofO (item rule_ (.int 1) S10) S10).bind fun w11 S12 => .ok (.fl false [w9, (.str "via"), w11]) S12) ((ofO (item rule_ (.int 0) S8) S8).bind fun w13 S14 => iF (cmp .Eq w13 (.str "but") S14) ((ofO (item rule_ (.int 1) S14) S14).bind fun w15 S16 => (callN P k "_law_words" [w15] S16).bind fun w17 S18 => (binop false .Add (.fl false [(.str "(")]) w17 S18).bind fun w19 S20 => (ofO (item rule_ (.int 2) S20) S20).bind fun w21 S22 => (binop false .Add w19 (.fl false [(.str "but"), (.str "not"), w21, (.str ")")]) S22).bind fun w23 S24 => .ok w23 S24) ((ofO (item rule_ (.int 1) S14) S14).bind fun w25 S26 => (callN P k "_law_words" [w25] S26).bind fun w27 S28 => (binop false .Add (.fl false [(.str "(")]) w27 S28).bind fun w29 S30 => (slice false rule_ (some 2) none S30).bind fun w31 S32 => (walkV w31 S32).bind fun q33 S34 => (turns q33 (foF P (callN P k) 39 (sxF f_law_words) (sN 5 (defBody f_law_words.st))) q33.len 0 ([some rule_, some w29, none], Fl.nx) S34).bind (kof ⟨fun e35 S39 => (ofO (slot e35 1) S39).bind fun w44 S45 => (binop false .Add w44 (.fl false [(.str ")")]) S45).bind fun w46 S47 => .ok w46 S47, fun e36 w43 S40 => .ok w43 S40, fun e37 S41 => .bad, fun e38 S42 => .bad⟩))))) : Res W) := (callN_plain rfl rfl rfl rfl).trans (by rw [bodyN_eq]; kernel_rfl)
theorem b_law_words_1 (k : Nat) (S : So) (it : W) (fl : Fl) (rule_ : W) (found_ : W) (inner_ : Option W) : foF P (callN P k) 39 (sxF f_law_words) (sN 5 (defBody f_law_words.st)) it ([some rule_, some found_, inner_], fl) S =
  ((ofO (item rule_ (.int 0) S) S).bind fun w1 S2 => (binop false .Add found_ (.fl false [w1]) S2).bind fun w3 S4 => (callN P k "_law_words" [it] S4).bind fun w5 S6 => (binop false .Add w3 w5 S6).bind fun w7 S8 => .ok (([some rule_, some w7, some it], Fl.nx), true) S8 : Res ((En × Fl) × Bool)) := by rw [foF_eq]; kernel_rfl
theorem e_law (k : Nat) (S : So) (script_ : W) : callN P (k + 1) "law" [script_] S =
  ((builtin false "len" [script_] S).bind fun w2 S3 => (builtin false "min" [(.int 4), w2] S3).bind fun w4 S5 => (builtin false "max" [(.int 2), w4] S5).bind fun w6 S7 => rgC [w6] fun q1 => (turns q1 (foF P (callN P k) 39 (sxF f_law) (sN 0 (defBody f_law.st))) q1.len 0 ([some script_, none, none, none, none, none, none, none], Fl.nx) S7).bind (kof ⟨fun e8 S12 => (callN P k "rule_text" [(.tup [(.str "rows")])] S12).bind fun w17 S18 => iB (cmp .Eq w17 (.str "rows") S18) fun b19 => .ok (.bl b19) S18, fun e9 w16 S13 => .ok w16 S13, fun e10 S14 => .bad, fun e11 S15 => .bad⟩) : Res W) := (callN_plain rfl rfl rfl rfl).trans (by rw [bodyN_eq]; kernel_rfl)
theorem b_law_1 (k : Nat) (S : So) (it : W) (fl : Fl) (script_ : W) (start_ : Option W) (tape_ : Option W) (turn_ : Option W) (rule_ : Option W) (kept_ : Option W) (again_ : Option W) (one_ : Option W) : foF P (callN P k) 39 (sxF f_law) (sN 0 (defBody f_law.st)) it ([some script_, start_, tape_, turn_, rule_, kept_, again_, one_], fl) S =
  ((callN P k "_law_tape" [script_, it] S).bind fun w1 S2 => rgC [(.int 8)] fun q3 => (turns q3 (foF P (callN P k) 38 (sxF f_law) (sN 1 (sBlk 0 (sN 0 (defBody f_law.st))))) q3.len 0 ([some script_, some it, some w1, turn_, rule_, kept_, again_, one_], Fl.nx) S2).bind (kof ⟨fun e4 S8 => .ok ((e4, Fl.nx), true) S8, fun e5 w12 S9 => .ok ((e5, Fl.ret w12), false) S9, fun e6 S10 => .ok ((e6, Fl.nx), false) S10, fun e7 S11 => .ok ((e7, Fl.nx), true) S11⟩) : Res ((En × Fl) × Bool)) := by rw [foF_eq]; kernel_rfl
theorem b_law_2 (k : Nat) (S : So) (it : W) (fl : Fl) (script_ : W) (start_ : W) (tape_ : W) (turn_ : Option W) (rule_ : Option W) (kept_ : Option W) (again_ : Option W) (one_ : Option W) : foF P (callN P k) 38 (sxF f_law) (sN 1 (sBlk 0 (sN 0 (defBody f_law.st)))) it ([some script_, some start_, some tape_, turn_, rule_, kept_, again_, one_], fl) S =
  ((callN P k "_law_pick" [tape_, (.int 5)] S).bind fun w1 S2 => (binop false .Add (.int 1) w1 S2).bind fun w3 S4 => (callN P k "_law_free_rule" [tape_, w3] S4).bind fun w5 S6 => (builtin false "repr" [w5] S6).bind fun w7 S8 => rgC [(.int 2)] fun q9 => (turns q9 (foF P (callN P k) 37 (sxF f_law) (sN 2 (sBlk 0 (sN 1 (sBlk 0 (sN 0 (defBody f_law.st))))))) q9.len 0 ([some script_, some start_, some tape_, some it, some w5, some w7, again_, one_], Fl.nx) S8).bind (kof ⟨fun e10 S14 => .ok ((e10, Fl.nx), true) S14, fun e11 w18 S15 => .ok ((e11, Fl.ret w18), false) S15, fun e12 S16 => .ok ((e12, Fl.nx), false) S16, fun e13 S17 => .ok ((e13, Fl.nx), true) S17⟩) : Res ((En × Fl) × Bool)) := by rw [foF_eq]; kernel_rfl
theorem b_law_3 (k : Nat) (S : So) (it : W) (fl : Fl) (script_ : W) (start_ : W) (tape_ : W) (turn_ : W) (rule_ : W) (kept_ : W) (again_ : Option W) (one_ : Option W) : foF P (callN P k) 37 (sxF f_law) (sN 2 (sBlk 0 (sN 1 (sBlk 0 (sN 0 (defBody f_law.st)))))) it ([some script_, some start_, some tape_, some turn_, some rule_, some kept_, again_, one_], fl) S =
  ((callN P k "rule_text" [rule_] S).bind fun w1 S2 => ifTy (.str " ") S2 "str" ((callN P k "_law_words" [rule_] S2).bind fun w3 S4 => (method false (.str " ") "join" [w3] S4).bind fun w5 S6 => iF (cmp .NotEq w1 w5 S6) (.ok (([some script_, some start_, some tape_, some turn_, some rule_, some kept_, some it, one_], Fl.ret (.bl false)), false) S6) ((partsV rule_ S6).bind fun q7 S8 => (noX (turns q7 (lcF P (callN P k) 33 (sxF f_law) [some script_, some start_, some tape_, some turn_, some rule_, some kept_, some it, one_] (xX 1 (xX 0 (sX 0 (sN 1 (sBlk 0 (sN 2 (sBlk 0 (sN 1 (sBlk 0 (sN 0 (defBody f_law.st)))))))))))) q7.len 0 [] S8)).bind fun acc9 S10 => (builtin false "repr" [(.fl false acc9)] S10).bind fun w11 S12 => (callN P k "_law_parts" [rule_] S12).bind fun w13 S14 => (builtin false "repr" [w13] S14).bind fun w15 S16 => iF (cmp .NotEq w11 w15 S16) (.ok (([some script_, some start_, some tape_, some turn_, some rule_, some kept_, some it, one_], Fl.ret (.bl false)), false) S16) ((builtin false "repr" [rule_] S16).bind fun w17 S18 => iF (cmp .NotEq w17 kept_ S18) (.ok (([some script_, some start_, some tape_, some turn_, some rule_, some kept_, some it, one_], Fl.ret (.bl false)), false) S18) (.ok (([some script_, some start_, some tape_, some turn_, some rule_, some kept_, some it, one_], Fl.nx), true) S18)))) : Res ((En × Fl) × Bool)) := by rw [foF_eq]; kernel_rfl
theorem c_law_1 (k : Nat) (S : So) (it : W) (acc : List W) (script_ : W) (start_ : W) (tape_ : W) (turn_ : W) (rule_ : W) (kept_ : W) (again_ : W) (one_ : Option W) : lcF P (callN P k) 33 (sxF f_law) [some script_, some start_, some tape_, some turn_, some rule_, some kept_, some again_, one_] (xX 1 (xX 0 (sX 0 (sN 1 (sBlk 0 (sN 2 (sBlk 0 (sN 1 (sBlk 0 (sN 0 (defBody f_law.st))))))))))) it acc S =
  (if acc.length < sizeLine then .ok (acc ++ [it], true) S else .bad : Res (List W × Bool)) := by rw [lcF_eq]; kernel_rfl
end K8

namespace K8
open PySem Y L2
/-! the well -/
def Wl (d m : Int) : O := .dct [(.str "digits", .int d), (.str "mixed", .int m)]
def Ok (m : Int) : Prop := 0 ≤ m ∧ m < 4294967296
theorem w_dig {S : So} {i : Nat} {d m : Int} (h : S[i]? = some (Wl d m)) : item (.ref i) (.str "digits") S = some (.int d) := (it_dct h rfl rfl).trans rfl
theorem w_mix {S : So} {i : Nat} {d m : Int} (h : S[i]? = some (Wl d m)) : item (.ref i) (.str "mixed") S = some (.int m) := (it_dct h rfl rfl).trans rfl
theorem w_sdig {S : So} {i : Nat} {d m v : Int} (h : S[i]? = some (Wl d m)) : Y.setItem (.ref i) (.str "digits") (.int v) S = some (S.set i (Wl v m)) := by
  unfold Y.setItem; simp only [h]; rfl
theorem w_smix {S : So} {i : Nat} {d m v : Int} (h : S[i]? = some (Wl d m)) : Y.setItem (.ref i) (.str "mixed") (.int v) S = some (S.set i (Wl d v)) := by
  unfold Y.setItem; simp only [h]; rfl
theorem bB {m : Int} (h : Ok m) : Builtin.Int.intBits m ≤ 32 := bits_ltI h.1 (by have := h.2; omega)
theorem shutW {d m : Int} : shutO (Wl d m) := shutO_dct rfl
/-- a well stands at i -/
def At (S : So) (i : Nat) : Prop := ∃ d m, S[i]? = some (Wl d m) ∧ Ok m
/-- nothing but the well has moved -/
def Adv (i : Nat) (S S' : So) : Prop := ∃ d m, S' = S.set i (Wl d m) ∧ Ok m
theorem Adv.at {i : Nat} {S S' : So} (h : At S i) (a : Adv i S S') : At S' i := by
  obtain ⟨d, m, e, _⟩ := h
  obtain ⟨d', m', rfl, o⟩ := a
  exact ⟨d', m', get_set e, o⟩
theorem Adv.trans {i : Nat} {S S1 S2 : So} (a : Adv i S S1) (b : Adv i S1 S2) : Adv i S S2 := by
  obtain ⟨d, m, rfl, _⟩ := a
  obtain ⟨d', m', rfl, o⟩ := b
  exact ⟨d', m', by rw [List.set_set], o⟩
theorem Adv.refl {i : Nat} {S : So} (h : At S i) : Adv i S S := by
  obtain ⟨d, m, e, o⟩ := h
  refine ⟨d, m, ?_, o⟩
  apply List.ext_getElem?
  intro j
  by_cases hj : j = i
  · subst hj; rw [get_set e, e]
  · rw [List.getElem?_set_ne (Ne.symm hj)]
theorem Adv.shut {i : Nat} {S S' : So} (a : Adv i S S') (h : Shut S) : Shut S' := by
  obtain ⟨d, m, rfl, _⟩ := a
  exact h.set shutW
theorem Adv.len {i : Nat} {S S' : So} (a : Adv i S S') : S'.length = S.length := by
  obtain ⟨d, m, rfl, _⟩ := a
  simp
theorem draw {k i : Nat} {S : So} {size : Int} (h : At S i) (h0 : 0 < size) (h1 : size < 1073741824) : Yes (callN P (k + 1) "_law_pick" [.ref i, .int size] S) fun r S' => ∃ x : Int, r = .int x ∧ 0 ≤ x ∧ x < size ∧ Adv i S S' := by
  obtain ⟨d, m, hS, hm⟩ := h
  rw [e_law_pick, w_dig hS]
  simp only [oOk, bOk, c_geI]
  by_cases h : size ≤ d
  · simp only [decide_eq_true h, iF_t, vb_intI, bOk, b_mod h0, b_div ⟨h0, h1⟩, w_sdig hS, oOk, w_dig hS]
    exact yes_ok ⟨_, rfl, Int.emod_nonneg _ (by omega), Int.emod_lt_of_pos _ h0, _, _, rfl, hm⟩
  · have m1 : Ok ((m * 40014 + 1013) % 2147483563) := ⟨Int.emod_nonneg _ (by decide), Int.lt_trans (Int.emod_lt_of_pos _ (by decide)) (by decide)⟩
    generalize hM : (m * 40014 + 1013) % 2147483563 = M at m1
    have x2 : Ok (M ^ (2 : Int).toNat % 2147483399) := ⟨Int.emod_nonneg _ (by decide), Int.lt_trans (Int.emod_lt_of_pos _ (by decide)) (by decide)⟩
    have g1 : Builtin.Int.intBits m + Builtin.Int.intBits 40014 ≤ 134217728 := Nat.le_trans (Nat.add_le_add (bB hm) (show Builtin.Int.intBits 40014 ≤ 16 by decide +kernel)) (by decide)
    have g2 : (0 : Int) ≤ 2 ∧ (Builtin.Int.intBits M : Int) * 2 ≤ 134217728 := by have := bB m1; omega
    have g3 : (0 : Int) ≤ 3 ∧ (Builtin.Int.intBits (M ^ (2 : Int).toNat % 2147483399) : Int) * 3 ≤ 134217728 := by have := bB x2; omega
    simp (disch := decide +kernel) only [decide_eq_false h, iF_f, w_mix hS, oOk, bOk, b_mul g1, b_addI, vb_intI, b_mod, hM, w_smix hS, w_mix (get_set hS), b_pow g2, b_pow g3, b_mod h0, b_div]
    exact yes_ok ⟨_, rfl, Int.emod_nonneg _ (by omega), Int.emod_lt_of_pos _ h0, _, _, rfl, m1⟩
theorem choose {k i : Nat} {S : So} {t : Bool} {xs : List W} (h : At S i) (h0 : 0 < xs.length) (h1 : xs.length < 1000) : Yes (callN P (k + 2) "_law_one_of" [.ref i, .fl t xs] S) fun r S' => r ∈ xs ∧ Adv i S S' := by
  rw [e_law_one_of, len_fl, bOk]
  refine yes_bind (draw h (by omega) (by omega)) ?_
  rintro _ S' ⟨x, rfl, q0, q1, a⟩
  have hx : x.toNat < xs.length := by omega
  rw [it_fl, atI_ok q0 (List.getElem?_eq_getElem hx)]
  exact yes_ok ⟨List.getElem_mem hx, a⟩
theorem chooseR {k i D : Nat} {S : So} {xs : List W} (h : At S i) (hD : S[D]? = some (.lst xs)) (h0 : 0 < xs.length) (h1 : xs.length < 1000) : Yes (callN P (k + 2) "_law_one_of" [.ref i, .ref D] S) fun r S' => r ∈ xs ∧ Adv i S S' := by
  rw [e_law_one_of, len_ref hD, bOk]
  refine yes_bind (draw h (by omega) (by omega)) ?_
  rintro _ S' ⟨x, rfl, q0, q1, d', m', rfl, o⟩
  have hx : x.toNat < xs.length := by omega
  have nD : D ≠ i := by
    rintro rfl
    obtain ⟨d, m, e, _⟩ := h
    rw [e] at hD; cases hD
  rw [it_lst (get_other hD nD), atI_ok q0 (List.getElem?_eq_getElem hx)]
  exact yes_ok ⟨List.getElem_mem hx, d', m', rfl, o⟩
theorem okMod {x : Int} : Ok (x % 2147483563 + 2) := by
  have h1 := Int.emod_nonneg x (show (2147483563 : Int) ≠ 0 by decide)
  have h2 := Int.emod_lt_of_pos x (show (0 : Int) < 2147483563 by decide)
  exact ⟨by omega, by omega⟩
theorem p18 {S : So} {m : Bool} : binop m .Pow (.int 10) (.int 18) S = .ok (.int ((10 : Int) ^ (18 : Int).toNat)) S := b_pow (by decide +kernel)
theorem well {k : Nat} {S : So} {ns : List Int} {start : Int} (hb : ∀ z ∈ ns, Builtin.Int.intBits z ≤ 1048576) (h0 : 0 ≤ start) (h1 : start < 1000) : Yes (callN P (k + 1) "_law_tape" [.fl false (ns.map W.int), .int start] S) fun r S' => ∃ d m, r = .ref S.length ∧ S' = S ++ [Wl d m] ∧ Ok m := by
  rw [e_law_tape]
  have g1 : Builtin.Int.intBits start + Builtin.Int.intBits 31 ≤ 134217728 := Nat.le_trans (Nat.add_le_add (bits_ltI (n := 10) h0 (by omega)) (show Builtin.Int.intBits 31 ≤ 16 by decide +kernel)) (by decide)
  simp only [b_mul g1, bOk, b_addI, vw_fl]
  refine yes_turns (fun j r S' => S' = S ∧ r.2 = .nx ∧ ∃ (M : Int) (a : Option W), Ok M ∧ r.1 = [some (.fl false (ns.map W.int)), some (.int start), some (.int M), a, none]) ?_ ?_ ?_
  · exact ⟨rfl, rfl, _, none, ⟨by omega, by omega⟩, rfl⟩
  · rintro j ⟨e, fl⟩ S' w hw ⟨rfl, hfl, M, a, hM, he⟩
    dsimp only at hfl he
    subst hfl he
    rw [List.getElem?_map] at hw
    obtain ⟨z, hz, rfl⟩ := Option.map_eq_some_iff.mp hw
    have bz := hb z (List.mem_of_getElem? hz)
    have g2 : Builtin.Int.intBits M + Builtin.Int.intBits 30011 ≤ 134217728 := Nat.le_trans (Nat.add_le_add (bB hM) (show Builtin.Int.intBits 30011 ≤ 17 by decide +kernel)) (by decide)
    have g3 : Builtin.Int.intBits z + Builtin.Int.intBits z ≤ 134217728 := by omega
    have b1 := intBits_mul_le (bB hM) (show Builtin.Int.intBits 30011 ≤ 17 by decide +kernel)
    have b2 := intBits_add_le (intBits_add_le b1 (intBits_mul_le bz bz)) (show Builtin.Int.intBits 7 ≤ 6 by decide +kernel)
    have g4 : (0 : Int) ≤ 2 ∧ (Builtin.Int.intBits (M * 30011 + z * z + 7) : Int) * 2 ≤ 134217728 := by
      have : Builtin.Int.intBits (M * 30011 + z * z + 7) ≤ 4000000 := Nat.le_trans b2 (by decide)
      omega
    rw [b_law_tape_1]
    simp (disch := decide +kernel) only [b_mul g2, b_mul g3, b_addI, b_pow g4, b_mod, vb_intI, bOk]
    exact yes_ok ⟨rfl, rfl, rfl, _, _, okMod, rfl⟩
  · rintro ⟨e, fl⟩ S' ⟨rfl, hfl, M, a, hM, he⟩
    dsimp only at hfl he
    subst hfl he
    have fin : ∀ dd : Int, (mkD true [(.str "digits", .int dd), (.str "mixed", .int M)] S').bind (fun w23 S24 => (Res.ok w23 S24 : Res W)) = .ok (.ref S'.length) (S' ++ [Wl dd M]) := fun _ => rfl
    simp only [kNx, sl0, slS, oOk, bOk, len_fl, c_ltI, List.set_cons_succ, List.set_cons_zero, p18, c_geI, fin]
    by_cases hlt : start < ((List.map W.int ns).length : Int)
    · rw [decide_eq_true hlt, iF_t]
      have hl : start.toNat < ns.length := by rw [List.length_map] at hlt; omega
      have hi : item (.fl false (ns.map W.int)) (.int start) S' = some (.int ns[start.toNat]) := by
        rw [it_fl, atI_ok h0 (show (ns.map W.int)[start.toNat]? = some (.int ns[start.toNat]) by rw [List.getElem?_map, List.getElem?_eq_getElem hl]; rfl)]
      simp only [hi, oOk, bOk, p18, c_geI, b_subI, fin]
      by_cases hv : (10 : Int) ^ (18 : Int).toNat ≤ ns[start.toNat]
      · rw [decide_eq_true hv, iF_t]
        exact yes_ok ⟨_, _, rfl, rfl, hM⟩
      · rw [decide_eq_false hv, iF_f]
        exact yes_ok ⟨_, _, rfl, rfl, hM⟩
    · rw [decide_eq_false hlt, iF_f]
      exact yes_ok ⟨_, _, rfl, rfl, hM⟩
end K8

namespace K8
open PySem Y L2
/-! data that may be written out -/
mutual
def vdW (b : Nat) : W → Bool
  | .non => true
  | .bl _ => true
  | .int i => decide (0 ≤ i) && decide (i ≤ 100)
  | .str z => fitS z
  | .tup xs => decide (xs.length ≤ b) && vdWs b xs
  | .fl t xs => !t && (decide (xs.length ≤ b) && vdWs b xs)
  | .fd t kvs => !t && kvs.isEmpty
  | _ => false
def vdWs (b : Nat) : List W → Bool
  | [] => true
  | x :: xs => vdW b x && vdWs b xs
end
mutual
def wtW : W → Nat
  | .int _ => 40
  | .str z => z.length
  | .tup xs => wtWs xs
  | .fl _ xs => wtWs xs
  | _ => 0
def wtWs : List W → Nat
  | [] => 0
  | x :: xs => wtW x + 1 + wtWs xs
end
mutual
def dpW : W → Nat
  | .tup xs => dpWs xs + 1
  | .fl _ xs => dpWs xs + 1
  | .fd _ _ => 1
  | _ => 0
def dpWs : List W → Nat
  | [] => 0
  | x :: xs => max (dpW x) (dpWs xs)
end
mutual
theorem vd_ok {b : Nat} : ∀ w : W, vdW b w = true → ∃ d, dt w = some d ∧ d.showable = true ∧ d.depth ≤ dpW w ∧ d.leavesShort 8 = true ∧ d.weight ≤ wtW w
  | .non, _ => ⟨_, rfl, rfl, Nat.zero_le _, rfl, Nat.zero_le _⟩
  | .bl _, _ => ⟨_, rfl, rfl, Nat.zero_le _, rfl, Nat.zero_le _⟩
  | .int i, h => by
    unfold vdW at h
    rw [Bool.and_eq_true] at h
    have h0 := of_decide_eq_true h.1
    have h1 := of_decide_eq_true h.2
    obtain ⟨m, rfl⟩ := Int.eq_ofNat_of_zero_le h0
    obtain ⟨a, b, c⟩ := int_short m (by omega)
    refine ⟨_, rfl, b, Nat.zero_le _, a, ?_⟩
    unfold wtW; exact c
  | .str z, h => by
    unfold vdW at h
    have s := fit_str h 0
    refine ⟨.str z, rfl, s.sh, Nat.zero_le _, s.sl, ?_⟩
    unfold wtW; exact Nat.le_refl _
  | .tup xs, h => by
    unfold vdW at h
    rw [Bool.and_eq_true] at h
    obtain ⟨ds, e, a1, a2, a3, a4⟩ := vds_ok xs h.2
    refine ⟨.tuple ds, ?_, a1, ?_, a3, ?_⟩
    · show (dWs _ xs).map _ = _
      rw [e]; rfl
    · unfold dpW; exact Nat.succ_le_succ a2
    · unfold wtW; exact a4
  | .fl t xs, h => by
    unfold vdW at h
    rw [Bool.and_eq_true, Bool.and_eq_true] at h
    obtain ⟨ds, e, a1, a2, a3, a4⟩ := vds_ok xs h.2.2
    refine ⟨.list ds, ?_, a1, ?_, a3, ?_⟩
    · show (dWs _ xs).map _ = _
      rw [e]; rfl
    · unfold dpW; exact Nat.succ_le_succ a2
    · unfold wtW; exact a4
  | .fd t kvs, h => by
    unfold vdW at h
    rw [Bool.and_eq_true] at h
    have e : kvs = [] := List.isEmpty_iff.mp h.2
    subst e
    exact ⟨.dict [], rfl, rfl, by unfold dpW; exact Nat.le_refl _, rfl, Nat.zero_le _⟩
  | .ref _, h => by unfold vdW at h; cases h
  | .ty _, h => by unfold vdW at h; cases h
  | .glo _, h => by unfold vdW at h; cases h
  | .fins _ _ _, h => by unfold vdW at h; cases h
theorem vds_ok {b : Nat} : ∀ xs : List W, vdWs b xs = true → ∃ ds, dWs (fun _ => none) xs = some ds ∧ PyData.showableAll ds = true ∧ PyData.depthAll ds ≤ dpWs xs ∧ PyData.leavesShortAll 8 ds = true ∧ PyData.weightAll ds ≤ wtWs xs
  | [], _ => ⟨[], rfl, rfl, Nat.zero_le _, rfl, Nat.zero_le _⟩
  | x :: xs, h => by
    unfold vdWs at h
    rw [Bool.and_eq_true] at h
    obtain ⟨d, e, s1, s2, s3, s4⟩ := vd_ok x h.1
    obtain ⟨ds, e1, a1, a2, a3, a4⟩ := vds_ok xs h.2
    refine ⟨d :: ds, ?_, ?_, ?_, ?_, ?_⟩
    · unfold dWs
      rw [show dW (fun _ => none) x = some d from e, e1]
    · show (d.showable && PyData.showableAll ds) = true
      rw [s1, a1]; rfl
    · show max d.depth (PyData.depthAll ds) ≤ _
      unfold dpWs
      omega
    · show (d.leavesShort 8 && PyData.leavesShortAll 8 ds) = true
      rw [s3, a3]; rfl
    · show d.weight + 1 + PyData.weightAll ds ≤ _
      unfold wtWs
      omega
end
theorem vd_repr {b : Nat} {w : W} (h : vdW b w = true) (h1 : dpW w ≤ 150) (h2 : wtW w ≤ 1048576) : ∃ x : Str, ∀ (m : Bool) (S : So), builtin m "repr" [w] S = .ok (.str x) S := by
  obtain ⟨d, e, s1, s2, s3, s4⟩ := vd_ok w h
  exact ⟨d.shown, fun m S => vb_repr e (reOk_of s1 (by omega) s3 (by omega))⟩
mutual
theorem vd_free {b : Nat} : ∀ w : W, vdW b w = true → freeW w = true
  | .non, _ => rfl
  | .bl _, _ => rfl
  | .int i, h => rfl
  | .str z, h => rfl
  | .tup xs, h => by
    unfold vdW at h
    rw [Bool.and_eq_true] at h
    unfold freeW
    exact vds_free xs h.2
  | .fl t xs, h => by
    unfold vdW at h
    rw [Bool.and_eq_true, Bool.and_eq_true] at h
    unfold freeW
    rw [vds_free xs h.2.2, h.1]; rfl
  | .fd t kvs, h => by
    unfold vdW at h
    rw [Bool.and_eq_true] at h
    have e : kvs = [] := List.isEmpty_iff.mp h.2
    subst e
    unfold freeW
    rw [h.1]; rfl
  | .ref _, h => by unfold vdW at h; cases h
  | .ty _, h => by unfold vdW at h; cases h
  | .glo _, h => by unfold vdW at h; cases h
  | .fins _ _ _, h => by unfold vdW at h; cases h
theorem vds_free {b : Nat} : ∀ xs : List W, vdWs b xs = true → freeWs xs = true
  | [], _ => rfl
  | x :: xs, h => by
    unfold vdWs at h
    rw [Bool.and_eq_true] at h
    unfold freeWs
    rw [vd_free x h.1, vds_free xs h.2]; rfl
end
mutual
theorem vd_up {b c : Nat} (hb : b ≤ c) : ∀ w : W, vdW b w = true → vdW c w = true
  | .non, _ => by unfold vdW; rfl
  | .bl _, _ => by unfold vdW; rfl
  | .int i, h => by unfold vdW at h ⊢; exact h
  | .str z, h => by unfold vdW at h ⊢; exact h
  | .tup xs, h => by
    unfold vdW at h ⊢
    rw [Bool.and_eq_true] at h
    have h1 := of_decide_eq_true h.1
    rw [decide_eq_true (show xs.length ≤ c by omega), vds_up hb xs h.2]; rfl
  | .fl t xs, h => by
    unfold vdW at h ⊢
    rw [Bool.and_eq_true, Bool.and_eq_true] at h
    have h1 := of_decide_eq_true h.2.1
    rw [h.1, decide_eq_true (show xs.length ≤ c by omega), vds_up hb xs h.2.2]; rfl
  | .fd t kvs, h => by unfold vdW at h ⊢; exact h
  | .ref _, h => by unfold vdW at h; cases h
  | .ty _, h => by unfold vdW at h; cases h
  | .glo _, h => by unfold vdW at h; cases h
  | .fins _ _ _, h => by unfold vdW at h; cases h
theorem vds_up {b c : Nat} (hb : b ≤ c) : ∀ xs : List W, vdWs b xs = true → vdWs c xs = true
  | [], _ => by unfold vdWs; rfl
  | x :: xs, h => by
    unfold vdWs at h ⊢
    rw [Bool.and_eq_true] at h
    rw [vd_up hb x h.1, vds_up hb xs h.2]; rfl
end
theorem vds_mem {b : Nat} : ∀ {xs : List W}, vdWs b xs = true ↔ ∀ x ∈ xs, vdW b x = true
  | [] => by unfold vdWs; simp
  | x :: xs => by unfold vdWs; rw [Bool.and_eq_true, vds_mem]; simp
theorem dps_mem {n : Nat} : ∀ {xs : List W}, dpWs xs ≤ n ↔ ∀ x ∈ xs, dpW x ≤ n
  | [] => by unfold dpWs; simp
  | x :: xs => by unfold dpWs; rw [Nat.max_le, dps_mem]; simp
theorem wt_tup {xs : List W} : wtW (.tup xs) = wtWs xs := by rw [wtW]
theorem wt1 {x : W} {xs : List W} : wtWs (x :: xs) = wtW x + 1 + wtWs xs := by rw [wtWs]
theorem wt0 : wtWs [] = 0 := by rw [wtWs]
theorem wts_app : ∀ {xs ys : List W}, wtWs (xs ++ ys) = wtWs xs + wtWs ys
  | [], ys => by rw [List.nil_append, wt0]; omega
  | x :: xs, ys => by rw [List.cons_append, wt1, wt1, wts_app]; omega
theorem vdE {b : Nat} {xs : List W} : vdW b (.tup xs) = (decide (xs.length ≤ b) && vdWs b xs) := by rw [vdW]
theorem dpE {xs : List W} : dpW (.tup xs) = dpWs xs + 1 := by rw [dpW]
theorem vd_tup {b : Nat} {xs : List W} : vdW b (.tup xs) = true ↔ xs.length ≤ b ∧ ∀ x ∈ xs, vdW b x = true := by
  rw [vdE, Bool.and_eq_true, decide_eq_true_eq, vds_mem]
theorem dp_tup {n : Nat} {xs : List W} : dpW (.tup xs) ≤ n + 1 ↔ ∀ x ∈ xs, dpW x ≤ n := by
  rw [dpE, Nat.add_le_add_iff_right, dps_mem]
end K8

namespace K8
open PySem Y L2
/-! what is drawn -/
theorem pick' {m i : Nat} {S : So} {size : Int} (hm : 1 ≤ m) (h : At S i) (h0 : 0 < size) (h1 : size < 1073741824) : Yes (callN P m "_law_pick" [.ref i, .int size] S) fun r S' => ∃ x : Int, r = .int x ∧ 0 ≤ x ∧ x < size ∧ Adv i S S' := by
  obtain ⟨k, rfl⟩ : ∃ k, m = k + 1 := ⟨m - 1, by omega⟩
  exact draw h h0 h1
theorem one' {m i : Nat} {S : So} {t : Bool} {xs : List W} (hm : 2 ≤ m) (h : At S i) (h0 : 0 < xs.length) (h1 : xs.length < 1000) : Yes (callN P m "_law_one_of" [.ref i, .fl t xs] S) fun r S' => r ∈ xs ∧ Adv i S S' := by
  obtain ⟨k, rfl⟩ : ∃ k, m = k + 2 := ⟨m - 2, by omega⟩
  exact choose h h0 h1
/-- small things -/
def isS : W → Bool
  | .str _ => true
  | _ => false
def sm (w : W) : Bool := (vdW 4 w && decide (wtW w ≤ 40) && decide (dpW w ≤ 1)) && isS w
def wordsA : List W := [.str "p", .str "q", .str "r", .str "l", .str "up", .str "abcdefgh", .str "z", .str "same", .str "link"]
theorem wordsA_sm : wordsA.all sm = true := by decide +kernel
theorem word {m i : Nat} {S : So} (hm : 3 ≤ m) (h : At S i) : Yes (callN P m "_law_word" [.ref i] S) fun r S' => sm r = true ∧ Adv i S S' := by
  obtain ⟨k, rfl⟩ : ∃ k, m = k + 1 := ⟨m - 1, by omega⟩
  rw [e_law_word]
  refine yes_bind (one' (xs := wordsA) (by omega) h (by decide) (by decide)) ?_
  rintro w S1 ⟨m1, a1⟩
  exact yes_ok ⟨List.all_eq_true.mp wordsA_sm _ m1, a1⟩
theorem sm_vd {w : W} (h : sm w = true) : vdW 4 w = true ∧ wtW w ≤ 40 ∧ dpW w ≤ 1 := by
  unfold sm at h
  rw [Bool.and_eq_true, Bool.and_eq_true, Bool.and_eq_true] at h
  exact ⟨h.1.1.1, of_decide_eq_true h.1.1.2, of_decide_eq_true h.1.2⟩
theorem sm_str {w : W} (h : sm w = true) : ∃ y : Str, w = .str y ∧ y.length ≤ 40 := by
  have h2 := (sm_vd h).2.1
  unfold sm at h
  rw [Bool.and_eq_true] at h
  cases w with
  | str y => exact ⟨y, rfl, by rw [wtW] at h2; exact h2⟩
  | _ => cases h.2
def Bd : Nat → Nat
  | 0 => 100
  | n + 1 => 3 * Bd n + 100
theorem Bd_le (n : Nat) : 100 ≤ Bd n := by cases n <;> simp [Bd]
def Sz (d : Nat) (w : W) : Prop := vdW 4 w = true ∧ wtW w ≤ Bd d ∧ dpW w ≤ d + 2
/-- how a rule is made -/
inductive Sh : Nat → W → Prop where
  | rows (d : Nat) : Sz d (.tup [.str "rows"]) → Sh d (.tup [.str "rows"])
  | same (d : Nat) (y : Str) : Sz d (.tup [.str "same", .str y]) → y.length ≤ 40 → Sh d (.tup [.str "same", .str y])
  | via (d : Nat) (y z : Str) : Sz d (.tup [.str "via", .str y, .str z]) → y.length ≤ 40 → z.length ≤ 40 → Sh d (.tup [.str "via", .str y, .str z])
  | but (d : Nat) (r : W) (y : Str) : Sz (d + 1) (.tup [.str "but", r, .str y]) → Sh d r → y.length ≤ 40 → Sh (d + 1) (.tup [.str "but", r, .str y])
  | op (d : Nat) (o : Str) (x : W) (xs : List W) : Sz (d + 1) (.tup (.str o :: x :: xs)) → (o = "or" ∨ o = "and") → xs.length ≤ 2 → Sh d x → (∀ w ∈ xs, Sh d w) → Sh (d + 1) (.tup (.str o :: x :: xs))
theorem Sh.sz {d : Nat} {w : W} (h : Sh d w) : Sz d w := by cases h <;> assumption
/-- a rule as it is drawn -/
structure FR (d : Nat) (w : W) : Prop where
  sh : Sh d w
  tup : ∃ x xs, w = .tup (x :: xs)
  vd : vdW 4 w = true
  wt : wtW w ≤ Bd d
  dp : dpW w ≤ d + 2
theorem FR.mk' {d : Nat} {x : W} {xs : List W} (h0 : Sz d (.tup (x :: xs)) → Sh d (.tup (x :: xs))) (h1 : (x :: xs).length ≤ 4) (h2 : ∀ y ∈ x :: xs, vdW 4 y = true ∧ dpW y ≤ d + 1) (h3 : wtWs (x :: xs) ≤ Bd d) : FR d (.tup (x :: xs)) :=
  have z : Sz d (.tup (x :: xs)) := ⟨vd_tup.mpr ⟨h1, fun y m => (h2 y m).1⟩, by rw [wt_tup]; exact h3, dp_tup.mpr fun y m => (h2 y m).2⟩
  ⟨h0 z, ⟨_, _, rfl⟩, z.1, z.2.1, z.2.2⟩
theorem vdS {b : Nat} {z : Str} (h : fitS z = true) : vdW b (.str z) = true ∧ dpW (.str z) ≤ 0 ∧ wtW (.str z) = z.length := by
  refine ⟨by rw [vdW]; exact h, ?_, by rw [wtW]⟩
  rw [dpW] <;> first | exact Nat.le_refl _ | nofun
theorem lock_yes {S : So} {i : Nat} {r : Res W} {Q : W → Prop} (hA : At S i) (hs : Shut S) (h : Yes r fun w T => freeW w = true ∧ Q w ∧ ∃ S' U, T = S' ++ U ∧ Adv i S S') : Yes (lockR S.length r) fun w S' => Q w ∧ Adv i S S' := by
  obtain ⟨w, T, rfl, hf, q, S', U, rfl, a⟩ := h
  have := lock_ok (w := w) (S := S') (S' := S' ++ U) (T := U) hf rfl (a.shut hs)
  rw [a.len] at this
  exact ⟨w, S', this, q, a⟩
theorem vb_tupR {S : So} {i : Nat} {xs : List W} {m : Bool} (h : S[i]? = some (.lst xs)) : builtin m "tuple" [.ref i] S = .ok (.tup xs) S := by
  show (match lstOf (.ref i) S with | some xs => Res.ok (W.tup xs) S | none => .bad) = _
  rw [lst_ref h]
theorem f_rows : fitS "rows" = true ∧ fitS "same" = true ∧ fitS "via" = true ∧ fitS "but" = true ∧ fitS "or" = true ∧ fitS "and" = true := by decide +kernel
theorem l_rows : ("rows" : Str).length = 4 ∧ ("same" : Str).length = 4 ∧ ("via" : Str).length = 3 ∧ ("but" : Str).length = 3 ∧ ("or" : Str).length = 2 ∧ ("and" : Str).length = 3 := by decide +kernel
theorem small : ∀ {d : Nat}, FR d (.tup [.str "rows"]) := fun {d} => by
  have := Bd_le d
  obtain ⟨a, b, c⟩ := vdS (b := 4) f_rows.1
  refine FR.mk' (fun z => .rows _ z) (by decide) (fun y m => ?_) (by rw [wt1, wt0, c]; have := l_rows.1; omega)
  rw [List.mem_singleton] at m; subst m
  exact ⟨a, by omega⟩
theorem same1 {d : Nat} {w : W} (h : sm w = true) : FR d (.tup [.str "same", w]) := by
  have := Bd_le d
  obtain ⟨a, b, c⟩ := vdS (b := 4) f_rows.2.1
  obtain ⟨a1, b1, c1⟩ := sm_vd h
  obtain ⟨y0, rfl, hy⟩ := sm_str h
  refine FR.mk' (fun z => .same _ _ z hy) (by simp) (fun y m => ?_) (by rw [wt1, wt1, wt0, c]; have := l_rows.2.1; omega)
  simp only [List.mem_cons, List.not_mem_nil, or_false] at m
  rcases m with rfl | rfl
  · exact ⟨a, by omega⟩
  · exact ⟨a1, by omega⟩
theorem via2 {d : Nat} {w v : W} (h : sm w = true) (h2 : sm v = true) : FR d (.tup [.str "via", w, v]) := by
  have := Bd_le d
  obtain ⟨a, b, c⟩ := vdS (b := 4) f_rows.2.2.1
  obtain ⟨a1, b1, c1⟩ := sm_vd h
  obtain ⟨a2, b2, c2⟩ := sm_vd h2
  obtain ⟨y0, rfl, hy⟩ := sm_str h
  obtain ⟨z0, rfl, hz⟩ := sm_str h2
  refine FR.mk' (fun z => .via _ _ _ z hy hz) (by simp) (fun y m => ?_) (by rw [wt1, wt1, wt1, wt0, c]; have := l_rows.2.2.1; omega)
  simp only [List.mem_cons, List.not_mem_nil, or_false] at m
  rcases m with rfl | rfl | rfl
  · exact ⟨a, by omega⟩
  · exact ⟨a1, by omega⟩
  · exact ⟨a2, by omega⟩
theorem but2 {d : Nat} {w v : W} (h : FR d w) (h2 : sm v = true) : FR (d + 1) (.tup [.str "but", w, v]) := by
  have := Bd_le d
  obtain ⟨a, b, c⟩ := vdS (b := 4) f_rows.2.2.2.1
  obtain ⟨a2, b2, c2⟩ := sm_vd h2
  have q := h.wt
  have e : Bd (d + 1) = 3 * Bd d + 100 := rfl
  obtain ⟨z0, rfl, hz⟩ := sm_str h2
  refine FR.mk' (fun z => .but _ _ _ z h.sh hz) (by simp) (fun y m => ?_) (by rw [wt1, wt1, wt1, wt0, c, e]; have := l_rows.2.2.2.1; omega)
  simp only [List.mem_cons, List.not_mem_nil, or_false] at m
  rcases m with rfl | rfl | rfl
  · exact ⟨a, by omega⟩
  · exact ⟨h.vd, h.dp⟩
  · exact ⟨a2, by omega⟩
theorem wts_le {n : Nat} : ∀ {xs : List W}, (∀ x ∈ xs, wtW x ≤ n) → wtWs xs ≤ xs.length * (n + 1)
  | [], _ => by rw [wt0]; exact Nat.zero_le _
  | x :: xs, h => by
    have h1 := h x (by simp)
    have h2 := wts_le (xs := xs) fun y m => h y (by simp [m])
    rw [wt1, List.length_cons, Nat.add_mul]
    omega
theorem many {d : Nat} {z : Str} {xs : List W} (hz : z = "or" ∨ z = "and") (h0 : 1 ≤ xs.length) (h1 : xs.length ≤ 3) (h : ∀ x ∈ xs, FR d x) : FR (d + 1) (.tup (.str z :: xs)) := by
  have := Bd_le d
  have fz : fitS z = true ∧ z.length ≤ 3 := by
    have := l_rows
    rcases hz with rfl | rfl
    · exact ⟨f_rows.2.2.2.2.1, by omega⟩
    · exact ⟨f_rows.2.2.2.2.2, by omega⟩
  obtain ⟨a, b, c⟩ := vdS (b := 4) fz.1
  have e : Bd (d + 1) = 3 * Bd d + 100 := rfl
  have sh : Sz (d + 1) (.tup (.str z :: xs)) → Sh (d + 1) (.tup (.str z :: xs)) := fun sz => by
    cases xs with
    | nil => simp at h0
    | cons x xs => exact .op _ _ _ _ sz hz (by simp only [List.length_cons] at h1; omega) (h x (by simp)).sh fun w m => (h w (by simp [m])).sh
  refine FR.mk' sh (by simp only [List.length_cons]; omega) (fun y m => ?_) ?_
  · rcases List.mem_cons.mp m with rfl | m
    · exact ⟨a, by omega⟩
    · exact ⟨(h y m).vd, (h y m).dp⟩
  · have q := wts_le (n := Bd d) fun x m => (h x m).wt
    have q2 : xs.length * (Bd d + 1) ≤ 3 * (Bd d + 1) := Nat.mul_le_mul_right _ h1
    rw [wt1, c, e]
    omega
end K8

namespace K8
open PySem Y L2
theorem free : ∀ (d : Nat) {m i : Nat} {S : So}, d + 4 ≤ m → At S i → Shut S → Yes (callN P m "_law_free_rule" [.ref i, .int d] S) fun r S' => FR d r ∧ Adv i S S' := by
  intro d
  induction d with
  | zero =>
    intro m i S hm hA hs
    obtain ⟨k, rfl⟩ : ∃ k, m = k + 1 := ⟨m - 1, by omega⟩
    rw [e_law_free_rule]
    refine lock_yes hA hs ?_
    rw [c_gtI, decide_eq_false (by decide), iF_f]
    refine yes_bind (pick' (by omega) hA (by decide) (by decide)) ?_
    rintro _ S1 ⟨x, rfl, x0, x1, a1⟩
    have A1 := a1.at hA
    dsimp only
    rw [c_eqI]
    by_cases y0 : x = 0
    · rw [decide_eq_true y0, iF_t]
      exact yes_ok ⟨rfl, small, S1, [], by simp, a1⟩
    rw [decide_eq_false y0, iF_f, c_eqI]
    by_cases y1 : x = 1
    · rw [decide_eq_true y1, iF_t]
      refine yes_bind (word (by omega) A1) ?_
      rintro w S2 ⟨w1, a2⟩
      have f := same1 (d := 0) w1
      exact yes_ok ⟨vd_free _ f.vd, f, S2, [], by simp, a1.trans a2⟩
    rw [decide_eq_false y1, iF_f, c_eqI, decide_eq_true (show x = 2 by omega), iF_t]
    refine yes_bind (word (by omega) A1) ?_
    rintro w S2 ⟨w1, a2⟩
    refine yes_bind (word (by omega) (a2.at A1)) ?_
    rintro v S3 ⟨w2, a3⟩
    have f := via2 (d := 0) w1 w2
    exact yes_ok ⟨vd_free _ f.vd, f, S3, [], by simp, (a1.trans a2).trans a3⟩
  | succ d ih =>
    intro m i S hm hA hs
    obtain ⟨k, rfl⟩ : ∃ k, m = k + 1 := ⟨m - 1, by omega⟩
    have hd : ((d + 1 : Nat) : Int) - 1 = d := by omega
    rw [e_law_free_rule]
    refine lock_yes hA hs ?_
    have low : ∀ {x : Int} {S1 : So} {g : Res W}, 0 ≤ x → Adv i S S1 → (3 ≤ x → Yes g fun w T => freeW w = true ∧ FR (d + 1) w ∧ ∃ S' U, T = S' ++ U ∧ Adv i S S') → Yes (iF (cmp .Eq (.int x) (.int 0) S1) (.ok (.tup [(.str "rows")]) S1) (iF (cmp .Eq (.int x) (.int 1) S1) ((callN P k "_law_word" [.ref i] S1).bind fun w4 S5 => .ok (.tup [(.str "same"), w4]) S5) (iF (cmp .Eq (.int x) (.int 2) S1) ((callN P k "_law_word" [.ref i] S1).bind fun w6 S7 => (callN P k "_law_word" [.ref i] S7).bind fun w8 S9 => .ok (.tup [(.str "via"), w6, w8]) S9) g))) fun w T => freeW w = true ∧ FR (d + 1) w ∧ ∃ S' U, T = S' ++ U ∧ Adv i S S' := by
      intro x S1 g x0 a1 hg
      have A1 := a1.at hA
      rw [c_eqI]
      by_cases y0 : x = 0
      · rw [decide_eq_true y0, iF_t]
        exact yes_ok ⟨rfl, small, S1, [], by simp, a1⟩
      rw [decide_eq_false y0, iF_f, c_eqI]
      by_cases y1 : x = 1
      · rw [decide_eq_true y1, iF_t]
        refine yes_bind (word (by omega) A1) ?_
        rintro w S2 ⟨w1, a2⟩
        have f := same1 (d := d + 1) w1
        exact yes_ok ⟨vd_free _ f.vd, f, S2, [], by simp, a1.trans a2⟩
      rw [decide_eq_false y1, iF_f, c_eqI]
      by_cases y2 : x = 2
      · rw [decide_eq_true y2, iF_t]
        refine yes_bind (word (by omega) A1) ?_
        rintro w S2 ⟨w1, a2⟩
        refine yes_bind (word (by omega) (a2.at A1)) ?_
        rintro v S3 ⟨w2, a3⟩
        have f := via2 (d := d + 1) w1 w2
        exact yes_ok ⟨vd_free _ f.vd, f, S3, [], by simp, (a1.trans a2).trans a3⟩
      · rw [decide_eq_false y2, iF_f]
        exact hg (by omega)
    rw [c_gtI]
    by_cases h1 : (1 : Int) < ((d + 1 : Nat) : Int)
    · rw [decide_eq_true h1, iF_t]
      refine yes_bind (pick' (by omega) hA (by decide) (by decide)) ?_
      rintro _ S1 ⟨x, rfl, x0, x1, a1⟩
      have A1 := a1.at hA
      have s1 := a1.shut hs
      dsimp only
      refine low x0 a1 fun x3 => ?_
      rw [c_eqI]
      by_cases y3 : x = 3
      · rw [decide_eq_true y3, iF_t, b_subI, bOk, hd]
        refine yes_bind (ih (by omega) A1 s1) ?_
        rintro w S2 ⟨w1, a2⟩
        refine yes_bind (word (by omega) (a2.at A1)) ?_
        rintro v S3 ⟨w2, a3⟩
        have f := but2 w1 w2
        exact yes_ok ⟨vd_free _ f.vd, f, S3, [], by simp, (a1.trans a2).trans a3⟩
      · rw [decide_eq_false y3, iF_f]
        refine yes_bind (one' (by omega) A1 (by decide) (by decide)) ?_
        rintro w S2 ⟨wm, a2⟩
        obtain ⟨z, rfl, hz⟩ : ∃ z, w = .str z ∧ (z = "or" ∨ z = "and") := by
          simp only [List.mem_cons, List.not_mem_nil, or_false] at wm
          rcases wm with rfl | rfl
          · exact ⟨_, rfl, .inl rfl⟩
          · exact ⟨_, rfl, .inr rfl⟩
        have A2 := a2.at A1
        have a12 := a1.trans a2
        have s2 := a2.shut s1
        rw [show mk true [.str z] S2 = .ok (.ref S2.length) (S2 ++ [O.lst [.str z]]) from rfl, bOk]
        obtain ⟨dd, mm, hS, hm2⟩ := A2
        refine yes_bind (pick' (by omega) ⟨dd, mm, get_app hS, hm2⟩ (by decide) (by decide)) ?_
        rintro _ T ⟨y, rfl, y0, y1, d', m', rfl, o'⟩
        rw [set_app hS, c_eqI, iB_s, vb_intB, bOk, b_addI, bOk, rgC1 (by split <;> decide)]
        have hS3 : (S2.set i (Wl d' m'))[i]? = some (Wl d' m') := get_set hS
        have a3 : Adv i S2 (S2.set i (Wl d' m')) := ⟨d', m', rfl, o'⟩
        have len3 : (S2.set i (Wl d' m')).length = S2.length := by simp
        generalize S2.set i (Wl d' m') = S3 at hS3 a3 len3
        have s3 := a3.shut s2
        have a13 := a12.trans a3
        have nD : S2.length ≠ i := by
          have := (List.getElem?_eq_some_iff.mp hS).1
          omega
        generalize hv : ((2 : Int) + if decide (y = 0) = true then 1 else 0) = v
        have v0 : 2 ≤ v ∧ v ≤ 3 := by subst hv; split <;> omega
        refine yes_turns (fun j q T => q.2 = Fl.nx ∧ ∃ xs S4 pl, xs.length = j ∧ (∀ x ∈ xs, FR d x) ∧ T = S4 ++ [O.lst (.str z :: xs)] ∧ Adv i S S4 ∧ q.1 = [some (.ref i), some (.int ((d + 1 : Nat) : Int)), some (.int x), some (.ref S2.length), pl]) ⟨rfl, [], S3, none, rfl, fun _ m => (by cases m), rfl, a13, rfl⟩ ?_ ?_
        · rintro j ⟨e, fl⟩ T w hw ⟨hfl, xs, S4, pl, hx, hf, hT, a4, he⟩
          dsimp only at hfl he
          subst hfl he hT
          obtain ⟨rfl, hj⟩ := rg_at hw
          have l4 : S4.length = S2.length := by rw [a4.len, a12.len]
          have A4 := a4.at hA
          have hg : (S4 ++ [O.lst (.str z :: xs)])[S2.length]? = some (.lst (.str z :: xs)) := by rw [← l4]; exact get_new
          rw [b_law_free_rule_1, ty_ref hg, b_subI, bOk, hd]
          obtain ⟨d4, m4, h4, o4⟩ := A4
          have fw : freeWs (.str z :: xs) = true := by
            unfold freeWs
            rw [show freeW (.str z) = true from rfl, Bool.true_and]
            exact vds_free (b := 4) xs (vds_mem.mpr fun x m => (hf x m).vd)
          refine yes_bind (ih (by omega) ⟨d4, m4, get_app h4, o4⟩ ((a4.shut hs).push (shutO_lst fw))) ?_
          rintro r T2 ⟨fr, d5, m5, rfl, o5⟩
          rw [set_app h4]
          have l5 : (S4.set i (Wl d5 m5)).length = S2.length := by rw [List.length_set, l4]
          have hg5 : (S4.set i (Wl d5 m5) ++ [O.lst (.str z :: xs)])[S2.length]? = some (.lst (.str z :: xs)) := by rw [← l5]; exact get_new
          have v1 : v.toNat ≤ 3 := by omega
          rw [app_ref hg5 (Nat.lt_of_le_of_lt (show (W.str z :: xs).length ≤ 4 by simp only [List.length_cons]; omega) (by decide +kernel)), bOk]
          refine yes_ok ⟨rfl, rfl, xs ++ [r], S4.set i (Wl d5 m5), some _, by simp [hx], fun x m => ?_, ?_, a4.trans ⟨d5, m5, rfl, o5⟩, rfl⟩
          · rcases List.mem_append.mp m with m | m
            · exact hf x m
            · rw [List.mem_singleton] at m; subst m; exact fr
          · rw [← l5, set_new]; rfl
        · rintro ⟨e, fl⟩ T ⟨hfl, xs, S4, pl, hx, hf, hT, a4, he⟩
          dsimp only at hfl he
          subst hfl he hT
          have l4 : S4.length = S2.length := by rw [a4.len, a12.len]
          have hg : (S4 ++ [O.lst (.str z :: xs)])[S2.length]? = some (.lst (.str z :: xs)) := by rw [← l4]; exact get_new
          rw [kNx]
          simp only [sl0, slS, oOk, bOk]
          rw [vb_tupR hg, bOk]
          have v1 : xs.length ≤ 3 := by rw [hx]; unfold rangeW; rw [List.length_map, List.length_range]; omega
          have v2 : 1 ≤ xs.length := by rw [hx]; unfold rangeW; rw [List.length_map, List.length_range]; omega
          have f := many (d := d) hz v2 v1 hf
          exact yes_ok ⟨vd_free _ f.vd, f, S4, _, rfl, a4⟩
    · rw [decide_eq_false h1, iF_f]
      refine yes_bind (pick' (by omega) hA (by decide) (by decide)) ?_
      rintro _ S1 ⟨x, rfl, x0, x1, a1⟩
      dsimp only
      exact low x0 a1 fun x3 => absurd x3 (by omega)
end K8

namespace K8
open PySem Y L2
/-! a rule's words, its text, its parts -/
theorem tj (sep : Str) (l : List Str) : Txt.join sep l = Str.join sep l := eq_of_beq (PyProof.Rows.join_plain_closes sep l)
def sp : Str := " "
def J (ws : List Str) : Str := Str.join sp ws
theorem J1 {x : Str} : J [x] = x := rfl
theorem Jc {x y : Str} {r : List Str} : J (x :: y :: r) = x ++ sp ++ J (y :: r) := rfl
theorem sapp (a b c : Str) : a ++ b ++ c = a ++ (b ++ c) := PySem.Str.append_assoc a b c
theorem Jcc {x : Str} {r : List Str} (h : r ≠ []) : J (x :: r) = x ++ sp ++ J r := by
  cases r with
  | nil => exact absurd rfl h
  | cons y r => rfl
theorem J_app : ∀ {a b : List Str}, a ≠ [] → b ≠ [] → J (a ++ b) = J a ++ sp ++ J b
  | [], _, h, _ => absurd rfl h
  | [x], b, _, h => by rw [List.singleton_append, Jcc h, J1]
  | x :: y :: r, b, _, h => by
    rw [List.cons_append, Jcc (by simp), J_app (a := y :: r) (by simp) h, Jc]
    simp only [sapp]
/-- a text's length, and one for each word -/
def cst (ws : List Str) : Nat := (ws.map fun (y : Str) => y.length).sum + ws.length
theorem cst0 : cst [] = 0 := rfl
theorem cst1 {x : Str} {r : List Str} : cst (x :: r) = x.length + 1 + cst r := by unfold cst; simp; omega
theorem cst_app {a b : List Str} : cst (a ++ b) = cst a + cst b := by unfold cst; simp; omega
theorem sLen (a b : Str) : (a ++ b).length = a.length + b.length := by
  show (a.cps ++ b.cps).size = _
  rw [Array.size_append]; rfl
theorem sp_len : sp.length = 1 := by decide +kernel
theorem J_len : ∀ (ws : List Str), (J ws).length ≤ cst ws
  | [] => Nat.zero_le _
  | [x] => by rw [J1, cst1, cst0]; omega
  | x :: y :: r => by
    rw [Jc, sLen, sLen, sp_len, cst1]
    have := J_len (y :: r)
    omega
theorem szL : 16777216 ≤ sizeLine := by decide +kernel
theorem Bd6' : ∀ d, d ≤ 6 → Bd d ≤ 110000 := fun d h => by
  have : ∀ d ∈ List.range 7, Bd d ≤ 110000 := by decide
  exact this d (List.mem_range.mpr (by omega))
theorem jw {α : Type} {y t : Str} {f : Str → Res α} (h : t.length + y.length ≤ 16777216) : jW (.str y) t f = f (t ++ y) := by
  show (if y.length ≤ sizeLine ∧ (t ++ y).length ≤ sizeLine then f (t ++ y) else .bad) = _
  have := szL
  rw [if_pos ⟨by omega, by rw [sLen]; omega⟩]
theorem jc {α : Type} {y t : Str} {f : Str → Res α} (h : t.length + y.length ≤ 16777216) : jC y t f = f (t ++ y) := by
  show (if (t ++ y).length ≤ sizeLine then f (t ++ y) else .bad) = _
  have := szL
  rw [if_pos (by rw [sLen]; omega)]
theorem e_app {y : Str} : Str.empty ++ y = y := by
  apply Str.ext'
  apply Array.toList_inj.mp
  show (#[] ++ y.cps).toList = _
  simp
theorem joinT {S : So} {g : Str} {ys : List Str} (h : (ys.map fun (y : Str) => y.length).sum + ys.length * g.length ≤ 16777216) : method false (.str g) "join" [.fl false (ys.map W.str)] S = .ok (.str (Str.join g ys)) S := by
  have e : (seqOf (.fl false (ys.map W.str)) S).bind strsOf = some ys := by
    show strsOf (ys.map W.str) = some ys
    clear h
    induction ys with
    | nil => rfl
    | cons y r ih => show (strsOf (r.map W.str)).map (y :: ·) = _; rw [ih]; rfl
  show (match (seqOf (.fl false (ys.map W.str)) S).bind strsOf with
      | some ys => if (ys.map fun (y : Str) => y.length).sum + ys.length * g.length ≤ 16777216 then Res.ok (W.str (Txt.join g ys)) S else .bad
      | none => .bad) = _
  rw [e]
  exact (if_pos h).trans (by rw [tj])
/-- several rules' words, a word ahead of each -/
def wsO (o : Str) (l : List (List Str)) : List Str := l.flatMap fun ws => o :: ws
/-- their texts joined -/
theorem join_texts {o : Str} : ∀ (ws : List Str) (l : List (List Str)), ws ≠ [] → (∀ x ∈ l, x ≠ []) → Str.join (sp ++ o ++ sp) (J ws :: l.map J) = J (ws ++ wsO o l)
  | ws, [], h, _ => by simp [wsO]; rfl
  | ws, x :: l, h, hl => by
    show J ws ++ (sp ++ o ++ sp) ++ Str.join (sp ++ o ++ sp) (J x :: l.map J) = _
    have hx : x ≠ [] := hl x (by simp)
    rw [join_texts x l hx fun y m => hl y (by simp [m])]
    have e : wsO o (x :: l) = o :: (x ++ wsO o l) := by simp [wsO]
    rw [e, J_app h (by simp), Jcc (by simp [hx])]
    simp only [sapp]
end K8

namespace K8
open PySem Y L2
/-! what a rule is written as, what its parts are -/
def Wp : Nat → Nat
  | 0 => 101
  | n + 1 => 3 * Wp n + Bd (n + 1) + 1
theorem Wp_ge (d : Nat) : Bd d + 1 ≤ Wp d := by
  cases d with
  | zero => exact Nat.le_refl _
  | succ n => unfold Wp; omega
structure Spec (d : Nat) (w : W) (ws : List Str) (ps : List W) : Prop where
  ne : ws ≠ []
  len : cst ws ≤ Bd d
  wd : ∀ (m : Nat) (S : So), d + 1 ≤ m → callN P m "_law_words" [w] S = .ok (.fl false (ws.map .str)) S
  tx : ∀ (m : Nat) (S : So), d + 1 ≤ m → callN P m "rule_text" [w] S = .ok (.str (J ws)) S
  pt : ∀ (m : Nat) (S : So), d + 1 ≤ m → callN P m "_law_parts" [w] S = .ok (.fl false ps) S
  pn : ∀ n, d + 1 ≤ n → partsN n w = some ps
  pw : wtWs ps ≤ Wp d
  pl : ps.length ≤ Bd d
  pv : ∀ p ∈ ps, vdW 4 p = true ∧ dpW p ≤ d + 2
theorem wl1 : (("rows" : Str).length = 4 ∧ ("same" : Str).length = 4 ∧ ("via" : Str).length = 3 ∧ ("but" : Str).length = 3) ∧ ("not" : Str).length = 3 ∧ ("(" : Str).length = 1 ∧ (")" : Str).length = 1 ∧ ("or" : Str).length = 2 ∧ ("and" : Str).length = 3 ∧ (" via " : Str).length = 5 ∧ ("( " : Str).length = 2 ∧ (" but not " : Str).length = 9 ∧ (" )" : Str).length = 2 ∧ (" " : Str).length = 1 := by decide +kernel
theorem in_no {x : Str} {S : So} (h : (decide (x = "or") || decide (x = "and")) = false) : cmp .In (.str x) (.tup [.str "or", .str "and"]) S = some false := by
  have e : cmp .In (.str x) (.tup [.str "or", .str "and"]) S = some (inW (.str x) [.str "or", .str "and"]) := rfl
  rw [e]
  rw [Bool.or_eq_false_iff] at h
  have h1 := of_decide_eq_false h.1
  have h2 := of_decide_eq_false h.2
  have a1 : eqW (W.str "or") (W.str x) = false := by
    rw [eqW]
    first | exact decide_eq_false (fun z => h1 z.symm) | simp [Ne.symm h1]
  have a2 : eqW (W.str "and") (W.str x) = false := by
    rw [eqW]
    first | exact decide_eq_false (fun z => h2 z.symm) | simp [Ne.symm h2]
  simp [inW, a1, a2]
theorem in_yes {x : Str} {S : So} (h : x = "or" ∨ x = "and") : cmp .In (.str x) (.tup [.str "or", .str "and"]) S = some true := by
  rcases h with rfl | rfl
  · rfl
  · rfl
def strW : Str → W := W.str
theorem eqF {x y : Str} (h : decide (x = y) = false) {S : So} : cmp .Eq (.str x) (.str y) S = some false := by rw [c_eqS, h]
theorem eqT {x : Str} {S : So} : cmp .Eq (.str x) (.str x) S = some true := by rw [c_eqS, decide_eq_true rfl]
theorem sp_rows (d : Nat) (z : Sz d (.tup [.str "rows"])) : Spec d (.tup [.str "rows"]) ["rows"] [.tup [.str "rows"]] where
  ne := by simp
  len := by
    have := Bd_le d
    rw [cst1, cst0, wl1.1.1]; omega
  wd := fun m S h => by
    obtain ⟨k, rfl⟩ : ∃ k, m = k + 1 := ⟨m - 1, by omega⟩
    rw [e_law_words]
    simp only [it_tup, at0, oOk, bOk, eqT, iF_t]
    rfl
  tx := fun m S h => by
    obtain ⟨k, rfl⟩ : ∃ k, m = k + 1 := ⟨m - 1, by omega⟩
    rw [e_rule_text]
    simp only [it_tup, at0, oOk, bOk, eqT, iF_t]
    rfl
  pt := fun m S h => by
    obtain ⟨k, rfl⟩ : ∃ k, m = k + 1 := ⟨m - 1, by omega⟩
    rw [e_law_parts]
    simp only [it_tup, at0, oOk, bOk, in_no (x := "rows") (by decide +kernel), iF_f, sl0, slS, eqF (x := "rows") (y := "but") (by decide +kernel)]
  pn := fun n h => by
    obtain ⟨k, rfl⟩ : ∃ k, n = k + 1 := ⟨n - 1, by omega⟩
    rfl
  pw := by
    have e := z.2.1
    have := Bd_le d
    rw [wt1, wt0]
    have w0 : wtW (.tup [.str "rows"]) ≤ 100 := by
      rw [wt_tup, wt1, wt0, (vdS (b := 4) f_rows.1).2.2, wl1.1.1]; omega
    have w1 := Wp_ge d
    omega
  pl := by have := Bd_le d; simp; omega
  pv := fun p hp => by
    rw [List.mem_singleton] at hp
    subst hp
    exact ⟨z.1, z.2.2⟩
theorem pre {k d : Nat} (h : d + 1 ≤ k) : ∃ j, k = j + 1 := ⟨k - 1, by omega⟩
theorem self_w {d : Nat} {w : W} (z : Sz d w) : wtWs [w] ≤ Wp d := by
  have := Wp_ge d
  have := z.2.1
  rw [wt1, wt0]; omega
theorem sp_same (d : Nat) (y : Str) (z : Sz d (.tup [.str "same", .str y])) (hy : y.length ≤ 40) : Spec d (.tup [.str "same", .str y]) [y] [.tup [.str "same", .str y]] where
  ne := by simp
  len := by
    have := Bd_le d
    rw [cst1, cst0]; omega
  wd := fun m S h => by
    obtain ⟨k, rfl⟩ := pre h
    rw [e_law_words]
    simp only [it_tup, at0, at1, oOk, bOk, eqF (x := "same") (y := "rows") (by decide +kernel), eqT, iF_t, iF_f]
    rfl
  tx := fun m S h => by
    obtain ⟨k, rfl⟩ := pre h
    rw [e_rule_text]
    simp only [it_tup, at0, at1, oOk, bOk, eqF (x := "same") (y := "rows") (by decide +kernel), eqT, iF_t, iF_f]
    rfl
  pt := fun m S h => by
    obtain ⟨k, rfl⟩ := pre h
    rw [e_law_parts]
    simp only [it_tup, at0, oOk, bOk, in_no (x := "same") (by decide +kernel), iF_f, sl0, slS, eqF (x := "same") (y := "but") (by decide +kernel)]
  pn := fun n h => by
    obtain ⟨k, rfl⟩ := pre h
    rfl
  pw := self_w z
  pl := by have := Bd_le d; simp; omega
  pv := fun p hp => by
    rw [List.mem_singleton] at hp
    subst hp
    exact ⟨z.1, z.2.2⟩
theorem sp_via (d : Nat) (y x : Str) (z : Sz d (.tup [.str "via", .str y, .str x])) (hy : y.length ≤ 40) (hx : x.length ≤ 40) : Spec d (.tup [.str "via", .str y, .str x]) [x, "via", y] [.tup [.str "via", .str y, .str x]] where
  ne := by simp
  len := by
    have := Bd_le d
    rw [cst1, cst1, cst1, cst0, wl1.1.2.2.1]; omega
  wd := fun m S h => by
    obtain ⟨k, rfl⟩ := pre h
    rw [e_law_words]
    simp only [it_tup, at0, at1, at2, oOk, bOk, eqF (x := "via") (y := "rows") (by decide +kernel), eqF (x := "via") (y := "same") (by decide +kernel), eqT, iF_t, iF_f]
    rfl
  tx := fun m S h => by
    obtain ⟨k, rfl⟩ := pre h
    have l5 := wl1.2.2.2.2.2.2.1
    have l0 : Str.empty.length = 0 := rfl
    rw [e_rule_text]
    simp only [it_tup, at0, at1, at2, oOk, bOk, eqF (x := "via") (y := "rows") (by decide +kernel), eqF (x := "via") (y := "same") (by decide +kernel), eqT, iF_t, iF_f]
    rw [jw (by rw [l0]; omega), e_app, jc (by omega), jw (by rw [sLen]; omega)]
    have e : J [x, "via", y] = x ++ " via " ++ y := by
      rw [Jc, Jc, J1]
      have e2 : (" via " : Str) = sp ++ "via" ++ sp := by decide +kernel
      rw [e2]
      simp only [sapp]
    rw [e]
  pt := fun m S h => by
    obtain ⟨k, rfl⟩ := pre h
    rw [e_law_parts]
    simp only [it_tup, at0, oOk, bOk, in_no (x := "via") (by decide +kernel), iF_f, sl0, slS, eqF (x := "via") (y := "but") (by decide +kernel)]
  pn := fun n h => by
    obtain ⟨k, rfl⟩ := pre h
    rfl
  pw := self_w z
  pl := by have := Bd_le d; simp; omega
  pv := fun p hp => by
    rw [List.mem_singleton] at hp
    subst hp
    exact ⟨z.1, z.2.2⟩
theorem Bd6s (d : Nat) (h : d ≤ 6) : Bd d ≤ 110000 := Bd6' d h
theorem cut1 {a : W} {r : List W} : cutW (a :: r) (some 1) none = r := by
  unfold cutW HT.sIx; simp
theorem cut2 {a b : W} {r : List W} : cutW (a :: b :: r) (some 2) none = r := by
  unfold cutW HT.sIx; simp
theorem sp_but (d : Nat) (r : W) (y : Str) (ws : List Str) (ps : List W) (hd : d + 1 ≤ 6) (z : Sz (d + 1) (.tup [.str "but", r, .str y])) (s : Spec d r ws ps) (hy : y.length ≤ 40) (ht : ∃ x xs, r = .tup (.str x :: xs)) :
    Spec (d + 1) (.tup [.str "but", r, .str y]) ((["("] : List Str) ++ ws ++ (["but", "not", y, ")"] : List Str)) (.tup [.str "but", r, .str y] :: ps) where
  ne := by simp
  len := by
    have h1 := s.len
    have e : Bd (d + 1) = 3 * Bd d + 100 := rfl
    have := Bd_le d
    obtain ⟨⟨_, _, _, b1⟩, b2, b3, b4, _⟩ := wl1
    rw [cst_app, cst_app, cst1, cst0, cst1, cst1, cst1, cst1, cst0, b1, b2, b3, b4, e]; omega
  wd := fun m S h => by
    obtain ⟨k, rfl⟩ := pre h
    have h1 := s.len
    have hb := Bd6s d (by omega)
    have hl : ws.length ≤ cst ws := by unfold cst; omega
    have := szL
    rw [e_law_words]
    simp only [it_tup, at0, at1, at2, oOk, bOk, eqF (x := "but") (y := "rows") (by decide +kernel), eqF (x := "but") (y := "same") (by decide +kernel), eqF (x := "but") (y := "via") (by decide +kernel), eqT, iF_t, iF_f, s.wd k S (by omega)]
    rw [b_addF (by simp; omega), bOk, b_addF (by simp; omega), bOk]
    simp
  tx := fun m S h => by
    obtain ⟨k, rfl⟩ := pre h
    have h1 := s.len
    have hb := Bd6s d (by omega)
    have hl := J_len ws
    have l0 : Str.empty.length = 0 := rfl
    obtain ⟨_, _, _, _, _, _, _, c1, c2, c3, _⟩ := wl1
    rw [e_rule_text]
    simp only [it_tup, at0, at1, at2, oOk, bOk, eqF (x := "but") (y := "rows") (by decide +kernel), eqF (x := "but") (y := "same") (by decide +kernel), eqF (x := "but") (y := "via") (by decide +kernel), eqT, iF_t, iF_f]
    rw [jc (by rw [l0, c1]; omega), e_app, s.tx k S (by omega), bOk, jw (by rw [c1]; omega), jc (by rw [sLen, c1, c2]; omega), jw (by rw [sLen, sLen, c1, c2]; omega), jc (by rw [sLen, sLen, sLen, c1, c2, c3]; omega)]
    have e : J ((["("] : List Str) ++ ws ++ (["but", "not", y, ")"] : List Str)) = "( " ++ J ws ++ " but not " ++ y ++ " )" := by
      rw [J_app (by simp) (by simp), J_app (by simp) s.ne, J1, Jc, Jc, Jc, J1]
      have e2 : ("( " : Str) = "(" ++ sp := by decide +kernel
      have e3 : (" but not " : Str) = sp ++ "but" ++ sp ++ "not" ++ sp := by decide +kernel
      have e4 : (" )" : Str) = sp ++ ")" := by decide +kernel
      rw [e2, e3, e4]
      simp only [sapp]
    rw [e]
  pt := fun m S h => by
    obtain ⟨k, rfl⟩ := pre h
    have hb := Bd6s d (by omega)
    have hl := s.pl
    have := szL
    rw [e_law_parts]
    simp only [it_tup, at0, at1, oOk, bOk, in_no (x := "but") (by decide +kernel), iF_f, iF_t, sl0, slS, eqT, s.pt k S (by omega)]
    rw [b_addF (by simp; omega), bOk]
    rfl
  pn := fun n h => by
    obtain ⟨k, rfl⟩ := pre h
    obtain ⟨x, xs, rfl⟩ := ht
    show (partsL (partsN k) [.tup (.str x :: xs), .str y]).map _ = _
    show ((partsN k (.tup (.str x :: xs))).bind fun a => (partsL (partsN k) [.str y]).map (a ++ ·)).map _ = _
    rw [s.pn k (by omega)]
    show ((some []).map (ps ++ ·)).map _ = _
    simp
  pw := by
    have h1 := s.pw
    have h2 := z.2.1
    rw [wt1]
    unfold Wp
    omega
  pl := by
    have h1 := s.pl
    have e : Bd (d + 1) = 3 * Bd d + 100 := rfl
    have := Bd_le d
    rw [List.length_cons, e]; omega
  pv := fun p hp => by
    rcases List.mem_cons.mp hp with rfl | hp
    · exact ⟨z.1, z.2.2⟩
    · have := s.pv p hp
      exact ⟨this.1, by omega⟩
end K8

namespace K8
open PySem Y L2
/-! or, and -/
theorem cst_wsO {o : Str} {B : Nat} : ∀ {l : List (List Str)}, (∀ x ∈ l, cst x ≤ B) → cst (wsO o l) ≤ l.length * (B + o.length + 1)
  | [], _ => by simp [wsO, cst0]
  | x :: l, h => by
    have e : wsO o (x :: l) = o :: (x ++ wsO o l) := by simp [wsO]
    have h1 := h x (by simp)
    have h2 := cst_wsO (o := o) (B := B) (l := l) fun y m => h y (by simp [m])
    rw [e, cst1, cst_app, List.length_cons, Nat.add_mul]
    omega
theorem wsO_app {o : Str} {a b : List (List Str)} : wsO o (a ++ b) = wsO o a ++ wsO o b := by simp [wsO]
theorem ty_s {α : Type} {t : Str} {S : So} {a : Res α} : ifTy (.str t) S "str" a = a := if_pos rfl
theorem partsL_all {f : W → Option (List W)} {g : W → List W} : ∀ {l : List W}, (∀ w ∈ l, (∃ xs, w = .tup xs) ∧ f w = some (g w)) → partsL f l = some (l.flatMap g)
  | [], _ => rfl
  | w :: l, h => by
    obtain ⟨⟨xs, rfl⟩, e⟩ := h w (by simp)
    show ((f (.tup xs)).bind fun a => (partsL f l).map (a ++ ·)) = _
    rw [e, partsL_all fun y m => h y (by simp [m])]
    simp
theorem wts_flat {g : W → List W} {B : Nat} : ∀ {l : List W}, (∀ w ∈ l, wtWs (g w) ≤ B) → wtWs (l.flatMap g) ≤ l.length * B
  | [], _ => by simp [wt0]
  | w :: l, h => by
    have h1 := h w (by simp)
    have h2 := wts_flat (l := l) fun y m => h y (by simp [m])
    rw [List.flatMap_cons, wts_app, List.length_cons, Nat.add_mul]
    omega
theorem len_flat {g : W → List W} {B : Nat} : ∀ {l : List W}, (∀ w ∈ l, (g w).length ≤ B) → (l.flatMap g).length ≤ l.length * B
  | [], _ => by simp
  | w :: l, h => by
    have h1 := h w (by simp)
    have h2 := len_flat (l := l) fun y m => h y (by simp [m])
    rw [List.flatMap_cons, List.length_append, List.length_cons, Nat.add_mul]
    omega
theorem sum_le {B : Nat} : ∀ {l : List Str}, (∀ y ∈ l, y.length ≤ B) → (l.map fun (y : Str) => y.length).sum ≤ l.length * B
  | [], _ => by simp
  | y :: l, h => by
    have h1 := h y (by simp)
    have h2 := sum_le (l := l) fun z m => h z (by simp [m])
    rw [List.map_cons, List.sum_cons, List.length_cons, Nat.add_mul]
    omega
theorem len_one {g : W → W} : ∀ {l : List W}, (l.flatMap fun w => [g w]).length = l.length
  | [] => rfl
  | w :: l => by rw [List.flatMap_cons, List.length_append, len_one, List.length_cons]; simp; omega
theorem mulL {a b : Nat} (B : Nat) (h : a ≤ b) : a * B ≤ b * B := Nat.mul_le_mul_right B h
section
variable (d : Nat) (o : Str) (x : W) (xs : List W) (L : W → List Str) (Pp : W → List W)
abbrev opW : W := .tup (.str o :: x :: xs)
theorem sp_op (hd : d + 1 ≤ 6) (z : Sz (d + 1) (opW o x xs)) (ho : o = "or" ∨ o = "and") (hl : xs.length ≤ 2) (hs : ∀ w ∈ x :: xs, Spec d w (L w) (Pp w)) (ht : ∀ w ∈ x :: xs, ∃ y ys, w = .tup (.str y :: ys)) :
    Spec (d + 1) (opW o x xs) ((["("] : List Str) ++ (L x ++ wsO o (xs.map L)) ++ ([")"] : List Str)) (opW o x xs :: (x :: xs).flatMap Pp) := by
  have ol : o.length ≤ 3 := by
    obtain ⟨_, _, _, _, a, b, _⟩ := wl1
    rcases ho with rfl | rfl <;> omega
  have hb := Bd6s d (by omega)
  have hB : Bd (d + 1) = 3 * Bd d + 100 := rfl
  have big := szL
  have lx := (hs x (by simp)).len
  have lO : ∀ l : List W, (∀ w ∈ l, w ∈ xs) → l.length ≤ 2 → cst (wsO o (l.map L)) ≤ 2 * (Bd d + 4) := fun l hm h2 => by
    have q := cst_wsO (o := o) (B := Bd d) (l := l.map L) fun y m => by
      obtain ⟨w, hw, rfl⟩ := List.mem_map.mp m
      exact (hs w (by simp [hm w hw])).len
    rw [List.length_map] at q
    have q2 := mulL (Bd d + o.length + 1) h2
    omega
  have cl : ∀ ws : List Str, ws.length ≤ cst ws := fun ws => by unfold cst; omega
  have n1 : ∀ {S : So}, cmp .Eq (.str o) (.str "rows") S = some false := fun {S} => by rcases ho with rfl | rfl <;> exact eqF (by decide +kernel)
  have n2 : ∀ {S : So}, cmp .Eq (.str o) (.str "same") S = some false := fun {S} => by rcases ho with rfl | rfl <;> exact eqF (by decide +kernel)
  have n3 : ∀ {S : So}, cmp .Eq (.str o) (.str "via") S = some false := fun {S} => by rcases ho with rfl | rfl <;> exact eqF (by decide +kernel)
  have n4 : ∀ {S : So}, cmp .Eq (.str o) (.str "but") S = some false := fun {S} => by rcases ho with rfl | rfl <;> exact eqF (by decide +kernel)
  exact {
    ne := by simp
    len := by
      obtain ⟨_, _, b3, b4, _⟩ := wl1
      have q := lO xs (fun _ m => m) hl
      rw [cst_app, cst_app, cst_app, cst1, cst0, cst1, cst0, b3, b4, hB]; omega
    wd := fun m S h => by
      obtain ⟨k, rfl⟩ := pre h
      rw [e_law_words]
      simp only [it_tup, at0, at1, oOk, bOk, n1, n2, n3, n4, iF_f, (hs x (by simp)).wd k S (by omega)]
      have c0 := cl (L x)
      rw [b_addF (by simp; omega), bOk, vs_tup, bOk, cut2, vw_tup, bOk]
      refine yes_eq (yes_turns (fun j a T => T = S ∧ a.2 = Fl.nx ∧ ∃ v, a.1 = [some (opW o x xs), some (.fl false (((["("] : List Str) ++ (L x ++ wsO o ((xs.take j).map L))).map W.str)), v]) ⟨rfl, rfl, none, by simp [wsO]⟩ ?_ ?_)
      · rintro j ⟨e, fl⟩ T w hw ⟨rfl, hfl, v, he⟩
        dsimp only at hfl he
        subst hfl he
        have hm := List.mem_of_getElem? hw
        have sw := hs w (by simp [hm])
        have c1 := cl (L w)
        have c2 := sw.len
        have q := lO (xs.take j) (fun _ m => List.mem_of_mem_take m) (by rw [List.length_take]; omega)
        have c3 := cl (wsO o ((xs.take j).map L))
        rw [List.map_take] at q c3
        rw [b_law_words_1]
        simp only [it_tup, at0, oOk, bOk]
        rw [b_addF (by simp; omega), bOk, sw.wd k _ (by omega), bOk, b_addF (by simp; omega), bOk]
        refine yes_ok ⟨rfl, rfl, rfl, some w, ?_⟩
        have e2 : (xs.take (j + 1)).map L = (xs.take j).map L ++ [L w] := by
          rw [List.take_add_one, hw]; simp
        rw [e2, wsO_app]
        simp [wsO]
      · rintro ⟨e, fl⟩ T ⟨rfl, hfl, v, he⟩
        dsimp only at hfl he
        subst hfl he
        have q := lO xs (fun _ m => m) hl
        have c3 := cl (wsO o (xs.map L))
        rw [kNx, List.take_length]
        simp only [sl0, slS, oOk, bOk]
        rw [b_addF (by simp; omega), bOk]
        exact yes_ok ⟨by simp, rfl⟩
    tx := fun m S h => by
      obtain ⟨k, rfl⟩ := pre h
      have l0 : Str.empty.length = 0 := rfl
      obtain ⟨_, _, _, _, _, _, _, c1, _, c3, c4⟩ := wl1
      rw [e_rule_text]
      simp only [it_tup, at0, oOk, bOk, n1, n2, n3, n4, iF_f]
      rw [jc (by rw [l0, c4]; omega), e_app, jw (by rw [c4]; omega), jc (by rw [sLen, c4]; omega), ty_s, vs_tup, bOk, cut1, vw_tup, bOk]
      have hJ : ∀ w ∈ x :: xs, (J (L w)).length ≤ Bd d := fun w m => Nat.le_trans (J_len _) (hs w m).len
      rw [lc_pure (fun w => [W.str (J (L w))]) fun w m acc ha => ?_]
      · have e1 : ((x :: xs).flatMap fun w => [W.str (J (L w))]) = ((x :: xs).map fun w => J (L w)).map W.str := by
          rw [List.map_map]
          clear hs ht z hJ
          induction (x :: xs) with
          | nil => rfl
          | cons a r ih => rw [List.flatMap_cons, ih]; rfl
        have s1 := sum_le (B := Bd d) (l := (x :: xs).map fun w => J (L w)) fun y m => by
          obtain ⟨w, hw, rfl⟩ := List.mem_map.mp m
          exact hJ w hw
        rw [List.length_map, List.length_cons] at s1
        have s2 := mulL (Bd d) (show xs.length + 1 ≤ 3 by omega)
        have s3 := mulL 5 (show xs.length + 1 ≤ 3 by omega)
        have gl : ((" " : Str) ++ o ++ (" " : Str)).length ≤ 5 := by rw [sLen, sLen, c4]; omega
        have s4 := Nat.mul_le_mul_left (xs.length + 1) gl
        rw [bOk, e1, joinT (by rw [List.length_map, List.length_cons]; omega), bOk]
        have e2 : Str.join ((" " : Str) ++ o ++ (" " : Str)) ((x :: xs).map fun w => J (L w)) = J (L x ++ wsO o (xs.map L)) := by
          have q := join_texts (o := o) (L x) (xs.map L) (hs x (by simp)).ne fun y m => by
            obtain ⟨w, hw, rfl⟩ := List.mem_map.mp m
            exact (hs w (by simp [hw])).ne
          rw [List.map_map] at q
          exact q
        have q := lO xs (fun _ m => m) hl
        have jl : (J (L x ++ wsO o (xs.map L))).length ≤ cst (L x ++ wsO o (xs.map L)) := J_len _
        rw [cst_app] at jl
        rw [e2, jc (by rw [l0, c1]; omega), e_app, jw (by rw [c1]; omega), jc (by rw [sLen, c1, c3]; omega)]
        have e : J ((["("] : List Str) ++ (L x ++ wsO o (xs.map L)) ++ ([")"] : List Str)) = "( " ++ J (L x ++ wsO o (xs.map L)) ++ " )" := by
          rw [J_app (by simp) (by simp), J_app (by simp) (by simp [(hs x (by simp)).ne]), J1, J1]
          have e2 : ("( " : Str) = "(" ++ sp := by decide +kernel
          have e4 : (" )" : Str) = sp ++ ")" := by decide +kernel
          rw [e2, e4]
          simp only [sapp]
        rw [e]
      · rw [c_rule_text_1, (hs w m).tx k S (by omega), bOk, if_pos ?_]
        have hq : ((x :: xs).flatMap fun w => [W.str (J (L w))]).length = xs.length + 1 := by
          exact len_one
        omega
    pt := fun m S h => by
      obtain ⟨k, rfl⟩ := pre h
      rw [e_law_parts]
      simp only [it_tup, at0, oOk, bOk, in_yes ho, iF_t]
      rw [vs_tup, bOk, cut1, vw_tup, bOk]
      have lF : ∀ j, (((x :: xs).take j).flatMap Pp).length ≤ 3 * Bd d := fun j => by
        have q := len_flat (g := Pp) (B := Bd d) (l := (x :: xs).take j) fun w m => (hs w (List.mem_of_mem_take m)).pl
        have q2 := mulL (Bd d) (show ((x :: xs).take j).length ≤ 3 by rw [List.length_take, List.length_cons]; omega)
        omega
      refine yes_eq (yes_turns (fun j a T => T = S ∧ a.2 = Fl.nx ∧ ∃ v, a.1 = [some (opW o x xs), some (.fl false (opW o x xs :: ((x :: xs).take j).flatMap Pp)), v]) ⟨rfl, rfl, none, by simp⟩ ?_ ?_)
      · rintro j ⟨e, fl⟩ T w hw ⟨rfl, hfl, v, he⟩
        dsimp only at hfl he
        subst hfl he
        have hm := List.mem_of_getElem? hw
        have sw := hs w hm
        have q := lF j
        have q2 := sw.pl
        rw [b_law_parts_1, sw.pt k _ (by omega), bOk, b_addF (by rw [List.length_cons]; omega), bOk]
        refine yes_ok ⟨rfl, rfl, rfl, some w, ?_⟩
        rw [List.take_add_one, hw]
        simp
      · rintro ⟨e, fl⟩ T ⟨rfl, hfl, v, he⟩
        dsimp only at hfl he
        subst hfl he
        rw [kNx, List.take_length]
        simp only [sl0, slS, oOk, bOk, it_tup, at0, n4, iF_f]
        exact yes_ok ⟨rfl, rfl⟩
    pn := fun n h => by
      obtain ⟨k, rfl⟩ := pre h
      show (partsL (partsN k) (x :: xs)).map _ = _
      rw [partsL_all (g := Pp) fun w m => ⟨let ⟨y, ys, e⟩ := ht w m; ⟨_, e⟩, (hs w m).pn k (by omega)⟩]
      rfl
    pw := by
      have q := wts_flat (g := Pp) (B := Wp d) (l := x :: xs) fun w m => (hs w m).pw
      have q2 := mulL (Wp d) (show (x :: xs).length ≤ 3 by rw [List.length_cons]; omega)
      have q3 := z.2.1
      rw [wt1]
      unfold Wp
      omega
    pl := by
      have q := len_flat (g := Pp) (B := Bd d) (l := x :: xs) fun w m => (hs w m).pl
      have q2 := mulL (Bd d) (show (x :: xs).length ≤ 3 by rw [List.length_cons]; omega)
      rw [List.length_cons, hB]; omega
    pv := fun p hp => by
      rcases List.mem_cons.mp hp with rfl | hp
      · exact ⟨z.1, z.2.2⟩
      · obtain ⟨w, hw, hp⟩ := List.mem_flatMap.mp hp
        have := (hs w hw).pv p hp
        exact ⟨this.1, by omega⟩ }
end
theorem Sh.tup {d : Nat} {w : W} (h : Sh d w) : ∃ y ys, w = .tup (.str y :: ys) := by cases h <;> exact ⟨_, _, rfl⟩
open Classical in
theorem spec {d : Nat} {w : W} (h : Sh d w) : d ≤ 6 → ∃ ws ps, Spec d w ws ps := by
  induction h with
  | rows d z => exact fun _ => ⟨_, _, sp_rows d z⟩
  | same d y z hy => exact fun _ => ⟨_, _, sp_same d y z hy⟩
  | via d y x z hy hx => exact fun _ => ⟨_, _, sp_via d y x z hy hx⟩
  | but d r y z hr hy ih =>
    intro hd
    obtain ⟨ws, ps, s⟩ := ih (by omega)
    exact ⟨_, _, sp_but d r y ws ps hd z s hy hr.tup⟩
  | op d o x xs z ho hl hx hxs ihx ihxs =>
    intro hd
    have all : ∀ w ∈ x :: xs, ∃ p : List Str × List W, Spec d w p.1 p.2 := fun w m => by
      rcases List.mem_cons.mp m with rfl | m
      · obtain ⟨a, b, s⟩ := ihx (by omega); exact ⟨(a, b), s⟩
      · obtain ⟨a, b, s⟩ := ihxs w m (by omega); exact ⟨(a, b), s⟩
    let f : W → List Str × List W := fun w => if q : ∃ p : List Str × List W, Spec d w p.1 p.2 then Classical.choose q else ([], [])
    have hf : ∀ w ∈ x :: xs, Spec d w (f w).1 (f w).2 := fun w m => by
      have q := all w m
      have e : f w = Classical.choose q := dif_pos q
      rw [e]
      exact Classical.choose_spec q
    exact ⟨_, _, sp_op d o x xs (fun w => (f w).1) (fun w => (f w).2) hd z ho hl hf fun w m => by
      rcases List.mem_cons.mp m with rfl | m
      · exact hx.tup
      · exact (hxs w m).tup⟩
end K8

namespace K8
open PySem Y L2
abbrev E8 (s : W) (a b c d e f g : Option W) : En := [some s, a, b, c, d, e, f, g]
theorem c_neR {x : Str} {S : So} : cmp .NotEq (.str x) (.str x) S = some false := by rw [c_neS]; simp
theorem joinJ {S : So} {ws : List Str} (h : cst ws ≤ 110000) : method false (.str " ") "join" [.fl false (ws.map W.str)] S = .ok (.str (J ws)) S := by
  refine joinT ?_
  have e := wl1.2.2.2.2.2.2.2.2.2.2
  rw [e]
  unfold cst at h
  omega
theorem Wp6 : ∀ d ∈ List.range 7, Wp d ≤ 1048576 := by decide
/-- one turn -/
theorem again {k d : Nat} {S : So} {it s st tp tn w : W} {fl : Fl} {ag on : Option W} {ws : List Str} {ps : List W} {x : Str} (hd : d ≤ 5) (z : Sz d w) (sp : Spec d w ws ps) (hx : ∀ (m : Bool) (S : So), builtin m "repr" [w] S = .ok (.str x) S) :
    Yes (foF P (callN P (k + 15)) 37 (sxF f_law) (sN 2 (sBlk 0 (sN 1 (sBlk 0 (sN 0 (defBody f_law.st)))))) it (E8 s (some st) (some tp) (some tn) (some w) (some (.str x)) ag on, fl) S) fun r S' => r.2 = true ∧ r.1.2 = Fl.nx ∧ S' = S ∧ ∃ ag on, r.1.1 = E8 s (some st) (some tp) (some tn) (some w) (some (.str x)) ag on := by
  have h1 := sp.len
  have hb := Bd6s d (by omega)
  have big := szL
  have pv : vdW (Bd d) (.fl false ps) = true := by
    rw [vdW, Bool.not_false, Bool.true_and, Bool.and_eq_true]
    exact ⟨decide_eq_true sp.pl, vds_mem.mpr fun p hp => vd_up (by have := Bd_le d; omega) p (sp.pv p hp).1⟩
  have pd : dpW (.fl false ps) ≤ 150 := by
    rw [dpW]
    have := (dps_mem (n := d + 2) (xs := ps)).mpr fun p hp => (sp.pv p hp).2
    omega
  have pw : wtW (.fl false ps) ≤ 1048576 := by
    rw [wtW]
    exact Nat.le_trans sp.pw (Wp6 d (List.mem_range.mpr (by omega)))
  obtain ⟨y, hy⟩ := vd_repr pv pd pw
  have hp : ∀ (T : So), partsV w T = .ok (.seq ps) T := fun T => by
    unfold partsV
    rw [sp.pn 8 (by omega)]
  rw [b_law_3, sp.tx (k + 15) S (by omega), bOk, ty_s, sp.wd (k + 15) S (by omega), bOk, joinJ (by omega), bOk, c_neR, iF_f, hp, bOk]
  rw [lc_pure (fun w => [w]) fun w m acc ha => ?_]
  · have e1 : (ps.flatMap fun w => [w]) = ps := by
      clear hx sp pv pd pw hy hp
      induction ps with
      | nil => rfl
      | cons a r ih => rw [List.flatMap_cons, ih]; rfl
    rw [bOk, e1, hy, bOk, sp.pt (k + 15) S (by omega), bOk, hy, bOk, c_neR, iF_f, hx, bOk, c_neR, iF_f]
    exact yes_ok ⟨rfl, rfl, rfl, _, _, rfl⟩
  · rw [c_law_1, if_pos ?_]
    have hq : (ps.flatMap fun w => [w]).length = ps.length := len_one (g := fun w => w)
    have := sp.pl
    omega
theorem turn {k i : Nat} {S : So} {it s st : W} {fl : Fl} {c d e f g : Option W} (hA : At S i) (hs : Shut S) : Yes (foF P (callN P (k + 15)) 38 (sxF f_law) (sN 1 (sBlk 0 (sN 0 (defBody f_law.st)))) it (E8 s (some st) (some (.ref i)) c d e f g, fl) S) fun r S' => r.2 = true ∧ r.1.2 = Fl.nx ∧ (∃ c d e f g, r.1.1 = E8 s (some st) (some (.ref i)) c d e f g) ∧ At S' i ∧ Shut S' := by
  rw [b_law_2]
  refine yes_bind (pick' (by omega) hA (by decide) (by decide)) ?_
  rintro _ S1 ⟨x, rfl, x0, x1, a1⟩
  have A1 := a1.at hA
  have s1 := a1.shut hs
  obtain ⟨n, hn⟩ : ∃ n : Nat, 1 + x = (n : Int) := ⟨(1 + x).toNat, by omega⟩
  have hn5 : n ≤ 5 := by omega
  rw [b_addI, bOk, hn]
  refine yes_bind (free n (by omega) A1 s1) ?_
  rintro r S2 ⟨fr, a2⟩
  have A2 := a2.at A1
  have s2 := a2.shut s1
  have z := fr.sh.sz
  obtain ⟨ws, ps, sp⟩ := spec fr.sh (by omega)
  obtain ⟨y, hy⟩ := vd_repr z.1 (by have := z.2.2; omega) (by have := z.2.1; have := Bd6s n (by omega); omega)
  rw [hy, bOk, rgC1 (by decide)]
  refine yes_turns (fun _ q T => T = S2 ∧ q.2 = Fl.nx ∧ ∃ ag on, q.1 = E8 s (some st) (some (.ref i)) (some it) (some r) (some (.str y)) ag on) ⟨rfl, rfl, _, _, rfl⟩ ?_ ?_
  · rintro j ⟨e, fl⟩ T w hw ⟨rfl, hfl, _, _, he⟩
    dsimp only at hfl he
    subst hfl he
    refine yes_imp (again hn5 z sp hy) ?_
    rintro q T2 ⟨q1, q2, q3, q4⟩
    exact ⟨q1, q3, q2, q4⟩
  · rintro ⟨e, fl⟩ T ⟨rfl, hfl, _, _, he⟩
    dsimp only at hfl he
    subst hfl he
    rw [kNx]
    exact yes_ok ⟨rfl, rfl, ⟨_, _, _, _, _, rfl⟩, A2, s2⟩
theorem lawTurn {k : Nat} {S : So} {ns : List Int} {x : Int} {fl : Fl} {a b c d e f g : Option W} (hb : ∀ z ∈ ns, Builtin.Int.intBits z ≤ 1048576) (h0 : 0 ≤ x) (h1 : x < 1000) (hs : Shut S) : Yes (foF P (callN P (k + 15)) 39 (sxF f_law) (sN 0 (defBody f_law.st)) (.int x) (E8 (.fl false (ns.map W.int)) a b c d e f g, fl) S) fun r S' => r.2 = true ∧ r.1.2 = Fl.nx ∧ (∃ a b c d e f g, r.1.1 = E8 (.fl false (ns.map W.int)) a b c d e f g) ∧ Shut S' := by
  rw [b_law_1]
  refine yes_bind (show Yes (callN P (k + 15) "_law_tape" [.fl false (ns.map W.int), .int x] S) _ from well hb h0 h1) ?_
  rintro _ S1 ⟨d0, m0, rfl, rfl, o⟩
  rw [rgC1 (by decide)]
  refine yes_turns (fun _ r S' => r.2 = Fl.nx ∧ (∃ c d e f g, r.1 = E8 (.fl false (ns.map W.int)) (some (.int x)) (some (.ref S.length)) c d e f g) ∧ At S' S.length ∧ Shut S') ⟨rfl, ⟨_, _, _, _, _, rfl⟩, ⟨d0, m0, get_new, o⟩, hs.push shutW⟩ ?_ ?_
  · rintro j ⟨e, fl⟩ S' w hw ⟨rfl, ⟨_, _, _, _, _, rfl⟩, hA, hS⟩
    refine yes_imp (turn hA hS) ?_
    rintro r S2 ⟨q1, q2, q3, q4, q5⟩
    exact ⟨q1, q2, q3, q4, q5⟩
  · rintro ⟨e, fl⟩ S' ⟨rfl, ⟨_, _, _, _, _, rfl⟩, hA, hS⟩
    rw [kNx]
    exact yes_ok ⟨rfl, rfl, ⟨_, _, _, _, _, _, _, rfl⟩, hS⟩
theorem ans (ns : List Int) (hl : ns.length ≤ 63) (hb : ∀ z ∈ ns, Builtin.Int.intBits z ≤ 1048576) : ∃ S, callN P 16 "law" [.fl false (ns.map W.int)] [] = .ok (.bl true) S := by
  suffices h : Yes (callN P (0 + 15 + 1) "law" [.fl false (ns.map W.int)] []) fun r _ => r = .bl true by
    obtain ⟨r, S, e, rfl⟩ := h
    exact ⟨S, e⟩
  rw [e_law, len_fl, bOk, vb_min, bOk, vb_max, bOk, List.length_map]
  generalize hv : (if (if (ns.length : Int) < 4 then (ns.length : Int) else 4) > 2 then (if (ns.length : Int) < 4 then (ns.length : Int) else 4) else 2) = v
  have v0 : 0 ≤ v ∧ v ≤ 4 := by
    subst hv
    split <;> split at * <;> omega
  rw [rgC1 (by omega)]
  refine yes_turns (fun _ r S' => r.2 = Fl.nx ∧ (∃ a b c d e f g, r.1 = E8 (.fl false (ns.map W.int)) a b c d e f g) ∧ Shut S') ⟨rfl, ⟨_, _, _, _, _, _, _, rfl⟩, Shut.nil⟩ ?_ ?_
  · rintro j ⟨e, fl⟩ S' w hw ⟨rfl, ⟨_, _, _, _, _, _, _, rfl⟩, hS⟩
    obtain ⟨rfl, hj⟩ := rg_at hw
    refine yes_imp (lawTurn hb (by omega) (by omega) hS) ?_
    rintro r S2 ⟨q1, q2, q3, q4⟩
    exact ⟨q1, q2, q3, q4⟩
  · rintro ⟨e, fl⟩ S' ⟨rfl, ⟨a, b, c, d, e, f, g, rfl⟩, hS⟩
    rw [kNx]
    dsimp only
    have t : callN P (0 + 15) "rule_text" [.tup [.str "rows"]] S' = .ok (.str "rows") S' := by
      rw [e_rule_text]
      simp only [it_tup, at0, oOk, bOk, eqT, iF_t]
    rw [t, bOk, eqT, iB_s]
    exact yes_ok rfl
end K8

namespace K8
open PySem Y L2
theorem sc_f_rule_text : FnScope f_rule_text.N f_rule_text.ps (defScope f_rule_text.st) := ⟨rfl, rfl, rfl, by decide +kernel, rfl, by decide +kernel, by decide +kernel⟩
theorem bi_f_rule_text : BindsAll f_rule_text := fun x qual kV doc pm an cdv ct => ⟨fun us hl => match us, (show us.length = 1 from hl) with | [u0], _ => rfl, fun n ks m => nomatch m⟩
theorem sc_f_law_tape : FnScope f_law_tape.N f_law_tape.ps (defScope f_law_tape.st) := ⟨rfl, rfl, rfl, by decide +kernel, rfl, by decide +kernel, by decide +kernel⟩
theorem bi_f_law_tape : BindsAll f_law_tape := fun x qual kV doc pm an cdv ct => ⟨fun us hl => match us, (show us.length = 2 from hl) with | [u0, u1], _ => rfl, fun n ks m => nomatch m⟩
theorem sc_f_law_pick : FnScope f_law_pick.N f_law_pick.ps (defScope f_law_pick.st) := ⟨rfl, rfl, rfl, by decide +kernel, rfl, by decide +kernel, by decide +kernel⟩
theorem bi_f_law_pick : BindsAll f_law_pick := fun x qual kV doc pm an cdv ct => ⟨fun us hl => match us, (show us.length = 2 from hl) with | [u0, u1], _ => rfl, fun n ks m => nomatch m⟩
theorem sc_f_law_one_of : FnScope f_law_one_of.N f_law_one_of.ps (defScope f_law_one_of.st) := ⟨rfl, rfl, rfl, by decide +kernel, rfl, by decide +kernel, by decide +kernel⟩
theorem bi_f_law_one_of : BindsAll f_law_one_of := fun x qual kV doc pm an cdv ct => ⟨fun us hl => match us, (show us.length = 2 from hl) with | [u0, u1], _ => rfl, fun n ks m => nomatch m⟩
theorem sc_f_law_word : FnScope f_law_word.N f_law_word.ps (defScope f_law_word.st) := ⟨rfl, rfl, rfl, by decide +kernel, rfl, by decide +kernel, by decide +kernel⟩
theorem bi_f_law_word : BindsAll f_law_word := fun x qual kV doc pm an cdv ct => ⟨fun us hl => match us, (show us.length = 1 from hl) with | [u0], _ => rfl, fun n ks m => nomatch m⟩
theorem sc_f_law_free_rule : FnScope f_law_free_rule.N f_law_free_rule.ps (defScope f_law_free_rule.st) := ⟨rfl, rfl, rfl, by decide +kernel, rfl, by decide +kernel, by decide +kernel⟩
theorem bi_f_law_free_rule : BindsAll f_law_free_rule := fun x qual kV doc pm an cdv ct => ⟨fun us hl => match us, (show us.length = 2 from hl) with | [u0, u1], _ => rfl, fun n ks m => nomatch m⟩
theorem sc_f_law_parts : FnScope f_law_parts.N f_law_parts.ps (defScope f_law_parts.st) := ⟨rfl, rfl, rfl, by decide +kernel, rfl, by decide +kernel, by decide +kernel⟩
theorem bi_f_law_parts : BindsAll f_law_parts := fun x qual kV doc pm an cdv ct => ⟨fun us hl => match us, (show us.length = 1 from hl) with | [u0], _ => rfl, fun n ks m => nomatch m⟩
theorem sc_f_law_words : FnScope f_law_words.N f_law_words.ps (defScope f_law_words.st) := ⟨rfl, rfl, rfl, by decide +kernel, rfl, by decide +kernel, by decide +kernel⟩
theorem bi_f_law_words : BindsAll f_law_words := fun x qual kV doc pm an cdv ct => ⟨fun us hl => match us, (show us.length = 1 from hl) with | [u0], _ => rfl, fun n ks m => nomatch m⟩
theorem sc_f_law : FnScope f_law.N f_law.ps (defScope f_law.st) := ⟨rfl, rfl, rfl, by decide +kernel, rfl, by decide +kernel, by decide +kernel⟩
theorem bi_f_law : BindsAll f_law := fun x qual kV doc pm an cdv ct => ⟨fun us hl => match us, (show us.length = 1 from hl) with | [u0], _ => rfl, fun n ks m => nomatch m⟩
theorem glo_ok {K : PySem.W.Frag} {mg : Str → Option Value} {h : Heap} (X : K.In h) (G : h.Ns mainGlobals mg) (g0 : PySem.W.nsIn K mainGlobals "tuple" = some none) : GOk K mg P := by
  intro x w hx
  have m := PySem.mem_of_lookup (show glo.lookup x = some w from hx)
  unfold glo at m
  simp only [List.mem_cons, List.not_mem_nil, or_false, Prod.mk.injEq] at m
  rcases m with ⟨rfl, rfl⟩
  · exact .inr ⟨"tuple", rfl, PySem.W.mg_none_of X G g0, by decide +kernel⟩
theorem tabAt {K : PySem.W.Frag} {mg : Str → Option Value} {h : Heap} (X : K.In h) (G : h.Ns mainGlobals mg) (D : ∀ p ∈ tab, ∃ fa fd, DefAt K mg p.1 p.2 fa fd) (B : ∀ x ∈ ("range" : Str) :: builtins, PySem.W.nsIn K mainGlobals x = some none) (Gl : GOk K mg P) : TabAt P K mg :=
  tab_mkG D Gl fun x hx => PySem.W.mg_none_of X G (B x hx)
theorem allD {p : Str × Fi → Prop} (a0 : p ("rule_text", f_rule_text)) (a1 : p ("_law_tape", f_law_tape)) (a2 : p ("_law_pick", f_law_pick)) (a3 : p ("_law_one_of", f_law_one_of)) (a4 : p ("_law_word", f_law_word)) (a5 : p ("_law_free_rule", f_law_free_rule)) (a6 : p ("_law_parts", f_law_parts)) (a7 : p ("_law_words", f_law_words)) (a8 : p ("law", f_law)) : ∀ q ∈ tab, p q := by
  unfold tab
  simp only [List.forall_mem_cons, List.not_mem_nil, false_imp_iff, implies_true, and_true]
  exact ⟨a0, a1, a2, a3, a4, a5, a6, a7, a8⟩
theorem allB {p : Str → Prop} (a0 : p "range") (a1 : p "len") (a2 : p "int") (a3 : p "max") (a4 : p "min") (a5 : p "tuple") (a6 : p "list") (a7 : p "all") (a8 : p "any") (a9 : p "isinstance") (a10 : p "repr") : ∀ q ∈ ("range" : Str) :: builtins, p q := by
  unfold builtins
  simp only [List.forall_mem_cons, List.not_mem_nil, false_imp_iff, implies_true, and_true]
  exact ⟨a0, a1, a2, a3, a4, a5, a6, a7, a8, a9, a10⟩
end K8
namespace HE
open PySem PySem.W PyProof.Rows in
set_option maxRecDepth 100000 in
set_option maxHeartbeats 0 in
theorem aux : PySem.Challenge.rw_sharerules_k08_texts_and_parts_of_rules.Holds := by
  w_on; o_law; k_head; (case hw => w_witness2)
  k_fill
  refine Y.walkZG (P := K8.P) (fi := K8.f_law) (kd := 16) (n := 63) rfl (by decide) rfl ⟨rfl, by decide, by decide⟩ (by decide +kernel) (fun w h Y => PySem.W.kIn_of Y) (fun w mg h KX G => ⟨K8.tabAt KX G ?D ?B ?Gl, ?Pt⟩) rfl rfl (fun ns h1 h2 => K8.ans ns h1 h2)
  case Pt =>
    refine' Y.pt_mk (st := K8.top 2) KX G ?a ?l ?c ?k ?i ?t ?hx ?hq ?hb ?ha ?hs; (case a => k_is); (case l => k_is); (case c => k_is); (case k => k_is); (case i => k_is); (case t => k_is); (case hx => rfl); (case hq => rfl); (case hb => rfl); (case ha => rfl); (case hs => rfl)
  case D =>
    refine K8.allD ?_ ?_ ?_ ?_ ?_ ?_ ?_ ?_ ?_
    · refine' Y.defAt_mk KX G ?a ?l ?c ?k K8.sc_f_rule_text K8.bi_f_rule_text; (case a => k_is); (case l => k_is); (case c => k_is); (case k => k_is)
    · refine' Y.defAt_mk KX G ?a ?l ?c ?k K8.sc_f_law_tape K8.bi_f_law_tape; (case a => k_is); (case l => k_is); (case c => k_is); (case k => k_is)
    · refine' Y.defAt_mk KX G ?a ?l ?c ?k K8.sc_f_law_pick K8.bi_f_law_pick; (case a => k_is); (case l => k_is); (case c => k_is); (case k => k_is)
    · refine' Y.defAt_mk KX G ?a ?l ?c ?k K8.sc_f_law_one_of K8.bi_f_law_one_of; (case a => k_is); (case l => k_is); (case c => k_is); (case k => k_is)
    · refine' Y.defAt_mk KX G ?a ?l ?c ?k K8.sc_f_law_word K8.bi_f_law_word; (case a => k_is); (case l => k_is); (case c => k_is); (case k => k_is)
    · refine' Y.defAt_mk KX G ?a ?l ?c ?k K8.sc_f_law_free_rule K8.bi_f_law_free_rule; (case a => k_is); (case l => k_is); (case c => k_is); (case k => k_is)
    · refine' Y.defAt_mk KX G ?a ?l ?c ?k K8.sc_f_law_parts K8.bi_f_law_parts; (case a => k_is); (case l => k_is); (case c => k_is); (case k => k_is)
    · refine' Y.defAt_mk KX G ?a ?l ?c ?k K8.sc_f_law_words K8.bi_f_law_words; (case a => k_is); (case l => k_is); (case c => k_is); (case k => k_is)
    · refine' Y.defAt_mk KX G ?a ?l ?c ?k K8.sc_f_law K8.bi_f_law; (case a => k_is); (case l => k_is); (case c => k_is); (case k => k_is)
  case B =>
    refine K8.allB ?_ ?_ ?_ ?_ ?_ ?_ ?_ ?_ ?_ ?_ ?_ <;> k_is
  case Gl =>
    refine' K8.glo_ok KX G ?yg0
    (case yg0 => k_is)
end HE
theorem PySem.Challenge.cw_sharerules_k08_texts_and_parts_of_rules_holds : PySem.Challenge.rw_sharerules_k08_texts_and_parts_of_rules.Holds :=
  HE.aux

