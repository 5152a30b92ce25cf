import PyProof.Rows.All
import Wide.All
import OpenK.AllK
import Wide.FinOn
import HandS.ForMost
import HandS.ForExc
import HandS.WordsExc
import HandS.Walk
import HandS.ExcInit
import HandS.ExcField
import HandS.ExcSuper
import HandS.TryMany
import HandS.CallSlots
import HandS.ClsMeth
import HandS.FStr
import HandS.IsInst
import HandS.OwnEq
import HandS.RaiseMore
import HandS.SetKeys
import HandS.Strs
import HandS.Zip
import HandS.Star
import HandS.Small
import HandS.Style
import HandS.Steps
import HandS.Defaults
import HandS.Head0
import HandS.Head1
import HandS.Head2
import HandS.Head3
import HandS.HeadEnd
import HandS.HeadHook1
import HandS.HeadHook2
import HandS.HeadNt
import HandS.ExcValue
import KE.KCallOwn
import HandS.Dict
import HandS.More
import KE.KExcIs
import HandS.ExcIs
import KE.KStateDown
import KE.KExcInit
import PyProof.ReprRoads
import PyProof.ReprLen
import PySem.Challenge.RW_countonce_k04_wrong_rows
set_option linter.all false
/-! Cn.M0: the program as plain functions over lists of signs. -/
namespace Cn
abbrev T := List Nat

def isPre : T → T → Bool
  | [], _ => true
  | _ :: _, [] => false
  | x :: a, y :: b => x == y && isPre a b
def splitC (c : Nat) : T → List T
  | [] => [[]]
  | x :: r => if x == c then [] :: splitC c r else match splitC c r with
    | [] => [[x]]
    | h :: t => (x :: h) :: t
theorem splitC_ne (c : Nat) : ∀ l, splitC c l ≠ []
  | [] => by simp [splitC]
  | x :: r => by
    unfold splitC
    split
    · simp
    · split <;> simp
def joinT (sep : T) : List T → T
  | [] => []
  | [p] => p
  | p :: q :: r => p ++ (sep ++ joinT sep (q :: r))
def isName (w : T) : Bool := decide (1 ≤ w.length) && (decide (w.length ≤ 8) && w.all fun c => decide (97 ≤ c) && decide (c ≤ 122))
/-- written texts -/
def kTable : T := [116, 97, 98, 108, 101, 32]
def kColumn : T := [32, 32, 99, 111, 108, 117, 109, 110, 32]
def kKey : T := [32, 32, 107, 101, 121, 32]
def kRef : T := [32, 32, 114, 101, 102, 32]
def kOpt : T := [32, 32, 111, 112, 116, 105, 111, 110, 97, 108, 32]
def kEnd : T := [101, 110, 100]
def kArrow : T := [45, 62]

structure Tbl where
  name : T
  cols : List T
  keys : List (List T)
  refs : List (List T × T × Bool)
  deriving DecidableEq

section
variable (L : List T)
def begins (n : Nat) (st : T) : Bool := match L[n]? with
  | some r => isPre st r
  | none => false
def words (n : Nat) (st : T) : Option (List T) := match L[n]? with
  | some r => if isPre st r then some (splitC 32 (r.drop st.length)) else none
  | none => none
def newName (n : Nat) (st : T) (taken : List T) : Except Nat T := match words L n st with
  | some ws => if ws.length == 1 && (isName (ws.headD []) && !taken.contains (ws.headD [])) then .ok (ws.headD []) else .error n
  | none => .error n
def exactly (n : Nat) (row : T) : Bool := L[n]? == some row
def colsLoop : Nat → Nat → List T → Except Nat (List T × Nat)
  | 0, n, cols => .ok (cols, n)
  | f + 1, n, cols =>
    if cols.isEmpty || begins L n kColumn then
      match newName L n kColumn cols with
      | .error e => .error e
      | .ok w => if cols.length + 1 ≤ 5 then colsLoop f (n + 1) (cols ++ [w]) else .error n
    else .ok (cols, n)
def hasAll (cols others : List T) : Bool := others.all fun o => cols.contains o
def areDiff (ws cols : List T) : Bool := decide ws.Nodup && hasAll cols ws
def keysLoop (cols : List T) : Nat → Nat → List (List T) → Except Nat (List (List T) × Nat)
  | 0, n, keys => .ok (keys, n)
  | f + 1, n, keys =>
    if keys.isEmpty || begins L n kKey then
      match words L n kKey with
      | none => .error n
      | some k =>
        if decide (k.length ≤ 3) && areDiff k cols then
          if keys.any fun o => hasAll k o || hasAll o k then .error n
          else if keys.length + 1 ≤ 3 then keysLoop cols f (n + 1) (keys ++ [k]) else .error n
        else .error n
    else .ok (keys, n)
def refStart (req : Bool) : T := if req then kRef else kOpt
def targets (req : Bool) (t : Tbl) (above : List Tbl) : List Tbl := if req then above else above ++ [t]
def foundIn (req : Bool) (t : Tbl) (above : List Tbl) (tgt : T) : List Tbl := (targets req t above).filter fun a => a.name == tgt
def fits (found : List Tbl) (cols : List T) : Bool := match found with
  | [f] => (f.keys.headD []).length == cols.length
  | _ => false
def barred (req : Bool) (t : Tbl) (cols : List T) : Bool := !req && t.keys.any (fun k => cols.any fun c => k.contains c)
def readRef (n : Nat) (t : Tbl) (above : List Tbl) : Except Nat (List T × T × Bool) :=
  match words L n (refStart (begins L n kRef)) with
  | none => .error n
  | some ws =>
    if decide (3 ≤ ws.length) && (ws.getD (ws.length - 2) [] == kArrow) then
      if fits (foundIn (begins L n kRef) t above (ws.getD (ws.length - 1) [])) (ws.take (ws.length - 2)) then
        if areDiff (ws.take (ws.length - 2)) t.cols then
          if barred (begins L n kRef) t (ws.take (ws.length - 2)) then .error n else .ok (ws.take (ws.length - 2), ws.getD (ws.length - 1) [], begins L n kRef)
        else .error n
      else .error n
    else .error n
def refsLoop (t : Tbl) (above : List Tbl) : Nat → Nat → List (List T × T × Bool) → Except Nat (List (List T × T × Bool) × Nat)
  | 0, n, refs => .ok (refs, n)
  | f + 1, n, refs =>
    if begins L n kRef || begins L n kOpt then
      match readRef L n t above with
      | .error e => .error e
      | .ok r =>
        if r.1.any fun c => (refs.flatMap (·.1)).contains c then .error n
        else if refs.length + 1 ≤ 2 then refsLoop t above f (n + 1) (refs ++ [r]) else .error n
    else .ok (refs, n)
def readTable (n : Nat) (above : List Tbl) : Except Nat (Tbl × Nat) :=
  match newName L n kTable (above.map (·.name)) with
  | .error e => .error e
  | .ok name =>
    if above.length < 5 then
      match colsLoop L 6 (n + 1) [] with
      | .error e => .error e
      | .ok (cols, n1) =>
        match keysLoop L cols 4 n1 [] with
        | .error e => .error e
        | .ok (keys, n2) =>
          match refsLoop L ⟨name, cols, keys, []⟩ above 3 n2 [] with
          | .error e => .error e
          | .ok (refs, n3) => if exactly L n3 kEnd then .ok (⟨name, cols, keys, refs⟩, n3 + 1) else .error n3
    else .error n
def tablesLoop : Nat → Nat → List Tbl → Except Nat (List Tbl × Nat)
  | 0, n, ts => .ok (ts, n)
  | f + 1, n, ts =>
    if ts.isEmpty || !(n == L.length) then
      match readTable L n ts with
      | .error e => .error e
      | .ok (t, n1) => tablesLoop f n1 (ts ++ [t])
    else .ok (ts, n)
end
def parseRows (L : List T) : Except Nat (List Tbl) := match tablesLoop L 6 0 [] with
  | .error e => .error e
  | .ok (ts, _) => .ok ts
def refRow (r : List T × T × Bool) : T := [32, 32] ++ ((if r.2.2 then [114, 101, 102] else [111, 112, 116, 105, 111, 110, 97, 108]) ++ ([32] ++ (joinT [32] r.1 ++ ([32, 45, 62, 32] ++ r.2.1))))
def tableRows (t : Tbl) : List T := [kTable ++ t.name] ++ (t.cols.map (fun c => kColumn ++ c) ++ (t.keys.map (fun k => kKey ++ joinT [32] k) ++ (t.refs.map refRow ++ [kEnd])))
def schemaText (ts : List Tbl) : T := joinT [10] (ts.flatMap tableRows)

/-! ### what a read table is -/
structure WfT (t : Tbl) : Prop where
  name : t.name.length ≤ 8
  cols0 : t.cols ≠ []
  cols : t.cols.length ≤ 5
  col : ∀ c ∈ t.cols, c.length ≤ 8
  keys0 : t.keys ≠ []
  keys : t.keys.length ≤ 3
  key : ∀ k ∈ t.keys, k.length ≤ 3 ∧ ∀ c ∈ k, c ∈ t.cols
  refs : t.refs.length ≤ 2
  ref : ∀ r ∈ t.refs, r.1.length ≤ 3 ∧ r.2.1.length ≤ 8 ∧ ∀ c ∈ r.1, c ∈ t.cols
theorem isName_len {w : T} (h : isName w = true) : w.length ≤ 8 := by
  unfold isName at h
  simp only [Bool.and_eq_true, decide_eq_true_eq] at h
  exact h.2.1
theorem newName_ok {L : List T} {n : Nat} {st : T} {taken : List T} {w : T} (h : newName L n st taken = .ok w) : isName w = true ∧ w ∉ taken := by
  unfold newName at h
  split at h
  · split at h
    · rename_i ws _ q
      cases h
      simp only [Bool.and_eq_true, Bool.not_eq_true', beq_iff_eq] at q
      exact ⟨q.2.1, fun z => by have := q.2.2; rw [List.contains_iff_mem.mpr z] at this; cases this⟩
    · cases h
  · cases h
theorem words_lt {L : List T} {n : Nat} {st : T} {ws : List T} (h : words L n st = some ws) : n < L.length := by
  unfold words at h
  split at h
  · rename_i r hr
    exact (List.getElem?_eq_some_iff.mp hr).1
  · cases h
theorem newName_lt {L : List T} {n : Nat} {st : T} {taken : List T} {w : T} (h : newName L n st taken = .ok w) : n < L.length := by
  unfold newName at h
  split at h
  · rename_i ws hw
    exact words_lt hw
  · cases h
theorem words_len {L : List T} {n : Nat} {st : T} {ws : List T} (h : words L n st = some ws) : ws ≠ [] := by
  unfold words at h
  split at h
  · split at h
    · cases h; exact splitC_ne _ _
    · cases h
  · cases h
theorem colsLoop_ok {L : List T} : ∀ {f n : Nat} {cols r : List T} {n' : Nat}, colsLoop L f n cols = .ok (r, n') → cols.length ≤ 5 → (∀ c ∈ cols, c.length ≤ 8) → f + cols.length = 6 → r ≠ [] ∧ r.length ≤ 5 ∧ ∀ c ∈ r, c.length ≤ 8
  | 0, n, cols, r, n', h, h5, h8, hf => by omega
  | f + 1, n, cols, r, n', h, h5, h8, hf => by
    unfold colsLoop at h
    split at h
    · split at h
      · cases h
      · rename_i w hw
        split at h
        · exact colsLoop_ok h (by simp; omega) (fun c hc => by
            rcases List.mem_append.mp hc with z | z
            · exact h8 c z
            · rw [List.mem_singleton.mp z]; exact isName_len (newName_ok hw).1) (by simp; omega)
        · cases h
    · rename_i q
      cases h
      simp only [Bool.or_eq_true, not_or, List.isEmpty_iff] at q
      exact ⟨q.1, h5, h8⟩
theorem hasAll_ok {cols others : List T} (h : hasAll cols others = true) : ∀ c ∈ others, c ∈ cols := fun c hc => by
  have := List.all_eq_true.mp h c hc
  exact List.contains_iff_mem.mp this
theorem areDiff_ok {ws cols : List T} (h : areDiff ws cols = true) : ws.Nodup ∧ ∀ c ∈ ws, c ∈ cols := by
  unfold areDiff at h
  simp only [Bool.and_eq_true, decide_eq_true_eq] at h
  exact ⟨h.1, hasAll_ok h.2⟩
theorem keysLoop_ok {L : List T} {cols : List T} : ∀ {f n : Nat} {keys r : List (List T)} {n' : Nat}, keysLoop L cols f n keys = .ok (r, n') → keys.length ≤ 3 → (∀ k ∈ keys, k.length ≤ 3 ∧ ∀ c ∈ k, c ∈ cols) → f + keys.length = 4 →
    r ≠ [] ∧ r.length ≤ 3 ∧ ∀ k ∈ r, k.length ≤ 3 ∧ ∀ c ∈ k, c ∈ cols
  | 0, n, keys, r, n', h, h3, hk, hf => by omega
  | f + 1, n, keys, r, n', h, h3, hk, hf => by
    unfold keysLoop at h
    split at h
    · split at h
      · cases h
      · split at h
        · rename_i k _ q
          simp only [Bool.and_eq_true, decide_eq_true_eq] at q
          split at h
          · cases h
          · split at h
            · exact keysLoop_ok h (by simp; omega) (fun c hc => by
                rcases List.mem_append.mp hc with z | z
                · exact hk c z
                · rw [List.mem_singleton.mp z]; exact ⟨q.1, (areDiff_ok q.2).2⟩) (by simp; omega)
            · cases h
        · cases h
    · rename_i q
      cases h
      simp only [Bool.or_eq_true, not_or, List.isEmpty_iff] at q
      exact ⟨q.1, h3, hk⟩
theorem fits_ok {fl : List Tbl} {cols : List T} (h : fits fl cols = true) : ∃ f, fl = [f] ∧ (f.keys.headD []).length = cols.length := by
  unfold fits at h
  split at h
  · exact ⟨_, rfl, eq_of_beq h⟩
  · cases h
theorem foundIn_mem {req : Bool} {t f : Tbl} {above : List Tbl} {tgt : T} (h : f ∈ foundIn req t above tgt) : (f ∈ above ∨ f = t) ∧ f.name = tgt := by
  obtain ⟨f1, f2⟩ := List.mem_filter.mp h
  refine ⟨?_, eq_of_beq f2⟩
  unfold targets at f1
  split at f1
  · exact .inl f1
  · rcases List.mem_append.mp f1 with z | z
    · exact .inl z
    · exact .inr (List.mem_singleton.mp z)
theorem readRef_ok {L : List T} {n : Nat} {t : Tbl} {above : List Tbl} {r : List T × T × Bool} (h : readRef L n t above = .ok r) (hn : t.name.length ≤ 8) (ha : ∀ a ∈ above, WfT a) (ht : ∀ k ∈ t.keys, k.length ≤ 3) (h0 : t.keys ≠ []) :
    r.1.length ≤ 3 ∧ r.2.1.length ≤ 8 ∧ ∀ c ∈ r.1, c ∈ t.cols := by
  unfold readRef at h
  split at h
  · cases h
  · rename_i ws _
    split at h
    · split at h
      · rename_i q
        split at h
        · rename_i qd
          split at h
          · cases h
          · cases h
            obtain ⟨f, ef, el⟩ := fits_ok q
            obtain ⟨hf, hfn⟩ := foundIn_mem (f := f) (by rw [ef]; exact List.mem_singleton.mpr rfl)
            have hk : (f.keys.headD []).length ≤ 3 := by
              have key : ∀ k ∈ f.keys, k.length ≤ 3 := by
                rcases hf with z | z
                · exact fun k hk => ((ha f z).key k hk).1
                · rw [z]; exact ht
              cases e : f.keys with
              | nil => simp
              | cons k r => exact key k (by rw [e]; exact List.mem_cons_self)
            refine ⟨by rw [← el]; exact hk, ?_, (areDiff_ok qd).2⟩
            show (ws.getD (ws.length - 1) []).length ≤ 8
            rw [← hfn]
            rcases hf with z | z
            · exact (ha f z).name
            · rw [z]; exact hn
        · cases h
      · cases h
    · cases h
theorem refsLoop_ok {L : List T} {t : Tbl} {above : List Tbl} (hn : t.name.length ≤ 8) (ha : ∀ a ∈ above, WfT a) (ht : ∀ k ∈ t.keys, k.length ≤ 3) (h0 : t.keys ≠ []) : ∀ {f n : Nat} {refs r : List (List T × T × Bool)} {n' : Nat}, refsLoop L t above f n refs = .ok (r, n') → refs.length ≤ 2 →
    (∀ r ∈ refs, r.1.length ≤ 3 ∧ r.2.1.length ≤ 8 ∧ ∀ c ∈ r.1, c ∈ t.cols) → f + refs.length = 3 → r.length ≤ 2 ∧ ∀ q ∈ r, q.1.length ≤ 3 ∧ q.2.1.length ≤ 8 ∧ ∀ c ∈ q.1, c ∈ t.cols
  | 0, n, refs, r, n', h, h2, hr, hf => by omega
  | f + 1, n, refs, r, n', h, h2, hr, hf => by
    unfold refsLoop at h
    split at h
    · split at h
      · cases h
      · rename_i q hq
        split at h
        · cases h
        · split at h
          · exact refsLoop_ok hn ha ht h0 h (by simp; omega) (fun c hc => by
              rcases List.mem_append.mp hc with z | z
              · exact hr c z
              · rw [List.mem_singleton.mp z]; exact readRef_ok hq hn ha ht h0) (by simp; omega)
          · cases h
    · cases h
      exact ⟨h2, hr⟩
theorem readTable_ok {L : List T} {n : Nat} {above : List Tbl} {t : Tbl} {n' : Nat} (h : readTable L n above = .ok (t, n')) (ha : ∀ a ∈ above, WfT a) : WfT t ∧ above.length < 5 ∧ t.name ∉ above.map (·.name) := by
  unfold readTable at h
  split at h
  · cases h
  · rename_i name hname
    split at h
    · rename_i h5
      split at h
      · cases h
      · rename_i cols n1 hc
        split at h
        · cases h
        · rename_i keys n2 hk
          split at h
          · cases h
          · rename_i refs n3 hr
            split at h
            · cases h
              have c := colsLoop_ok hc (by simp) (by simp) (by simp)
              have k := keysLoop_ok hk (by simp) (by simp) (by simp)
              have nm := newName_ok hname
              have r := refsLoop_ok (t := ⟨name, cols, keys, []⟩) (isName_len nm.1) ha (fun k' hk' => (k.2.2 k' hk').1) k.1 hr (by simp) (by simp) (by simp)
              exact ⟨⟨isName_len nm.1, c.1, c.2.1, c.2.2, k.1, k.2.1, k.2.2, r.1, r.2⟩, h5, nm.2⟩
            · cases h
    · cases h
theorem tablesLoop_ok {L : List T} : ∀ {f n : Nat} {ts r : List Tbl} {n' : Nat}, tablesLoop L f n ts = .ok (r, n') → ts.length ≤ 5 → (∀ t ∈ ts, WfT t) → f + ts.length = 6 → r ≠ [] ∧ r.length ≤ 5 ∧ ∀ t ∈ r, WfT t
  | 0, n, ts, r, n', h, h5, hw, hf => by omega
  | f + 1, n, ts, r, n', h, h5, hw, hf => by
    unfold tablesLoop at h
    split at h
    · split at h
      · cases h
      · rename_i t n1 ht
        obtain ⟨w, l, _⟩ := readTable_ok ht hw
        exact tablesLoop_ok h (by simp; omega) (fun c hc => by
          rcases List.mem_append.mp hc with z | z
          · exact hw c z
          · rw [List.mem_singleton.mp z]; exact w) (by simp; omega)
    · rename_i q
      cases h
      simp only [Bool.or_eq_true, not_or, List.isEmpty_iff] at q
      exact ⟨q.1, h5, hw⟩
theorem parseRows_ok {L : List T} {ts : List Tbl} (h : parseRows L = .ok ts) : ts ≠ [] ∧ ts.length ≤ 5 ∧ ∀ t ∈ ts, WfT t := by
  unfold parseRows at h
  split at h
  · cases h
  · rename_i r n' hr
    cases h
    exact tablesLoop_ok hr (by simp) (by simp) (by simp)
end Cn
set_option Elab.async false
set_option linter.all false
set_option maxRecDepth 100000
set_option maxHeartbeats 2000000
/-! Cn: shared ground: calls by bundles, texts as lists of signs, heaps. -/
namespace Cn
open PySem L2

/-! ### calls -/
structure Cal (P : Program) (w : World) (K : PySem.W.Frag) (mg : Str → Option Value) (base : Heap) (k : Nat) (x : Str) (sp : Sp) : Prop where
  ex : ∃ (f : Addr) (fd : FuncData) (ps : List Str), FnOk P w K mg base (L2.CX P w) k f fd ps sp ∧ mg x = some (.ref f) ∧ PySem.W.keepIn K (.ref f) = true ∧ Binds K fd ps []
structure Met (P : Program) (w : World) (K : PySem.W.Frag) (mg : Str → Option Value) (base : Heap) (k : Nat) (C : Addr) (m : Str) (sp : Sp) : Prop where
  ex : ∃ (f : Addr) (fd : FuncData) (ps : List Str), Cls K C ∧ Meth K C m f ∧ FnOk P w K mg base (L2.CX P w) k f fd ps sp ∧ Binds K fd ps []
structure Mak (P : Program) (w : World) (K : PySem.W.Frag) (mg : Str → Option Value) (base : Heap) (k : Nat) (x : Str) (C : Addr) (sp : Sp) : Prop where
  ex : ∃ (f : Addr) (fd : FuncData) (ps : List Str), Mk K C f ∧ FnOk P w K mg base (L2.CX P w) k f fd ps sp ∧ mg x = some (.ref C) ∧ Binds K fd ps []
section
variable {X : Cx} {k j : Nat} {C : Addr} {x m : Str} {sp : Sp} {p pos apos : Pos} {e o : Expr} {es : List Expr} {ta : TE} {t : TA} {E : XK}
theorem passX (hs : X.stack = X.env :: X.outer) (hf : X.env.frame = some X.env.locals) (hex : X.ex = []) {E : XK}
    (tk : Takes X (fun c d _ H => E c d H)) : Passes (L2.CX X.prog X.w) X E := passes_call tk fun _ _ _ _ h => h
theorem p_call (E : XK) (c : Cal X.prog X.w X.K X.mg X.base k x sp) (hr : Room j X.A) (hk : k ≤ j) (hg : Gl X x) (hx : Passes (L2.CX X.prog X.w) X E) (ha : PA X (e :: es) t)
    (hdb : (x == ("__debug__" : Str)) = false := by decide) (he : starEach (e :: es) X.env = (false, eval e X.env) :: starEach es X.env := by rfl) (hpl : (backTo pos (starEach es X.env)).any (·.1) = false := by rfl) :
    PE X (.Call (.Name x p) (e :: es) [] pos) (tCall sp [] E t) := by
  obtain ⟨f, fd, ps, F, hm, kp, b⟩ := c.ex
  exact pe_call F (hr.mono hk) hg hm kp b .nil hx ha hdb he hpl
theorem p_call0 (E : XK) (c : Cal X.prog X.w X.K X.mg X.base k x sp) (hr : Room j X.A) (hk : k ≤ j) (hg : Gl X x) (hx : Passes (L2.CX X.prog X.w) X E)
    (hdb : (x == ("__debug__" : Str)) = false := by decide) : PE X (.Call (.Name x p) [] [] pos) (tCall sp [] E tNil) := by
  obtain ⟨f, fd, ps, F, hm, kp, b⟩ := c.ex
  exact pe_call0 F (hr.mono hk) hg hm kp b .nil hx hdb
theorem p_make (E : XK) (c : Mak X.prog X.w X.K X.mg X.base k x C sp) (hr : Room j X.A) (hk : k + 1 ≤ j) (hg : Gl X x) (hx : Passes (L2.CX X.prog X.w) X E) (ha : PA X (e :: es) t)
    (hdb : (x == ("__debug__" : Str)) = false := by decide) (he : starEach (e :: es) X.env = (false, eval e X.env) :: starEach es X.env := by rfl) (hpl : (backTo pos (starEach es X.env)).any (·.1) = false := by rfl) :
    PE X (.Call (.Name x p) (e :: es) [] pos) (tMake C sp [] E t) := by
  obtain ⟨f, fd, ps, M, F, hm, b⟩ := c.ex
  exact pe_make M F (hr.mono hk) hg hm b .nil hx ha hdb he hpl
theorem p_meth {pl : Sem Bool} (E : XK) (c : Met X.prog X.w X.K X.mg X.base k C m sp) (hr : Room j X.A) (hk : k ≤ j) (hx : Passes (L2.CX X.prog X.w) X E) (he : PE X o ta) (ha : PA X (e :: es) t)
    (hst : starEach (e :: es) X.env = (false, eval e X.env) :: starEach es X.env := by rfl) (hpl : (backTo pos (starEach es X.env)).any (·.1) = false := by rfl)
    (ht : eval (.Call (.Attribute o m apos) (e :: es) [] pos) X.env = (do
      let ov ← eval o X.env
      standAt apos.atName
      let (f, first) ← holding [ov] (getMethod ov m pl)
      callWith pos f first (backTo pos (starEach (e :: es) X.env)) (backToKw pos (keywordEach [] X.env))) := by rfl) :
    PE X (.Call (.Attribute o m apos) (e :: es) [] pos) (tMeth C m sp [] E ta t) := by
  obtain ⟨f, fd, ps, hc, hm, F, b⟩ := c.ex
  exact pe_meth (pl := pl) he hc hm F (hr.mono hk) b .nil hx ha hst hpl ht
theorem p_meth0 {pl : Sem Bool} (E : XK) (c : Met X.prog X.w X.K X.mg X.base k C m sp) (hr : Room j X.A) (hk : k ≤ j) (hx : Passes (L2.CX X.prog X.w) X E) (he : PE X o ta)
    (ht : eval (.Call (.Attribute o m apos) [] [] pos) X.env = (do
      let ov ← eval o X.env
      standAt apos.atName
      let (f, first) ← holding [ov] (getMethod ov m pl)
      callWith pos f first (backTo pos (starEach [] X.env)) (backToKw pos (keywordEach [] X.env))) := by rfl) :
    PE X (.Call (.Attribute o m apos) [] [] pos) (tMeth C m sp [] E ta tNil) := by
  obtain ⟨f, fd, ps, hc, hm, F, b⟩ := c.ex
  exact pe_meth0 (pl := pl) he hc hm F (hr.mono hk) b .nil hx ht
end
end Cn
set_option Elab.async false
set_option linter.all false
set_option maxRecDepth 100000
set_option maxHeartbeats 2000000
namespace Cn
open PySem L2

/-! ### heaps -/
/-- all that was tracked, but at l, is as it was -/
def But (l : List Addr) (H H' : Hp) : Prop := ∀ a o, a ∉ l → H a = some o → H' a = some o
theorem But.refl {l : List Addr} {H : Hp} : But l H H := fun _ _ _ h => h
theorem But.trans {l : List Addr} {H H1 H2 : Hp} (a : But l H H1) (b : But l H1 H2) : But l H H2 := fun x o n h => b x o n (a x o n h)
theorem But.of {l : List Addr} {H H' : Hp} (a : But [] H H') : But l H H' := fun x o _ h => a x o (by simp) h
theorem But.more {l m : List Addr} {H H' : Hp} (a : But l H H') (h : ∀ x ∈ l, x ∈ m) : But m H H' := fun x o n e => a x o (fun z => n (h x z)) e
theorem But.new {l : List Addr} {H H' : Hp} {p : Addr} {o : HO} (a : But l H H') (h : H' p = none) : But l H (upd H' p o) := fun x u n e => by
  rw [upd_ne (ne_of_none (a x u n e) h)]
  exact a x u n e
theorem But.put {l : List Addr} {H H' : Hp} {p : Addr} {o : HO} (a : But l H H') (h : p ∈ l) : But l H (upd H' p o) := fun x u n e => by
  rw [upd_ne (fun z => n (by rw [z]; exact h))]
  exact a x u n e
/-- a new object, changed afterwards -/
theorem But.put0 {l : List Addr} {H H' : Hp} {p : Addr} {o : HO} (a : But l H H') (h : H p = none) : But l H (upd H' p o) := fun x u n e => by
  rw [upd_ne (fun z => by rw [z, h] at e; cases e)]
  exact a x u n e
theorem But.drop {l : List Addr} {p : Addr} {H H' : Hp} (a : But (p :: l) H H') (h : H p = none) : But l H H' := fun x o n e => a x o (fun z => by
  rcases List.mem_cons.mp z with z | z
  · rw [z, h] at e; cases e
  · exact n z) e
theorem But.at {l : List Addr} {H H' : Hp} {a : Addr} {o : HO} (b : But l H H') (h : H a = some o) (n : a ∉ l := by simp) : H' a = some o := b a o n h
theorem But.same {H H' : Hp} (b : But [] H H') : Same H H' := fun a o h => b a o (by simp) h
theorem But.free {H H' : Hp} {l : List Addr} (b : But l H H') {p : Addr} (h : H' p = none) (n : p ∉ l) : H p = none := by
  cases e : H p with
  | none => rfl
  | some o => rw [b p o n e] at h; cases h
theorem not1 {a b : Addr} (h : a ≠ b) : a ∉ [b] := by simpa using h
theorem But.at1 {p : Addr} {H H' : Hp} {a : Addr} {o : HO} (b : But [p] H H') (h : H a = some o) (n : a ≠ p) : H' a = some o := b a o (not1 n) h

/-! ### texts as lists of signs -/
def S (l : List Nat) : Str := ⟨l.toArray⟩
theorem tl_S (l : List Nat) : TL.tl (S l) = l := rfl
theorem S_tl (x : Str) : S (TL.tl x) = x := TL.mk_tl x
theorem S_inj {a b : List Nat} (h : S a = S b) : a = b := by
  have := congrArg TL.tl h
  exact this
theorem S_len (l : List Nat) : (S l).length = l.length := by rw [TL.len_tl]; rfl
theorem S_app (a b : List Nat) : S a ++ S b = S (a ++ b) := TL.ext_tl (by rw [TL.tl_append]; rfl)
theorem S_eq (x : Str) {l : List Nat} (h : TL.tl x = l) : x = S l := by rw [← h, S_tl]
abbrev sv (l : List Nat) : V := .str (S l)
/-- a list of texts, as values -/
def svs (ls : List (List Nat)) : List V := ls.map sv
theorem svs_len (ls : List (List Nat)) : (svs ls).length = ls.length := by simp [svs]
theorem svs_get {ls : List (List Nat)} {i : Nat} {x : V} (h : (svs ls)[i]? = some x) : ∃ l, ls[i]? = some l ∧ x = sv l := by
  unfold svs at h
  rw [List.getElem?_map] at h
  cases e : ls[i]? with
  | none => rw [e] at h; cases h
  | some l => rw [e] at h; exact ⟨l, rfl, (Option.some.inj h).symm⟩
theorem svs_at {ls : List (List Nat)} {i : Nat} {l : List Nat} (h : ls[i]? = some l) : (svs ls)[i]? = some (sv l) := by
  unfold svs
  rw [List.getElem?_map, h]; rfl
theorem svs_app (a b : List (List Nat)) : svs (a ++ b) = svs a ++ svs b := by simp [svs]
theorem svs_str (ls : List (List Nat)) : svs ls = (ls.map S).map V.str := by simp [svs]

/-! ### names of the module -/
section
variable {X : Cx}
theorem p_gint {x : Str} {i : Int} {pos : Pos} (hm : ∃ t, X.mg x = some (.int i t)) (hg : Gl X x := by rfl) (hd : (x == ("__debug__" : Str)) = false := by decide) : PE X (.Name x pos) (tC (.int i)) := by
  obtain ⟨t, hm⟩ := hm
  exact pe_glob hg hm ⟨_, rfl⟩ hd
end

/-! ### errors of one field -/
/-- C's __init__: self.f = v -/
def sp_exinit (C : Addr) (f : Str) : Sp := fun vs H Q _ => ∃ a v, vs = [.ref a, v] ∧ H a = some (exo a C none) ∧ ∀ d, H d = none → d ≠ a → Q .non (upd (upd H d (exd d [(f, v)])) a (exo a C (some d)))
structure Xn (P : Program) (w : World) (K : PySem.W.Frag) (mg : Str → Option Value) (base : Heap) (k : Nat) (x f : Str) (C : Addr) : Prop where
  oex : OexC K C
  gC : mg x = some (.ref C)
  init : ∃ (fI : Addr) (fd : FuncData) (ps : List Str), PySem.W.findIn K (.ref C) "__init__" = some (some (.ref fI)) ∧ PySem.W.typeIn K (.ref fI) = some (.type "function") ∧
    FnOk P w K mg base (L2.CX P w) k fI fd ps (sp_exinit C f) ∧ Binds K fd ps []
section
variable {X : Cx} {k j : Nat} {C : Addr} {x f : Str} {p pos pos' : Pos} {e : Expr} {te : TE} {W : WX}
theorem pa_weak {es : List Expr} {t : TA} (ha : PA X es t) : PA X es (fun σ H R => ∃ M : List V → Hp → Prop, t σ H M ∧ ∀ vs H1, M vs H1 → R vs H1) :=
  ⟨fun pos pins s σ H Q I h => by
    obtain ⟨M, h1, h2⟩ := h
    exact thn (ha.run pos pins s σ H M I h1) fun us s1 ⟨vs, H1, I1, r, m⟩ => ⟨vs, H1, I1, r, h2 vs H1 m⟩⟩
theorem p_raise (T : Xn X.prog X.w X.K X.mg X.base k x f C) (hr : Room j X.A) (hk : k + 1 ≤ j) (tk : Takes X W) (hg : Gl X x) (ha : PA X [e] (tCons te tNil)) (hc : X.calm = true := by rfl)
    (hdb : (x == ("__debug__" : Str)) = false := by decide) (he : starEach [e] X.env = (false, eval e X.env) :: starEach [] X.env := by rfl) (hpl : (backTo pos (starEach [] X.env)).any (·.1) = false := by rfl) :
    PS X (.Raise (some (.Call (.Name x p) [e] [] pos)) none pos') (fun _ σ H => te σ H fun v H1 => ∀ H' d, But [] H1 H' → H1 d = none → H' d = some (.xd [(f, v)]) → W (.ref C) (some d) σ H') := by
  obtain ⟨fI, fd, ps, iC, tI, F1, b⟩ := T.init
  have r := ps_raise (pos := pos') hc tk (pmk_oex (p := p) (pos := pos) (ds := []) (dvs := []) T.oex iC tI F1 (hr.mono hk) b .nil passL hg T.gC (pa_weak ha) hdb he hpl)
  refine ⟨fun pins s σ H D I h => r.run pins s σ H D I ⟨fun vs H1 => ∃ v, vs = [v] ∧ ∀ H' d, But [] H1 H' → H1 d = none → H' d = some (.xd [(f, v)]) → W (.ref C) (some d) σ H', ?_, ?_⟩⟩
  · show te σ H fun v H1 => ∃ v', [v] = [v'] ∧ _
    have e1 : (fun (v : V) (H1 : Hp) => ∃ v', [v] = [v'] ∧ ∀ H' d, But [] H1 H' → H1 d = none → H' d = some (.xd [(f, v')]) → W (.ref C) (some d) σ H') = (fun v H1 => ∀ H' d, But [] H1 H' → H1 d = none → H' d = some (.xd [(f, v)]) → W (.ref C) (some d) σ H') := by
      funext v H1
      refine propext ⟨fun ⟨v', e, h⟩ => ?_, fun h => ⟨v, rfl, h⟩⟩
      cases e
      exact h
    rw [e1]
    exact h
  · rintro vs H1 ⟨v, rfl, q⟩
    refine ⟨by show 1 ≤ 1000; decide, fun a ha => ⟨a, v, rfl, upd_same, fun d hd hda => ⟨rfl, d, [(f, v)], upd_same, ?_, ?_, ?_⟩⟩⟩
    · rw [upd_ne hda, upd_same]
    · rw [upd_ne hda] at hd; exact hd
    · have hd1 : H1 d = none := by rw [upd_ne hda] at hd; exact hd
      refine q _ d (fun b o _ e => ?_) hd1 upd_same
      have nb : b ≠ a := ne_of_none e ha
      have nd : b ≠ d := ne_of_none e hd1
      rw [upd_ne nd, del_ne nb, upd_ne nb, upd_ne nd, upd_ne nb]
      exact e
end
end Cn
set_option Elab.async false
set_option linter.all false
set_option maxRecDepth 100000
set_option maxHeartbeats 4000000
/-! Cn.B2: len(set(t)), t a tuple of texts. -/
namespace Cn
open PySem PySem.Spec PyProof.Rows L2

/-- the different ones of xs, as a set meets them -/
def met (xs : List Str) (i : Nat) : List Str := (xs.take i).foldl (fun σ k => if σ.any (· == k) then σ else σ ++ [k]) []
theorem met_step {xs : List Str} {i : Nat} (h : i < xs.length) : met xs (i + 1) = if (met xs i).any (· == xs[i]) then met xs i else met xs i ++ [xs[i]] := by
  have e : xs.take (i + 1) = xs.take i ++ [xs[i]] := by rw [List.take_add_one, List.getElem?_eq_getElem h]; rfl
  unfold met
  rw [e, List.foldl_append]; rfl
theorem met_le (xs : List Str) : ∀ i, i ≤ xs.length → (met xs i).length ≤ i
  | 0, _ => by simp [met]
  | i + 1, h => by
    have ih := met_le xs i (by omega)
    rw [met_step (by omega)]
    split
    · omega
    · rw [List.length_append, List.length_singleton]; omega
theorem met_has {xs : List Str} {i : Nat} (h : i < xs.length) (k : Str) : (met xs (i + 1)).any (· == k) = ((met xs i).any (· == k) || decide (k = xs[i])) := by
  rw [met_step h]
  by_cases q : (met xs i).any (· == xs[i]) = true
  · rw [if_pos q]
    by_cases e : k = xs[i]
    · rw [e, q]; simp
    · simp [e]
  · rw [if_neg q, List.any_append]
    by_cases e : k = xs[i]
    · simp [e]
    · have e' : (xs[i] == k) = false := beq_eq_false_iff_ne.mpr fun z => e z.symm
      simp [e, e']
theorem met_num {xs : List Str} {i : Nat} (h : i < xs.length) : (met xs (i + 1)).length = if (met xs i).any (· == xs[i]) then (met xs i).length else (met xs i).length + 1 := by
  rw [met_step h]
  split <;> simp
theorem str_item {us : List Value} {xs : List Str} (h : StrsAre us xs) : ∀ (i : Nat) (v : Value) (hi : i < xs.length), us[i]? = some v → ∃ t, v = .str xs[i] t := by
  induction h with
  | nil => intro i v hi; exact absurd hi (by simp)
  | cons x t r ih =>
    intro i v hi e
    cases i with
    | zero => exact ⟨t, (Option.some.inj e).symm⟩
    | succ i => exact ih i v (by simpa using hi) e

section
variable {prog : Program} {w : World} {A : Around} {R : Result → Shared → Prop} {it : Addr} {fp wr : List Addr} {G : Array GenState → Array GenState → Prop} {n : Nat} {P : Nat → Value → Prop} {St : Nat → Shared → Prop}
/-- the loop that fills the set at T from the iterator it -/
theorem fill_texts (V : WalksS prog w A.in1 it fp wr G n P St) (T : Addr) (nT : T ∉ fp) (xs : List Str) (hn : xs.length = n) (hb : n + 1 < scanBound) (hv : ∀ i v (hi : i < xs.length), P i v → ∃ t, v = .str xs[i] t) :
    ∀ (m i : Nat) (s : Shared), n - i = m → i ≤ n → St i s → s.heap.SetOf (PySem.strKind prog w) T (fun k => (met xs i).any (· == k)) (met xs i).length →
      (∀ s', Moved (T :: wr) G s s' → s'.heap.SetOf (PySem.strKind prog w) T (fun k => (met xs n).any (· == k)) (met xs n).length → R (.ok (.ret .none)) s') →
      codeAny (model prog w) A (.builtin "set.update.loop" ⟨[.ref T, .ref it], []⟩) R s := by
  have nW : T ∉ wr := fun z => nT (V.sub _ z)
  have up : ∀ b ∈ wr, b ∈ T :: wr := fun b z => List.mem_cons_of_mem _ z
  have carry : ∀ {i : Nat} {s s' : Shared}, Moved wr G s s' → s.heap.SetOf (PySem.strKind prog w) T (fun k => (met xs i).any (· == k)) (met xs i).length → s'.heap.SetOf (PySem.strKind prog w) T (fun k => (met xs i).any (· == k)) (met xs i).length :=
    fun {i s s'} mv ⟨o, es, ep, tb, ho, more⟩ => ⟨o, es, ep, tb, mv.heap T _ nW ho, more⟩
  intro m
  induction m with
  | zero =>
    intro i s hm hi st hS hR
    obtain rfl : i = n := by omega
    refine codeAny_builtin F.entry_set_update_loop ?_
    rw [Around.under_plainId F.plain_set_update_loop _]
    show wpAny _ A.in1 (pyNext (.ref it) >>= _) _ _ s
    refine wpAny_bind (V.done s _ _ st fun s' mv => ?_)
    show wpAny _ A.in1 (ret Value.none) _ _ s'
    exact wpAny_pure (hR s' (mv.mono up) (carry mv hS))
  | succ m ih =>
    intro i s hm hi st hS hR
    have lt : i < n := by omega
    have ltx : i < xs.length := by omega
    refine codeAny_builtin F.entry_set_update_loop ?_
    rw [Around.under_plainId F.plain_set_update_loop _]
    show wpAny _ A.in1 (pyNext (.ref it) >>= _) _ _ s
    refine wpAny_bind (V.item i s _ _ lt st fun v s' hP st' mv => ?_)
    obtain ⟨tk, rfl⟩ := hv i v ltx hP
    have hS' := carry (i := i) mv hS
    show wpAny _ A.in1 (holding [Value.str xs[i] tk] (setAdd T (.str xs[i] tk)) >>= _) _ _ s'
    refine wpAny_bind (wpAny_holding ?_)
    unfold setAdd
    refine wpAny_holding (wpAny_bind ((PySem.strKind prog w).pyHash (k := xs[i]) (strKind_is _ _ _ _) ?_))
    have room : (met xs i).length + 1 < scanBound := by have := met_le xs i (by omega); omega
    refine wpAny_setAddHashed_of (knd := PySem.strKind prog w) (s := { s' with toks := s'.toks + 1 }) (strKind_is _ _ _ _) rfl hS' room fun h' sb hS2 => ?_
    have hS3 : h'.SetOf (PySem.strKind prog w) T (fun k => (met xs (i + 1)).any (· == k)) (met xs (i + 1)).length := SetOf_congr hS2 (fun k => (met_has ltx k).symm) (met_num ltx).symm
    refine wpAny_pure ⟨plainId_quiet F.plain_set_update_loop _, ih (i + 1) _ (by omega) lt (V.frame _ s' _ _ st' (Nat.le_succ _) fun b z o e => ?_) hS3 fun s2 mv2 hS4 => ?_⟩
    · rw [sb.2 b (fun q : b = T => nT (by rw [← q]; exact z))]; exact e
    · refine hR s2 (Moved.trans V.gtrans ((mv.mono up).then_heap (Nat.le_succ _) fun b o z e => ?_) mv2) hS4
      rw [sb.2 b (fun q : b = T => z (by rw [q]; exact List.mem_cons_self))]; exact e
end
section
variable {prog : Program} {w : World} {A : Around} {E : Value → Shared → Prop} {s : Shared}
abbrev newSet (led : Bool) : Obj := { cls := .type "set", dict := none, data := .set #[] 0 (.fresh 0 0 led) }
/-- set(t) -/
theorem set_of_tuple {l : Addr} {its : Array Value} {xs : List Str} {Q : Value → Shared → Prop} (hh : A.handled = none) (hl : s.heap.IsTuple l its) (hi : StrsAre its.toList xs) (hb : xs.length + 1 < scanBound)
    (h : ∀ (h' : Heap) (tk : Nat), h'.SetOf (PySem.strKind prog w) s.heap.objs.size (fun k => (met xs xs.length).any (· == k)) (met xs xs.length).length → (∀ b o, b < s.heap.objs.size → s.heap.get? b = some o → h'.get? b = some o) →
      Q (.ref s.heap.objs.size) { s with heap := h', toks := tk }) : wpAny (model prog w) A (call (.type "set") [.ref l]) Q E s := by
  obtain ⟨c, tl, mro⟩ := PySem.F.called_set.mro
  have made := PySem.F.called_set.made
  have sub := PySem.F.called_set.sub
  refine wpAny_call (codeAny_of_tree ?_)
  show wpAny _ _ (callAny (.type "set") _) _ _ _
  refine wpAny_pure ⟨Code.quiet_builtin _ (by decide +kernel), codeAny_builtin PySem.F.entry_type_call ?_⟩
  rw [Around.under_plain (weight_type_call_type "set" [.ref l] []) rfl]
  have nt := PySem.F.called_set.notType
  have cc := PySem.F.called_set.canCreate
  have tc := PySem.F.typeCall_set_1 (.ref l)
  repeat (any_goals (first | assumption | wp_step))
  refine codeAny_mono (code_set_new_1 (.ref l) (E := E) (Q₁ := fun u s1 => ∃ led, u = .ref s.heap.objs.size ∧ s1 = { s with heap := s.heap.push (newSet led) }) fun led => ⟨led, rfl, rfl⟩) fun r s1 hr => ?_
  cases r with
  | error e => exact hr
  | ok fl =>
    cases fl with
    | ret u =>
      obtain ⟨led, rfl, rfl⟩ := hr
      have atS : (s.heap.push (newSet led)).get? s.heap.objs.size = some (newSet led) := Heap.get?_push_size _ rfl
      have isS : Shared.TypeIs { s with heap := s.heap.push (newSet led) } (.ref s.heap.objs.size) "set" := ⟨_, atS, rfl⟩
      have il := PySem.F.called_set.init.lookup
      have ib := PySem.F.called_set.init.bind (.ref s.heap.objs.size)
      repeat (any_goals (first | assumption | wp_step))
      refine codeAny_mono (codeAny_call_builtin (R := wants (fun u s2 => u = .none ∧ ∃ h' tk, s2 = { s with heap := h', toks := tk } ∧ h'.SetOf (PySem.strKind prog w) s.heap.objs.size (fun k => (met xs xs.length).any (· == k)) (met xs xs.length).length ∧
        (∀ b o, b < s.heap.objs.size → s.heap.get? b = some o → h'.get? b = some o)) E) PySem.F.called_set.init.plain PySem.F.entry_set_init (check_set_init_1 isS ?_)) fun r2 s2 hr2 => ?_
      · obtain ⟨⟨oc, od, odt, osl⟩, ho, ec, nl, ed⟩ := hl
        simp only at ec ed
        subst ec; subst ed
        have ho' : (s.heap.push (newSet led)).get? l = some { cls := .type "tuple", dict := od, data := .seq its nl, slots := osl } := Heap.get?_push_of_some _ ho
        have s1 := PySem.F.sub_tuple_set
        have s2 := PySem.F.sub_tuple_frozenset
        have nd : (Value.type "tuple" == Value.type "dict") = false := by decide
        have hl1 : (s.heap.push (newSet led)).IsTuple l its := ⟨_, ho', rfl, nl, rfl⟩
        unfold Builtin.«set.__init__» noKeywords Builtin.Frozenset.updateFrom
        generalize gP : pyIter = PI
        wp_walk
        subst gP
        refine wpAny_pyIter_tuple hl1 (wpAny_bind (wpAny_runValue ?_))
        have ltl : l < s.heap.objs.size := Heap.lt_size ho
        have h3 : A.in1.in1.in1.handled = none := by simp [hh]
        have nI : l ≠ (s.heap.push (newSet led)).objs.size := by
          rw [Heap.size_push]
          exact Nat.ne_of_lt (Nat.lt_succ_of_lt ltl)
        have nF : s.heap.objs.size ∉ [(s.heap.push (newSet led)).objs.size, l] := by
          rw [Heap.size_push]
          simp only [List.mem_cons, List.not_mem_nil, or_false, not_or]
          exact ⟨Nat.ne_of_lt (Nat.lt_succ_self _), Nat.ne_of_gt ltl⟩
        have sz : xs.length = its.size := by rw [← StrsAre.len_eq hi, Array.length_toList]
        refine fill_texts ((Walks.tuple h3 _ l nI its).toS) s.heap.objs.size nF xs sz (by rw [← sz]; exact hb) (fun i v hix e => str_item hi i v hix (by rw [Array.getElem?_toList]; exact e)) (its.size - 0) 0 _ (by omega) (Nat.zero_le _)
          ⟨⟨_, Heap.get?_push_size _ rfl, rfl, rfl⟩, (hl1.push _)⟩ ?c1 ?c2
        case c1 =>
          exact SetOf_congr ((setObjOf_fresh (knd := PySem.strKind prog w) led).setOf (Heap.get?_push_of_some _ atS) (by unfold scanBound; omega)) (fun _ => rfl) rfl
        case c2 =>
          rw [← sz]
          rintro ⟨h', g', d', tk', os'⟩ mv hS'
          have eg : g' = s.gens := mv.gens
          have ed : d' = s.drawn := mv.drawn
          have eo : os' = s.os := mv.os
          subst eg; subst ed; subst eo
          show wpAny _ _ _ _ _ _
          refine wpAny_pure ?_
          show wpAny _ _ (ret Value.none) _ _ _
          refine wpAny_pure ⟨rfl, h', tk', rfl, hS', fun b o hlt e => ?_⟩
          refine mv.heap b o ?_ (Heap.get?_push_of_some _ (Heap.get?_push_of_some _ e))
          rw [Heap.size_push]
          simp only [List.mem_cons, List.not_mem_nil, or_false, not_or]
          exact ⟨Nat.ne_of_lt hlt, Nat.ne_of_lt (Nat.lt_succ_of_lt hlt)⟩
      · cases r2 with
        | error e => exact hr2
        | ok f2 =>
          cases f2 with
          | ret u2 =>
            obtain ⟨rfl, h', tk, rfl, hS', hk⟩ := hr2
            repeat (any_goals (first | assumption | wp_step))
            exact h _ _ hS' hk
          | _ => exact hr2.elim
    | _ => exact hr.elim
end
section
variable {X : Cx}
/-- len(set(t)) -/
def tLenSet2 (K : PySem.W.Frag) (ta : TE) : TE := fun σ H Q => ta σ H fun x H1 => ∃ l, ∃ xs : List Str, x = .ref l ∧ SqT K H1 l (xs.map V.str) ∧ xs.length ≤ 4000 ∧ Q (.int ((met xs xs.length).length : Nat)) H1
theorem p_lenSet {a : Expr} {ta : TE} {p p2 q pos : Pos} (hc : X.calm = true) (hg : Gl X "len") (hm : X.mg "len" = none) (hg2 : Gl X "set") (hm2 : X.mg "set" = none) (ha : PE X a ta)
    (na : starEach [a] X.env = (false, eval a X.env) :: starEach [] X.env := by rfl) : PE X (.Call (.Name "len" p) [.Call (.Name "set" p2) [a] [] q] [] pos) (tLenSet2 X.K ta) := by
  refine ⟨fun pins s σ H Q I h => Call_ (ld_blt I hg hm boot_len (callWith_builtin1 (args_cons ?_ rfl) rfl rfl))⟩
  refine Call_ (ld_blt I hg2 hm2 boot_set (callWith_type1 (args_cons (thn (ha.run pins s σ H _ I h) fun v s1 ⟨x, H1, I1, r1, q1⟩ => args_nil ?_) na) na rfl))
  obtain ⟨l, xs, rfl, hq, hz, q1⟩ := q1
  cases r1
  obtain ⟨its, r, pl, _⟩ := I1.tuple hq
  refine set_of_tuple (I1.ok.hd hc) pl (by simpa using strsAre_of r) (by unfold scanBound; omega) fun h' tk hS hk => args_nil ?_
  obtain ⟨o, es, ep, t, ho, hex, hd, _, _, _, hf, hn⟩ := hS
  have I2 : Inv X pins σ H1 { s1 with heap := h', toks := tk } := I1.kept fun b o e => hk b o (Heap.lt_size e) e
  have le := met_le xs xs.length (Nat.le_refl _)
  exact call_len_set ho hex hd hf (by rw [hn]; omega) ⟨.int ((met xs xs.length).length : Nat), H1, I2.tok _, ⟨_, by rw [hn]⟩, q1⟩
/-- C(..) where a name of the def holds the class -/
def tClsL (i : Nat) (C : Addr) (sp : Sp) (E : XK) (t : TA) : TE := fun σ H Q => σ[i]? = some (some (.ref C)) ∧ tMake C sp [] E t σ H Q
theorem p_cls {k j i : Nat} {C : Addr} {y x : Str} {sp : Sp} {e : Expr} {es : List Expr} {t : TA} {p pos : Pos} (E : XK) (c : Mak X.prog X.w X.K X.mg X.base k y C sp) (hr : Room j X.A) (hk : k + 1 ≤ j) (hx : Passes (L2.CX X.prog X.w) X E) (ha : PA X (e :: es) t)
    (hN : X.N[i]? = some x := by rfl) (hv : Vis X.env.scope x := by first | exact Or.inl rfl | exact Or.inr (Or.inl rfl) | exact Or.inr (Or.inr rfl)) (hdb : (x == ("__debug__" : Str)) = false := by decide) (hcd : (x == ("__classdict__" : Str)) = false := by decide)
    (he : starEach (e :: es) X.env = (false, eval e X.env) :: starEach es X.env := by rfl) (hpl : (backTo pos (starEach es X.env)).any (·.1) = false := by rfl) : PE X (.Call (.Name x p) (e :: es) [] pos) (tClsL i C sp E t) := by
  obtain ⟨f, fd, ps, M, F, hm, b⟩ := c.ex
  refine ⟨fun pins s σ H Q I ⟨hs, ht⟩ => ?_⟩
  refine wpAny_Call_Name_kw (thn ((pe_var (pos := p) hN hv hdb hcd).run pins s σ H (fun v H1 => v = .ref C ∧ H1 = H) I ⟨.ref C, hs, rfl, rfl⟩) fun u s1 ⟨v, H1, I1, r1, q1⟩ => ?_)
  obtain ⟨rfl, rfl⟩ := q1
  cases r1
  exact PySem.W.callWith_K (h₀ := X.base) I.ok.mod.kin M.kp (thn (ha.run pos pins s1 σ _ _ I1 ht) fun us s2 ⟨vs, H2, I2, r, q⟩ => ⟨I2.kIn, run_make M F (hr.mono hk) b .nil hx I2 r q⟩) he hpl
end
end Cn
set_option Elab.async false
set_option linter.all false
set_option maxRecDepth 100000
set_option maxHeartbeats 2000000
/-! Cn.B3: the model's texts and the plain lists of signs; what stands for a table. -/
namespace Cn
open PySem L2

theorem isPre_take : ∀ (a b : T), isPre a b = (b.take a.length == a)
  | [], b => by simp [isPre]
  | _ :: _, [] => by simp [isPre]
  | x :: a, y :: b => by
    have ih := isPre_take a b
    show (x == y && isPre a b) = (y :: b.take a.length == x :: a)
    rw [ih]
    by_cases e : x = y
    · subst e; simp
    · have e1 : (x == y) = false := beq_eq_false_iff_ne.mpr e
      have e2 : (y :: b.take a.length == x :: a) = false := beq_eq_false_iff_ne.mpr fun z => e (List.cons.inj z).1.symm
      rw [e1, e2]; rfl
theorem starts_S (a b : T) : Txt.startswith (S a) (S b) = isPre b a := by
  unfold Txt.startswith
  rw [PySem.StrLaws.subAt_eq, isPre_take, S_len, S_len]
  show (decide (0 + b.length ≤ a.length) && ((a.drop 0).take b.length == b)) = (a.take b.length == b)
  rw [List.drop_zero]
  by_cases h : b.length ≤ a.length
  · rw [decide_eq_true (by omega), Bool.true_and]
  · have e : (a.take b.length == b) = false := beq_eq_false_iff_ne.mpr fun z => h (by rw [← z, List.length_take]; omega)
    rw [e, Bool.and_false]
theorem spl_one (c : Nat) : ∀ (l acc : T), TL.spl [c] 0 acc l = match splitC c l with
    | [] => [acc]
    | h :: t => (acc ++ h) :: t
  | [], acc => by rw [TL.spl_nil]; simp [splitC]
  | x :: r, acc => by
    have ih := spl_one c r
    by_cases e : x = c
    · subst e
      have h : TL.pre [x] (x :: r) = true := by simp [TL.pre]
      rw [TL.spl_hit h]
      show acc :: TL.spl [x] 0 [] r = _
      rw [ih]
      simp only [splitC, beq_self_eq_true, if_true]
      cases q : splitC x r with
      | nil => exact absurd q (splitC_ne x r)
      | cons h t => simp
    · have h : TL.pre [c] (x :: r) = false := TL.pre_of_head _ _ e
      rw [TL.spl_miss h, ih]
      have e1 : (x == c) = false := beq_eq_false_iff_ne.mpr e
      simp only [splitC, e1, Bool.false_eq_true, if_false]
      cases q : splitC c r with
      | nil => exact absurd q (splitC_ne c r)
      | cons h t => simp
theorem split_S (c : Nat) (hc : c < 256) (l : T) : Txt.split (S l) (S [c]) = (splitC c l).map S := by
  refine TL.map_tl_inj ?_
  rw [TL.split_spl _ _ (by simp [tl_S]) (TL.kind_ok (by simp [S, hc])), tl_S, tl_S, spl_one, List.map_map]
  have e : (TL.tl ∘ S) = id := by funext x; exact tl_S x
  rw [e, List.map_id]
  cases q : splitC c l with
  | nil => exact absurd q (splitC_ne c l)
  | cons h t => simp
theorem joinT_L (sep : T) : ∀ ps : List T, TL.joinL sep ps = joinT sep ps
  | [] => rfl
  | [_] => rfl
  | p :: q :: r => by
    show p ++ (sep ++ TL.joinL sep (q :: r)) = p ++ (sep ++ joinT sep (q :: r))
    rw [joinT_L sep (q :: r)]
theorem join_S (sep : T) (ps : List T) : Txt.join (S sep) (ps.map S) = S (joinT sep ps) := by
  refine TL.ext_tl ?_
  rw [TL.join_eq, TL.tl_join, tl_S, tl_S, ← joinT_L, List.map_map]
  have e : (TL.tl ∘ S) = id := by funext x; exact tl_S x
  rw [e, List.map_id]
theorem cutS_drop (l : T) (k : Nat) : cutS (S l) (some (k : Int)) none = S (l.drop k) := by
  refine TL.ext_tl ?_
  show ((l.drop (HT.sIx (S l).length 0 (some (k : Int)))).take (HT.sIx (S l).length (S l).length none - HT.sIx (S l).length 0 (some (k : Int)))) = l.drop k
  rw [HT.sIx_nat, HT.sIx_none, S_len]
  by_cases h : k ≤ l.length
  · rw [Nat.min_eq_left h, List.take_of_length_le (by rw [List.length_drop]; omega)]
  · rw [Nat.min_eq_right (by omega), List.drop_of_length_le (Nat.le_refl _), List.drop_of_length_le (by omega)]; simp
/-- words[:-2] -/
theorem cutV_m2 (xs : List V) : cutV xs none (some (-2)) = xs.take (xs.length - 2) := by
  unfold cutV
  have e1 : HT.sIx xs.length 0 none = 0 := rfl
  have e2 : HT.sIx xs.length xs.length (some (-2)) = xs.length - 2 := by
    show (if (-2 : Int) < 0 then ((-2 : Int) + (xs.length : Int)).toNat else min (-2 : Int).toNat xs.length) = xs.length - 2
    rw [if_pos (by decide)]; omega
  rw [e1, e2, List.drop_zero, Nat.sub_zero]
theorem svs_take (ls : List T) (k : Nat) : (svs ls).take k = svs (ls.take k) := by simp [svs, List.map_take]
theorem splitC_len (c : Nat) : ∀ l : T, (splitC c l).length ≤ l.length + 1
  | [] => by simp [splitC]
  | x :: r => by
    have ih := splitC_len c r
    unfold splitC
    split
    · simp; omega
    · split
      · simp
      · rename_i h t e; rw [e] at ih; simp at ih ⊢; omega
theorem splitC_mem (c : Nat) : ∀ (l p : T), p ∈ splitC c l → p.length ≤ l.length
  | [], p, h => by simp [splitC] at h; rw [h]; simp
  | x :: r, p, h => by
    have ih := splitC_mem c r
    unfold splitC at h
    split at h
    · rcases List.mem_cons.mp h with z | z
      · rw [z]; simp
      · have := ih p z; simp; omega
    · split at h
      · rw [List.mem_singleton.mp h]; simp
      · rename_i g t e
        rw [e] at ih
        rcases List.mem_cons.mp h with z | z
        · have := ih g List.mem_cons_self; rw [z]; simp; omega
        · have := ih p (List.mem_cons_of_mem _ z); simp; omega
theorem eqV_sv (a b : T) : eqV (sv a) (sv b) = (a == b) := by
  show (S a == S b) = (a == b)
  by_cases e : a = b
  · subst e; simp
  · have h1 : (S a == S b) = false := beq_eq_false_iff_ne.mpr fun z => e (S_inj z)
    have h2 : (a == b) = false := beq_eq_false_iff_ne.mpr e
    rw [h1, h2]
theorem inV_svs (a : T) (ls : List T) : inV (sv a) (svs ls) = ls.contains a := by
  unfold inV svs
  rw [List.any_map]
  induction ls with
  | nil => rfl
  | cons b r ih =>
    rw [List.any_cons, List.contains_cons, ih]
    show (eqV (sv b) (sv a) || _) = _
    rw [eqV_sv]
    congr 1
    by_cases e : a = b
    · subst e; rfl
    · rw [beq_eq_false_iff_ne.mpr e, beq_eq_false_iff_ne.mpr fun z => e z.symm]
theorem flat_svs (ls : List T) : (svs ls).all flatV = true := by
  rw [List.all_eq_true]
  intro x hx
  obtain ⟨l, _, rfl⟩ := List.mem_map.mp hx
  rfl

/-! ### rows of things -/
def Each {α : Type} (R : V → α → Prop) (vs : List V) (xs : List α) : Prop := vs.length = xs.length ∧ ∀ (i : Nat) v x, vs[i]? = some v → xs[i]? = some x → R v x
section
variable {α : Type} {R R' : V → α → Prop} {vs : List V} {xs : List α}
theorem Each.nil : Each R [] [] := ⟨rfl, fun i v x h => by simp at h⟩
theorem Each.mono (e : Each R vs xs) (h : ∀ v x, R v x → R' v x) : Each R' vs xs := ⟨e.1, fun i v x a b => h v x (e.2 i v x a b)⟩
theorem Each.snoc {v : V} {x : α} (e : Each R vs xs) (h : R v x) : Each R (vs ++ [v]) (xs ++ [x]) := by
  refine ⟨by rw [List.length_append, List.length_append, e.1]; rfl, fun i v' x' a b => ?_⟩
  by_cases hi : i < vs.length
  · rw [List.getElem?_append_left hi] at a
    rw [List.getElem?_append_left (by rw [← e.1]; exact hi)] at b
    exact e.2 i v' x' a b
  · have h1 : i = vs.length := by
      have := (List.getElem?_eq_some_iff.mp a).1
      rw [List.length_append] at this; simp at this; omega
    subst h1
    rw [List.getElem?_append_right (Nat.le_refl _)] at a
    rw [e.1, List.getElem?_append_right (Nat.le_refl _)] at b
    simp at a b
    subst a; subst b
    exact h
theorem Each.at {i : Nat} {v : V} (e : Each R vs xs) (h : vs[i]? = some v) : ∃ x, xs[i]? = some x ∧ R v x := by
  have hi := (List.getElem?_eq_some_iff.mp h).1
  have hx : xs[i]? = some (xs[i]'(by rw [← e.1]; exact hi)) := List.getElem?_eq_getElem _
  exact ⟨_, hx, e.2 i v _ h hx⟩
theorem Each.atx {i : Nat} {x : α} (e : Each R vs xs) (h : xs[i]? = some x) : ∃ v, vs[i]? = some v ∧ R v x := by
  have hi := (List.getElem?_eq_some_iff.mp h).1
  have hx : vs[i]? = some (vs[i]'(by rw [e.1]; exact hi)) := List.getElem?_eq_getElem _
  exact ⟨_, hx, e.2 i _ x hx h⟩
end

/-! ### what stays -/
/-- things that are never changed: tuples, instances of other classes than CR -/
def imm (CR : Addr) : HO → Prop
  | .tup _ => True
  | .ins C _ _ => C ≠ CR
  | _ => False
def Fix (CR : Addr) (H H' : Hp) : Prop := ∀ a o, H a = some o → imm CR o → H' a = some o
theorem Fix.trans {CR : Addr} {H H1 H2 : Hp} (a : Fix CR H H1) (b : Fix CR H1 H2) : Fix CR H H2 := fun x o h i => b x o (a x o h i) i
theorem But.fix {CR : Addr} {l : List Addr} {H H' : Hp} (b : But l H H') (h : ∀ a ∈ l, ∀ o, H a = some o → ¬ imm CR o) : Fix CR H H' := fun a o e i =>
  b a o (fun z => h a z o e i) e
theorem But.fix0 {CR : Addr} {H H' : Hp} (b : But [] H H') : Fix CR H H' := b.fix fun a z => by cases z
theorem Fix.new {CR : Addr} {H H' : Hp} {p : Addr} {o : HO} (f : Fix CR H H') (h : H' p = none) : Fix CR H (upd H' p o) := fun a u e i => by
  rw [upd_ne (ne_of_none (f a u e i) h)]; exact f a u e i
theorem Fix.refl {CR : Addr} {H : Hp} : Fix CR H H := fun _ _ h _ => h

def KeyR (H : Hp) (v : V) (k : List T) : Prop := ∃ a, v = .ref a ∧ H a = some (.tup (svs k))
def RefR (H : Hp) (v : V) (r : List T × T × Bool) : Prop := ∃ a c, v = .ref a ∧ H a = some (.tup [.ref c, sv r.2.1, .bl r.2.2]) ∧ H c = some (.tup (svs r.1))
def tf (n : T) (ca ua ra : Addr) : List (Str × V) := [("name", sv n), ("columns", .ref ca), ("unique", .ref ua), ("refers", .ref ra)]
def TblR (CT : Addr) (H : Hp) (v : V) (t : Tbl) : Prop := ∃ a dx ca ua ra ks rs, v = .ref a ∧ H a = some (.ins CT dx (tf t.name ca ua ra)) ∧ H ca = some (.tup (svs t.cols)) ∧
  H ua = some (.tup ks) ∧ Each (KeyR H) ks t.keys ∧ H ra = some (.tup rs) ∧ Each (RefR H) rs t.refs
section
variable {CR CT : Addr} {H H' : Hp}
theorem KeyR.fix (f : Fix CR H H') {v : V} {k : List T} (h : KeyR H v k) : KeyR H' v k := let ⟨a, e, z⟩ := h; ⟨a, e, f a _ z trivial⟩
theorem RefR.fix (f : Fix CR H H') {v : V} {r : List T × T × Bool} (h : RefR H v r) : RefR H' v r := let ⟨a, c, e, z, y⟩ := h; ⟨a, c, e, f a _ z trivial, f c _ y trivial⟩
theorem TblR.fix (n : CT ≠ CR) (f : Fix CR H H') {v : V} {t : Tbl} (h : TblR CT H v t) : TblR CT H' v t := by
  obtain ⟨a, dx, ca, ua, ra, ks, rs, e, h1, h2, h3, h4, h5, h6⟩ := h
  exact ⟨a, dx, ca, ua, ra, ks, rs, e, f a _ h1 n, f ca _ h2 trivial, f ua _ h3 trivial, h4.mono fun _ _ q => q.fix f, f ra _ h5 trivial, h6.mono fun _ _ q => q.fix f⟩
end

/-! ### the rows that are read -/
def rf (l : Addr) (n : Nat) : List (Str × V) := [("_rows", .ref l), ("_at", .int n)]
structure RowsAt (CR : Addr) (H : Hp) (p d r : Addr) (L : List T) (n : Nat) : Prop where
  at_ : H p = some (.ins CR d (rf r n))
  rows : H r = some (.lst (svs L))
  size : L.length ≤ 1000000 ∧ ∀ r ∈ L, r.length ≤ 1000000
section
variable {CR : Addr} {H H' : Hp} {p d r : Addr} {L : List T} {n : Nat}
theorem RowsAt.keep {m : List Addr} (R : RowsAt CR H p d r L n) (b : But m H H') (hp : p ∉ m) (hr : r ∉ m) : RowsAt CR H' p d r L n := ⟨b p _ hp R.at_, b r _ hr R.rows, R.size⟩
theorem RowsAt.keep0 (R : RowsAt CR H p d r L n) (b : But [] H H') : RowsAt CR H' p d r L n := R.keep b (by simp) (by simp)
theorem RowsAt.put (R : RowsAt CR H p d r L n) {l : Addr} {o : HO} (hp : p ≠ l) (hr : r ≠ l) : RowsAt CR (upd H l o) p d r L n := ⟨by rw [upd_ne hp]; exact R.at_, by rw [upd_ne hr]; exact R.rows, R.size⟩
theorem RowsAt.ne (R : RowsAt CR H p d r L n) : r ≠ p := ne_of R.rows R.at_ (by intro z; cases z)
theorem RowsAt.fix (R : RowsAt CR H p d r L n) (b : But [p] H H') : Fix CR H H' := b.fix fun a z o e i => by
  rw [List.mem_singleton.mp z, R.at_] at e
  cases e
  exact i rfl
end
/-- how the error of a wrong row is wished for -/
def ErrE (CI : Addr) (p : Addr) (H : Hp) (E : XK) (e : Nat) : Prop := ∀ H' d, But [p] H H' → H' d = some (.xd [("row", .int e)]) → E (.ref CI) (some d) H'
theorem ErrE.later {CI p : Addr} {H H1 : Hp} {E : XK} {e : Nat} (h : ErrE CI p H E e) (b : But [p] H H1) : ErrE CI p H1 E e := fun H' d b' hx => h H' d (b.trans b') hx
end Cn
set_option Elab.async false
set_option linter.all false
set_option maxRecDepth 100000
set_option maxHeartbeats 2000000
/-! Cn.B4: the layer's rules with the written part K told (within a comprehension's block the context's own is not to be written out). -/
namespace Cn
open PySem L2
section
variable {X : Cx} (K : PySem.W.Frag) (h : X.K = K)
include h
theorem op_in_seqK : OpR X (compareOp .In) (rIn K false) := by subst h; exact op_in_seq
theorem op_notIn_seqK : OpR X (compareOp .NotIn) (rIn K true) := by subst h; exact op_notIn_seq
theorem ix_listK : IxR X (rIxL K) := by subst h; exact ix_list
theorem ix_tupK : IxR X (rIxT K) := by subst h; exact ix_tup
theorem ix_seqK : IxR X (rIx K) := by subst h; exact ix_seq
theorem sl_listK : SlR X (rSlL K) := by subst h; exact sl_list
theorem sl_tupK : SlR X (rSlT K) := by subst h; exact sl_tup
theorem call_len_seqK : CallR X (.builtin "len") (fun xs H Q => ∃ p ys, xs = [.ref p] ∧ (SqL K H p ys ∨ SqT K H p ys) ∧ Q (.int ys.length) H) := by subst h; exact call_len_seq
theorem call_list_ofK : CallR X (.type "list") (fun xs H Q => ∃ p ys, xs = [.ref p] ∧ (SqL K H p ys ∨ SqT K H p ys) ∧ ∀ l, H l = none → Q (.ref l) (upd H l (.lst ys))) := by subst h; exact call_list_of
theorem call_tuple_ofK : CallR X (.type "tuple") (fun xs H Q => ∃ p ys, xs = [.ref p] ∧ ((SqL K H p ys ∧ ∀ l, H l = none → Q (.ref l) (upd H l (.tup ys))) ∨ (SqT K H p ys ∧ Q (.ref p) H))) := by subst h; exact call_tuple_of
theorem cr_allK (hc : X.calm = true) : CallR X (.builtin "all") (rAll K) := by subst h; exact cr_all hc
theorem cr_anyK (hc : X.calm = true) : CallR X (.builtin "any") (rAny K) := by subst h; exact cr_any hc
theorem op_eqDK (hu : X.A.units + 64 < cLine) : OpR X (compareOp .Eq) (rEqD K) := by subst h; exact op_eqD hu
theorem op_neDK (hu : X.A.units + 64 < cLine) : OpR X (compareOp .NotEq) (rNeD K) := by subst h; exact op_neD hu
theorem call_isiK' : CallR X (.builtin "isinstance") (rIsi K) := by subst h; exact call_isi
theorem call_isiTK : CallR X (.builtin "isinstance") (rIsiT K) := by subst h; exact call_isiT
section
variable {e o : Expr} {f : Str} {pos : Pos} {te to ta tv : TE}
theorem pe_fldK (he : PE X e te) (hb : attributeBase e f X.env (eval e X.env) = eval e X.env) : PE X (.Attribute e f pos) (tFld K te f) := by subst h; exact pe_fld he hb
theorem pi_listK {tg : Expr} (he : PE X e te) : PI X tg e (iList K te) := by subst h; exact pi_list he
theorem pi_tupK {tg : Expr} (he : PE X e te) : PI X tg e (iTup K te) := by subst h; exact pi_tup he
theorem pg_tupK {es : List Expr} {k : Nat} {t : TGs} {n : Nat} (hc : X.calm = true) (g : PGs X es t) (hn : es.length = n := by rfl) (r : PG X (.Tuple es k pos) (gTup X.K n t)) : PG X (.Tuple es k pos) (gTup K n t) := by subst h; exact r
theorem pt_truthK (ha : PE X e te) (he : ∀ whole, isTrue e X.env whole = (do let v ← whole; standAt e.pos; holding [v] (truthy v))) : PT X e (tTru K te) := by subst h; exact pt_truth ha he
theorem p_lenSetK {a : Expr} {p p2 q pos : Pos} (hc : X.calm = true) (hg : Gl X "len") (hm : X.mg "len" = none) (hg2 : Gl X "set") (hm2 : X.mg "set" = none) (ha : PE X a ta)
    (na : starEach [a] X.env = (false, eval a X.env) :: starEach [] X.env := by rfl) : PE X (.Call (.Name "len" p) [.Call (.Name "set" p2) [a] [] q] [] pos) (tLenSet2 K ta) := by subst h; exact p_lenSet hc hg hm hg2 hm2 ha na
theorem ps_fldK {value : Expr} {pos' : Pos} (ha : PE X o ta) (hv : PE X value tv) (hs : swapsWith value (some (.Attribute o f pos')) pos.line X.env = pure false) : PS X (.Assign [.Attribute o f pos'] value pos) (sFld K ta tv f) := by subst h; exact ps_fld ha hv hs
theorem ps_fldaugK {value : Expr} {tpos : Pos} {op : Operator} {rd : V → V → Hp → VK → Prop} (ha : PE X o ta) (hv : PE X value tv) (hop : InOp X op rd) : PS X (.AugAssign (.Attribute o f tpos) op value pos) (sFldAug K ta tv rd f) := by subst h; exact ps_fldaug ha hv hop
theorem pe_joinK {apos : Pos} (ho : PE X o to) (he : PE X e te) (hs : starEach [e] X.env = [(false, eval e X.env)] := by rfl) (hbase : attributeBase o "join" X.env (eval o X.env) = eval o X.env := by rfl) (hline : (apos.endLine == pos.line) = true := by rfl) :
    PE X (.Call (.Attribute o "join" apos) [e] [] pos) (tM1 (fun x xs H Q => ∃ a p, ∃ ys : List Str, x = .str a ∧ xs = [.ref p] ∧ (SqL K H p (ys.map V.str) ∨ SqT K H p (ys.map V.str)) ∧
      (ys.map (·.length)).sum + ys.length * a.length ≤ 16777216 ∧ Q (.str (Txt.join a ys)) H) to te) := by subst h; exact pe_join ho he hs hbase hline
theorem pe_appendK {es : List Expr} {t : TA} {apos : Pos} (ho : PE X o to) (ha : PA X (e :: es) t) (r : PE X (.Call (.Attribute o "append" apos) (e :: es) [] pos) (tBM X.K "list" rAppend to t)) : PE X (.Call (.Attribute o "append" apos) (e :: es) [] pos) (tBM K "list" rAppend to t) := by subst h; exact r
end
end
end Cn
set_option Elab.async false
set_option linter.all false
set_option maxRecDepth 100000
set_option maxHeartbeats 2000000
/-! Cn.B5: comprehensions and loops in short; what is kept. -/
namespace Cn
open PySem L2
theorem sqt_keep {K : PySem.W.Frag} {H H' : Hp} {a : Addr} {xs : List V} (b : But [] H H') (h : SqT K H a xs) : SqT K H' a xs := by
  rcases h with (h | ⟨o, h⟩) | h
  · exact .inl (.inl (b _ _ (by simp) h))
  · exact .inl (.inr ⟨o, b _ _ (by simp) h⟩)
  · exact .inr h
theorem sql_keep {K : PySem.W.Frag} {H H' : Hp} {a : Addr} {xs : List V} (b : But [] H H') (h : SqL K H a xs) : SqL K H' a xs := by
  rcases h with (h | ⟨o, h⟩) | h
  · exact .inl (.inl (b _ _ (by simp) h))
  · exact .inl (.inr ⟨o, b _ _ (by simp) h⟩)
  · exact .inr h
theorem sq_keep {K : PySem.W.Frag} {H H' : Hp} {a : Addr} {xs : List V} (b : But [] H H') (h : SqL K H a xs ∨ SqT K H a xs) : SqL K H' a xs ∨ SqT K H' a xs := h.elim (fun h => .inl (sql_keep b h)) fun h => .inr (sqt_keep b h)
theorem newB {H : Hp} {p : Addr} {o : HO} (h : H p = none) : But [] H (upd H p o) := But.refl.new h
theorem szl {n : Nat} (h : n ≤ 16777216) : n ≤ sizeLine := by rw [sizeLine_eq]; exact h
theorem szt {n : Nat} (h : n < 16777216) : n < sizeLine := by rw [sizeLine_eq]; exact h

section
variable {J : It} {n : Nat} {G : Hp → Prop} {Y : Nat → Hp → V → Hp → Prop}
/-- a comprehension over the values xs whose parts change nothing: the list of F x -/
theorem lc_pure (xs : List V) (F : V → Option V) (w : Walk J n G Y) (hn : n = xs.length) (hY : ∀ i H x H', Y i H x H' → H' = H ∧ xs[i]? = some x) {g : TG} {tt : TT} {te : TE} {vs : List Nat} {σ : St} {H1 : Hp} {D : Addr} {Qd : Hp → Prop}
    (hG : ∀ acc, G (upd H1 D (.lst acc)))
    (hs : ∀ i x acc (N : Hp → Prop), xs[i]? = some x → acc.length ≤ i → (∀ y, F x = some y → N (upd H1 D (.lst (acc ++ [y])))) → (F x = none → N (upd H1 D (.lst acc))) →
      g x (wipe σ vs) (upd H1 D (.lst acc)) fun σ2 H2 => wipe σ2 vs = wipe σ vs ∧ tt σ2 H2 fun b H3 =>
        if b = true then te σ2 H3 fun y H4 => ∃ acc, H4 D = some (.lst acc) ∧ acc.length < sizeLine ∧ N (upd H4 D (.lst (acc ++ [y]))) else N H3)
    (hd : Qd (upd H1 D (.lst (xs.filterMap F)))) :
    ∃ W : Nat → Nat → Hp → Prop, (∃ m, W 0 m (upd H1 D (.lst []))) ∧ ∀ i m H, W i m H →
      (J.stop i H ∧ Qd H) ∨ (J.go i H ∧ ∃ Nx : Hp → Prop, (∀ H', Nx H' → ∃ m', m' < m ∧ W (i + 1) m' H') ∧ ∀ x H', J.yld i H x H' → g x (wipe σ vs) H' fun σ2 H2 => wipe σ2 vs = wipe σ vs ∧ tt σ2 H2 fun b H3 =>
        if b = true then te σ2 H3 fun y H4 => ∃ acc, H4 D = some (.lst acc) ∧ acc.length < sizeLine ∧ Nx (upd H4 D (.lst (acc ++ [y]))) else Nx H3) := by
  refine lc_it w (fun i H' => i ≤ n ∧ H' = upd H1 D (.lst ((xs.take i).filterMap F))) ⟨Nat.zero_le _, by simp⟩ (fun i H' _ e => by rw [e.2]; exact hG _) (fun i x H2 H3 hi e y => ?_) (fun H' e => by rw [e.2, hn, List.take_length]; exact hd)
  obtain ⟨rfl, hx⟩ := hY i _ x _ y
  rw [e.2]
  have st : xs.take (i + 1) = xs.take i ++ [x] := by rw [List.take_add_one, hx]; rfl
  refine hs i x _ (fun H' => i + 1 ≤ n ∧ H' = upd H1 D (.lst ((xs.take (i + 1)).filterMap F))) hx (Nat.le_trans (List.length_filterMap_le ..) (by rw [List.length_take]; omega)) (fun y hy => ⟨hi, ?_⟩) (fun hy => ⟨hi, ?_⟩)
  · rw [st, List.filterMap_append]; simp [hy]
  · rw [st, List.filterMap_append]; simp [hy]
/-- the end of a turn that keeps y -/
theorem lc_put {H1 : Hp} {D : Addr} {acc : List V} {y : V} {N : Hp → Prop} (hz : acc.length < sizeLine) (h : N (upd H1 D (.lst (acc ++ [y])))) :
    ∃ acc', (upd H1 D (.lst acc)) D = some (.lst acc') ∧ acc'.length < sizeLine ∧ N (upd (upd H1 D (.lst acc)) D (.lst (acc' ++ [y]))) :=
  ⟨acc, upd_same, hz, by rw [upd_upd]; exact h⟩
end
section
variable {K : PySem.W.Frag} {a : Addr} {xs : List V}
theorem yat {xs : List V} : ∀ (i : Nat) (H : Hp) (x : V) (H' : Hp), YAt xs i H x H' → H' = H ∧ xs[i]? = some x := fun _ _ _ _ h => h
theorem chars_at {l : T} {i : Nat} {c : Nat} (h : (S l).cps[i]? = some c) : l[i]? = some c := by
  have e : (S l).cps = l.toArray := rfl
  rw [e, List.getElem?_toArray] at h
  exact h
/-- the signs of a text, as values -/
def chs (l : T) : List V := l.map fun c => V.str ⟨#[c]⟩
theorem walk_S {l : T} : Walk (Its (S l)) (chs l).length (fun _ => True) (YAt (chs l)) := by
  have e : (S l).cps.size = (chs l).length := by simp [S, chs]
  rw [← e]
  refine walk_str.mono (fun _ _ => trivial) fun i H x H' _ _ y => ?_
  obtain ⟨h1, c, h2, h3⟩ := y
  refine ⟨h1, ?_⟩
  unfold chs
  rw [List.getElem?_map, chars_at h2, h3]; rfl
end
theorem met_prefix {xs : List Str} : ∀ i, i ≤ xs.length → (xs.take i).Nodup → met xs i = xs.take i
  | 0, _, _ => by simp [met]
  | i + 1, h, nd => by
    have e : xs.take (i + 1) = xs.take i ++ [xs[i]] := by rw [List.take_add_one, List.getElem?_eq_getElem (by omega)]; rfl
    rw [e] at nd ⊢
    have ih := met_prefix i (by omega) (List.nodup_append.mp nd).1
    rw [met_step (by omega), ih]
    have no : ¬ ((xs.take i).any (· == xs[i])) = true := fun z => by
      obtain ⟨y, hy, ey⟩ := List.any_eq_true.mp z
      exact (List.nodup_append.mp nd).2.2 y hy xs[i] (List.mem_singleton.mpr rfl) (eq_of_beq ey)
    rw [if_neg no]
theorem met_full {xs : List Str} : ∀ i, i ≤ xs.length → (met xs i).length = i → (xs.take i).Nodup
  | 0, _, _ => by simp
  | i + 1, h, hl => by
    have e : xs.take (i + 1) = xs.take i ++ [xs[i]] := by rw [List.take_add_one, List.getElem?_eq_getElem (by omega)]; rfl
    have le := met_le xs i (by omega)
    rw [met_step (show i < xs.length by omega)] at hl
    split at hl
    · omega
    · rename_i no
      rw [List.length_append, List.length_singleton] at hl
      have nd := met_full (xs := xs) i (by omega) (by omega)
      have ep := met_prefix i (by omega) nd
      rw [ep] at no
      rw [e]
      refine List.nodup_append.mpr ⟨nd, by simp, fun a ha b hb q => no ?_⟩
      rw [List.mem_singleton.mp hb] at q
      exact List.any_eq_true.mpr ⟨a, ha, by rw [q]; exact beq_self_eq_true _⟩
theorem met_all (xs : List Str) : (met xs xs.length).length = xs.length ↔ xs.Nodup := by
  constructor
  · intro h
    have := met_full xs.length (Nat.le_refl _) h
    rwa [List.take_length] at this
  · intro h
    rw [met_prefix xs.length (Nat.le_refl _) (by rwa [List.take_length]), List.take_length]
theorem nodup_S : ∀ ws : List (List Nat), (ws.map S).Nodup ↔ ws.Nodup
  | [] => by simp
  | a :: r => by
    rw [List.map_cons, List.nodup_cons, List.nodup_cons, nodup_S r]
    have e : S a ∈ r.map S ↔ a ∈ r := ⟨fun z => by
      obtain ⟨b, hb, eb⟩ := List.mem_map.mp z
      rw [← S_inj eb]; exact hb, fun z => List.mem_map.mpr ⟨a, z, rfl⟩⟩
    rw [e]
theorem met_nodup (ws : List (List Nat)) : decide (V.int (((met (ws.map S) (ws.map S).length).length : Nat) : Int) = V.int (((ws.length : Nat)) : Int)) = decide ws.Nodup := by
  have h := met_all (ws.map S)
  rw [nodup_S] at h
  have hl : (ws.map S).length = ws.length := List.length_map ..
  by_cases q : ws.Nodup
  · rw [decide_eq_true q, h.mpr q, hl, decide_eq_true rfl]
  · rw [decide_eq_false q]
    refine decide_eq_false fun z => ?_
    injection z with z
    exact q (h.mp (by omega))
theorem le_sign (c d : Nat) : (!decide ((S [c]).cps.toList < (S [d]).cps.toList)) = decide (d ≤ c) := by
  show (!decide ([c] < [d])) = decide (d ≤ c)
  have e : ([c] < [d]) ↔ c < d := by simp [List.cons_lt_cons_iff]
  by_cases h : d ≤ c
  · rw [decide_eq_true h, decide_eq_false (fun z => by have := e.mp z; omega)]; rfl
  · rw [decide_eq_false h, decide_eq_true (e.mpr (by omega))]; rfl
theorem filterMap_some {α β : Type} (f : α → β) : ∀ l : List α, l.filterMap (fun x => some (f x)) = l.map f := fun l => by
  induction l with
  | nil => rfl
  | cons a r ih => rw [List.map_cons, ← ih]; rfl
theorem in_all (cols others : List T) : (svs others).filterMap (fun v => some (V.bl (inV v (svs cols)))) = (others.map fun o => cols.contains o).map V.bl := by
  rw [filterMap_some]
  show (others.map sv).map _ = _
  rw [List.map_map, List.map_map]
  exact List.map_congr_left fun o _ => by show V.bl (inV (sv o) (svs cols)) = _; rw [inV_svs]; rfl
end Cn
set_option Elab.async false
set_option linter.all false
set_option maxRecDepth 100000
set_option maxHeartbeats 2000000
/-! Cn.B6: comprehensions whose parts make new things. -/
namespace Cn
open PySem L2
section
variable {J : It} {n : Nat} {G : Hp → Prop} {Y : Nat → Hp → V → Hp → Prop}
theorem range_succ_fm (F : Nat → Option V) (i : Nat) : (List.range (i + 1)).filterMap F = (List.range i).filterMap F ++ (F i).toList := by
  rw [List.range_succ, List.filterMap_append]
  cases h : F i <;> simp [h]
/-- the i-th turn gives F i (none: nothing is kept); what stood before stays -/
theorem lc_grow (F : Nat → Option V) (w : Walk J n G Y) {g : TG} {tt : TT} {te : TE} {vs : List Nat} {σ : St} {H1 : Hp} {D : Addr} {Qd : Hp → Prop} (hD : H1 D = none)
    (hG : ∀ H', But [] H1 H' → G H')
    (hs : ∀ i x acc H2 H' (N : Hp → Prop), i < n → acc.length ≤ i → But [] H1 H2 → H2 D = some (.lst acc) → Y i H2 x H' → (∀ y H'', F i = some y → But [] H1 H'' → H'' D = some (.lst (acc ++ [y])) → N H'') → (∀ H'', F i = none → But [] H1 H'' → H'' D = some (.lst acc) → N H'') →
      g x (wipe σ vs) H' fun σ2 H2 => wipe σ2 vs = wipe σ vs ∧ tt σ2 H2 fun b H3 =>
        if b = true then te σ2 H3 fun y H4 => ∃ acc, H4 D = some (.lst acc) ∧ acc.length < sizeLine ∧ N (upd H4 D (.lst (acc ++ [y]))) else N H3)
    (hd : ∀ H', But [] H1 H' → H' D = some (.lst ((List.range n).filterMap F)) → Qd H') :
    ∃ W : Nat → Nat → Hp → Prop, (∃ m, W 0 m (upd H1 D (.lst []))) ∧ ∀ i m H, W i m H →
      (J.stop i H ∧ Qd H) ∨ (J.go i H ∧ ∃ Nx : Hp → Prop, (∀ H', Nx H' → ∃ m', m' < m ∧ W (i + 1) m' H') ∧ ∀ x H', J.yld i H x H' → g x (wipe σ vs) H' fun σ2 H2 => wipe σ2 vs = wipe σ vs ∧ tt σ2 H2 fun b H3 =>
        if b = true then te σ2 H3 fun y H4 => ∃ acc, H4 D = some (.lst acc) ∧ acc.length < sizeLine ∧ Nx (upd H4 D (.lst (acc ++ [y]))) else Nx H3) := by
  refine lc_it w (fun i H' => i ≤ n ∧ But [] H1 H' ∧ H' D = some (.lst ((List.range i).filterMap F))) ⟨Nat.zero_le _, But.refl.new hD, upd_same⟩ (fun i H' _ e => hG _ e.2.1) (fun i x H2 H3 hi e y => ?_) (fun H' e => hd H' e.2.1 e.2.2)
  refine hs i x _ H2 H3 (fun H' => i + 1 ≤ n ∧ But [] H1 H' ∧ H' D = some (.lst ((List.range (i + 1)).filterMap F))) hi (Nat.le_trans (List.length_filterMap_le ..) (by rw [List.length_range]; exact Nat.le_refl _)) e.2.1 e.2.2 y (fun y H'' hy b hx => ⟨hi, b, ?_⟩) (fun H'' hy b hx => ⟨hi, b, ?_⟩)
  · rw [range_succ_fm, hy]; exact hx
  · rw [range_succ_fm, hy]; simpa using hx
/-- the end of a turn that keeps y -/
theorem lc_putG {H1 H4 : Hp} {D : Addr} {acc : List V} {y : V} {N : Hp → Prop} (b : But [] H1 H4) (hD : H1 D = none) (h4 : H4 D = some (.lst acc)) (hz : acc.length < 16777216) (h : ∀ H'', But [] H1 H'' → H'' D = some (.lst (acc ++ [y])) → N H'') :
    ∃ acc', H4 D = some (.lst acc') ∧ acc'.length < sizeLine ∧ N (upd H4 D (.lst (acc' ++ [y]))) :=
  ⟨acc, h4, szt hz, h _ (b.put0 hD) upd_same⟩
theorem range_map {α β : Type} (f : α → β) : ∀ xs : List α, (List.range xs.length).filterMap (fun i => (xs[i]?).map f) = xs.map f
  | [] => rfl
  | a :: r => by
    have ih := range_map f r
    rw [List.length_cons, List.range_succ_eq_map, List.filterMap_cons]
    show f a :: ((List.range r.length).map Nat.succ).filterMap _ = _
    rw [List.filterMap_map, List.map_cons, ← ih]
    congr 1
end
end Cn
namespace Cn
open PySem L2
/-- what is kept of rows of things, by a test on the things -/
theorem each_filter {α : Type} {R : V → α → Prop} (c : α → Bool) : ∀ {vs : List V} {xs : List α}, Each R vs xs → Each R ((List.range vs.length).filterMap fun i => (xs[i]?).bind fun x => if c x then vs[i]? else none) (xs.filter c)
  | [], [], _ => Each.nil
  | [], _ :: _, h => by have := h.1; simp at this
  | _ :: _, [], h => by have := h.1; simp at this
  | v :: vs, x :: xs, h => by
    have hv : R v x := h.2 0 v x rfl rfl
    have ht : Each R vs xs := ⟨by have := h.1; simpa using this, fun i a b p q => h.2 (i + 1) a b (by simpa using p) (by simpa using q)⟩
    have ih := each_filter c ht
    have e : (List.range (v :: vs).length).filterMap (fun i => ((x :: xs)[i]?).bind fun x => if c x then (v :: vs)[i]? else none) = (if c x then [v] else []) ++ (List.range vs.length).filterMap (fun i => (xs[i]?).bind fun x => if c x then vs[i]? else none) := by
      rw [List.length_cons, List.range_succ_eq_map, List.filterMap_cons, List.filterMap_map]
      have e2 : ((fun i => ((x :: xs)[i]?).bind fun x => if c x then (v :: vs)[i]? else none) ∘ Nat.succ) = (fun i => (xs[i]?).bind fun x => if c x then vs[i]? else none) := rfl
      rw [e2]
      cases h : c x <;> simp [h]
    rw [e]
    cases hc : c x with
    | true =>
      have e3 : (x :: xs).filter c = x :: xs.filter c := by rw [List.filter_cons, if_pos hc]
      rw [e3]
      refine ⟨by simp [ih.1], fun i a b p q => ?_⟩
      cases i with
      | zero => simp at p q; subst p; subst q; exact hv
      | succ i => exact ih.2 i a b (by simpa using p) (by simpa using q)
    | false =>
      have e3 : (x :: xs).filter c = xs.filter c := by rw [List.filter_cons, if_neg (by rw [hc]; exact Bool.false_ne_true)]
      rw [e3]
      simpa using ih
/-- any turn-by-turn walk within a comprehension: Z N x H' says what a turn with x at H' owes, N what it hands on -/
theorem turns {J : It} {n : Nat} {G : Hp → Prop} {Y : Nat → Hp → V → Hp → Prop} (w : Walk J n G Y) {Z : (Hp → Prop) → V → Hp → Prop} {Hs : Hp} {Qd : Hp → Prop} (Pv : Nat → Hp → Prop) (h0 : Pv 0 Hs) (hG : ∀ i H, i ≤ n → Pv i H → G H)
    (hs : ∀ i x H H', i < n → Pv i H → Y i H x H' → Z (Pv (i + 1)) x H') (hd : ∀ H, Pv n H → Qd H) :
    ∃ W : Nat → Nat → Hp → Prop, (∃ m, W 0 m Hs) ∧ ∀ i m H, W i m H → (J.stop i H ∧ Qd H) ∨ (J.go i H ∧ ∃ Nx : Hp → Prop, (∀ H', Nx H' → ∃ m', m' < m ∧ W (i + 1) m' H') ∧ ∀ x H', J.yld i H x H' → Z Nx x H') := by
  refine ⟨fun i m H => m = n - i ∧ i ≤ n ∧ Pv i H, ⟨n, by simp, Nat.zero_le _, h0⟩, ?_⟩
  rintro i m H ⟨rfl, hi, p⟩
  have q := hG i H hi p
  by_cases lt : i < n
  · exact .inr ⟨w.goes i H lt q, Pv (i + 1), fun H' p' => ⟨n - (i + 1), by omega, rfl, lt, p'⟩, fun x H' y => hs i x H H' lt p (w.yields i H x H' lt q y)⟩
  · have e : i = n := by omega
    subst e
    exact .inl ⟨w.stops H q, hd H p⟩
end Cn
namespace Cn
open PySem L2
theorem atI_neg {ls : List T} {k : Nat} (h1 : 1 ≤ k) (h : k ≤ ls.length) : atI (svs ls) (-(k : Int)) = some (sv (ls.getD (ls.length - k) [])) := by
  unfold atI ixN
  rw [svs_len, if_neg (by omega), if_pos (by omega)]
  show (svs ls)[((-(k : Int)) + (ls.length : Int)).toNat]? = _
  have e : ((-(k : Int)) + (ls.length : Int)).toNat = ls.length - k := by omega
  have hx : ls[ls.length - k]? = some (ls[ls.length - k]'(by omega)) := List.getElem?_eq_getElem _
  rw [e, svs_at hx, List.getD_eq_getElem?_getD, hx]; rfl
theorem str_go {a b : Str} {σ : L2.St} {H : Hp} {Q : VK} {c : Bool} (h : Q (.str (if c then a else b)) H) : if c = true then tC (.str a) σ H Q else tC (.str b) σ H Q := by
  cases c with
  | true => exact iteT h
  | false => exact iteF h
theorem tgt_go {K : PySem.W.Frag} {σ : L2.St} {H : Hp} {Q : VK} {c : Bool} {va : List V} {ab tb : Addr} (h2 : σ[2]? = some (some (.ref ab))) (h1 : σ[1]? = some (some (.ref tb))) (hab : H ab = some (.lst va)) (hz : va.length ≤ 1000)
    (h : ∀ l, H l = none → Q (.ref l) (upd H l (.lst (if c then va else va ++ [.ref tb])))) :
    if c = true then tCB (fun xs H Q => ∃ p ys, xs = [.ref p] ∧ (SqL K H p ys ∨ SqT K H p ys) ∧ ∀ l, H l = none → Q (.ref l) (upd H l (.lst ys))) (tCons (tVar 2) tNil) σ H Q else tLst (StX.tStar K (tVar 2) (tCons (tVar 1) tNil)) σ H Q := by
  cases c with
  | true => exact iteT ⟨_, h2, ab, va, rfl, .inl (SqL.of hab), h⟩
  | false => exact iteF ⟨_, h2, ab, va, rfl, .inr (SqL.of hab), _, h1, szl (by simp; omega), h⟩
theorem sv_eq (a b : T) : decide (sv a = sv b) = (a == b) := by
  by_cases e : a = b
  · subst e; simp
  · rw [beq_eq_false_iff_ne.mpr e]
    exact decide_eq_false fun z => e (by injection z with z; exact S_inj z)
theorem nat_eq (a b : Nat) : decide (V.int (a : Int) = V.int (b : Int)) = (a == b) := by
  by_cases e : a = b
  · subst e; simp
  · rw [beq_eq_false_iff_ne.mpr e]
    exact decide_eq_false fun z => e (by injection z with z; omega)
theorem ge_lit {n k : Nat} : decide ((k : Int) ≤ ((n : Nat) : Int)) = decide (k ≤ n) := by
  by_cases h : k ≤ n
  · rw [decide_eq_true h, decide_eq_true (by omega)]
  · rw [decide_eq_false h, decide_eq_false (by omega)]
end Cn

namespace Cn
/-- as ite2, the false way first -/
theorem ite2n {c A B : Prop} [Decidable c] (h2 : ¬ c → B) (h1 : c → A) : if c then A else B := L2.ite2 h1 h2
end Cn
set_option Elab.async false
set_option linter.all false
set_option maxRecDepth 100000
set_option maxHeartbeats 2000000
/-! Cn.B7: a caught error that is kept in a local: it is tracked behind the try; a classmethod called in a try. -/
namespace Cn
open PySem PySem.Spec PyProof.Rows L2
/-- a caught error of the class cls at a, its own dict at d -/
def XV (cls : Value) (d : Option Addr) (a : Addr) : HO := .ext fun h => ∃ (oe : Obj) (vs : Array Value), h.get? a = some oe ∧ Zc cls d oe ∧ oe.data = .fields vs
section
variable {X : Cx} {pins : List (Addr × Obj)} {σ : L2.St} {H : Hp} {s : Shared} {a : Addr}
/-- an untracked object of ours, new since the entry, is tracked from now on -/
theorem Inv.track {oe : Obj} {cls : Value} {d : Option Addr} {vs : Array Value} (I : Inv X ((a, oe) :: pins) σ H s) (hz : Zc cls d oe) (hd : oe.data = .fields vs) (n0 : X.s_0.heap.get? a = none) (hp : ∀ p ∈ X.pn ++ pins, p.1 ≠ a) : Inv X pins σ (upd H a (XV cls d a)) s := by
  obtain ⟨ga, na, nL, nF, _⟩ := I.pin (a, oe) (List.mem_append_right _ List.mem_cons_self)
  have old : ∀ b o, X.s_0.heap.get? b = some o → b ≠ a := fun b o e z => by rw [z, n0] at e; cases e
  have none' : ∀ {b o}, H b = some o → b ≠ a := fun e => ne_of_none e na
  have cne : ∀ x c, X.env.cells.lookup x = some c → c ≠ a := fun x c e z => by
    obtain ⟨v, o, ho, hd'⟩ := I.cell x c e
    rw [z, ga] at ho
    cases ho
    rw [hd] at hd'
    cases hd'
  refine ⟨I.ok, I.os, I.bare, ⟨I.base.keep, I.base.slot, fun b o e n hx => ?_, I.base.there, fun b xs e => ?_, fun b o u e => ?_, fun b ps e => ?_⟩, I.loc, I.cell, ?_, fun x c e => ?_, fun p hm => ?_, I.hok.laidN (fun b u q => q) na ?_, I.len⟩
  · rw [upd_ne (old b o e)]; exact I.base.free b o e n hx
  · have := I.base.tups b xs e
    rw [upd_ne (none' this)]; exact this
  · have := I.base.frzs b o u e
    rw [upd_ne (none' this)]; exact this
  · obtain ⟨m, this⟩ := I.base.tbls b ps e
    exact ⟨m, by rw [upd_ne (none' this)]; exact this⟩
  · rw [upd_ne nL.symm]; exact I.free
  · rw [upd_ne (cne x c e)]; exact I.freeC x c e
  · have pm : p ∈ X.pn ++ (a, oe) :: pins := (List.mem_append.mp hm).elim (fun z => List.mem_append_left _ z) fun z => List.mem_append_right _ (List.mem_cons_of_mem _ z)
    obtain ⟨p1, p2, p3⟩ := I.pin p pm
    exact ⟨p1, by rw [upd_ne (hp p hm)]; exact p2, p3⟩
  · exact ⟨⟨oe, vs, ga, hz, hd⟩, ⟨oe, ga⟩, fun _ _ ⟨o, v, q, r⟩ k => ⟨o, v, k o q, r⟩⟩
end
/-- what 'except x as n: ..' wishes of an error, which stays tracked behind the suite -/
def wKp (K : PySem.W.Frag) (c : Value) (i : Nat) (ts : Addr → Value → Option Addr → TS) (Wout : WX) (D : Ends) : WX := fun cls d σ H =>
  ∃ b, PySem.W.exmOne K cls c = some b ∧ (b = true → ∀ a, H a = none → ts a cls d { nx := fun σ' H' => D.nx (σ'.set i none) (upd H' a (XV cls d a)), rt := fun _ _ => False, bk := fun _ _ => False, ct := fun _ _ => False } (σ.set i (some (.ref a))) H) ∧ (b = false → Wout cls d σ H)
section
variable {X : Cx} {x n : Str} {c : Value} {i : Nat} {body suite : List Stmt} {b₀ : Stmt} {np pos pos' : Pos} {tb : WX → TS} {ts : Addr → Value → Option Addr → TS} {Wout : WX}
theorem ps_try_keep (hs : X.stack = X.env :: X.outer) (hf : X.env.frame = some X.env.locals) (hx0 : X.ex = []) (hN : X.N.Nodup) (hi : X.N[i]? = some n) (hln : X.env.kindOf n = some .local) (hc : Names X x c) (tk : Takes X Wout)
    (hb : ∀ (W : WX) (pn : List (Addr × Obj)) (xe : Value → Shared → Prop), Takes (X.tr pn xe) W → PassesOwn (model X.prog X.w) X.A X.env xe → PSs (X.tr pn xe) body (tb W))
    (hsu : ∀ (a : Addr) (oe : Obj) (cls : Value) (d : Option Addr) (pn : List (Addr × Obj)), Zc cls d oe → (∃ vs, oe.data = .fields vs) → PSs (X.suite a ((a, oe) :: pn)) (b₀ :: suite) (ts a cls d)) :
    PS X (.Try body [.ExceptHandler (some (.Name x np)) (some n) (b₀ :: suite) pos'] [] [] pos) (fun D σ H => tb (wKp X.K c i ts Wout D) D σ H) := by
  refine ⟨fun pins s σ H D I h => ?_⟩
  have ok := I.ok
  have fr : X.A.frames = some (X.env :: X.outer) := ok.frames.trans (congrArg some hs)
  refine wpAny_Try_except (wpAny_mono ((hb (wKp X.K c i ts Wout D) (X.pn ++ pins) (fun e s₁ => wpAny (model X.prog X.w) X.A (noteFrame e X.env) (fun _ s₂ => wpAny (model X.prog X.w) X.A (setFlight e none) (fun _ s₃ =>
    wpAny (model X.prog X.w) X.A (handleBy e X.env [.ExceptHandler (some (.Name x np)) (some n) (b₀ :: suite) pos']) (SP X pins D) X.xe s₃) X.xe s₂) X.xe s₁) (fun u s' caught => ?g1) PassesOwn.looking).run [] s σ H D (I.toTry _) h) (fun f s1 e => ?g2) (fun e s1 he => he))
  case g2 =>
    rcases f with _ | _ | _ | _
    all_goals first
      | (obtain ⟨σ', H', J, q⟩ := e; first | exact wpAny_execs_nil ⟨σ', H', J.ofTry ok, q⟩ | exact ⟨σ', H', J.ofTry ok, q⟩)
      | (obtain ⟨v, σ', H', J, r, q⟩ := e; exact ⟨v, σ', H', J.ofTry ok, r, q⟩)
  case g1 =>
    obtain ⟨a, B, sI, ps, σ1, H1, cls, d, rfl, J0, ground, up, sky, na, os, ag, b, hb1, yes, no⟩ := caught
    have J : Inv X pins σ1 H1 sI := J0.ofTry ok
    have sky : Sky B (X.env :: X.outer) a (Zc cls d) X.env.locals s'.heap := by rw [← hs]; exact sky
    -- the error is new since the entry
    have Ba : B.get? a = none := by
      rcases sky with z | z | z
      · exact z.2.1
      · exact z.2.1
      · exact z.2.1
    show wpAny (model X.prog X.w) X.A (noteFrame (.ref a) X.env) _ _ _
    refine Sky.land Zc.steady fr hf sky fun h3 fl3 up3 => ?_
    have J3 : Inv X pins σ1 H1 { s' with heap := h3 } := J.landed ground fl3.1 (up.trans up3) os ag
    obtain ⟨oe3, vs3, he3, hz3, hd3⟩ := fl3.there
    have nfr : a ∉ frs (X.env :: X.outer) := fun hm => by
      obtain ⟨_, o', e', hnf⟩ := fl3.2.2.1.mem hm
      rw [he3] at e'
      cases e'
      exact hnf _ hd3
    have nL : a ≠ X.env.locals := fun z => nfr (List.mem_filterMap.mpr ⟨X.env, List.mem_cons_self, by rw [hf, z]⟩)
    have nF : a ∉ X.fs := fun hm => by
      obtain ⟨e, he, q⟩ := List.mem_filterMap.mp hm
      exact nfr (List.mem_filterMap.mpr ⟨e, List.mem_cons_of_mem _ he, q⟩)
    have nst : a ∉ frs X.stack := by rw [hs]; exact nfr
    have gI : sI.heap.get? a = none := by
      cases q : sI.heap.get? a with
      | none => rfl
      | some o => have z := ground a o q nst; rw [Ba] at z; cases z
    have n0 : X.s_0.heap.get? a = none := by
      cases q : X.s_0.heap.get? a with
      | none => rfl
      | some o => obtain ⟨o', z⟩ := J.base.there a o q (by rw [hx0]; simp); rw [gI] at z; cases z
    have npin : ∀ p ∈ X.pn ++ pins, p.1 ≠ a := fun p hp z => by
      have q := (J.pin p hp).1
      rw [z, gI] at q
      cases q
    have S3 := J3.suite he3 hd3 na nL nF
    refine wpAny_handleBy_cons (codeAny_handlers_test ?_) (by intro q; cases q)
    have LT : PySem.W.Looks (model X.prog X.w) h3 (typeOf (.ref a)) cls := fun A Q E s k q => wpAny_typeOf_ref (k _ _ he3) (by rw [hz3.1]; exact q)
    have LM := PySem.W.exm_one (M := model X.prog X.w) J3.kIn LT hb1
    have test : ∀ {Q E : Value → Shared → Prop}, Q c { s' with heap := h3 } → wpAny (model X.prog X.w) (X.A.mark (some (.ref a))) (eval (.Name x np) X.env) Q E { s' with heap := h3 } := fun {Q E} q => by
      obtain ⟨g, dbg, m | ⟨m, v, nn⟩⟩ := hc
      · exact ld_glob (X := X.suite a ((a, oe3) :: (X.pn ++ pins))) S3 g m q dbg
      · exact ld_blt (X := X.suite a ((a, oe3) :: (X.pn ++ pins))) S3 g m v q nn dbg
    refine test (LM.here ?_)
    cases b with
    | true =>
      refine codeAny_handlers_suite_as (HandSPX.lands_againZ fl3 fun h4 fl4 up4 => ?_)
      have J4 : Inv X pins σ1 H1 { s' with heap := h4 } := J.landed ground fl4.1 ((up.trans up3).trans up4) os ag
      obtain ⟨oe4, vs4, he4, hz4, hd4⟩ := fl4.there
      have S4 := J4.suite he4 hd4 na nL nF
      refine store_ok (X := X.suite a ((a, oe4) :: (X.pn ++ pins))) (v := .ref a) S4 hN hi (.inl hln) rfl (fun s5 S5 => ?_) (.inr hln)
      refine wpAny_mono ((hsu a oe4 cls d (X.pn ++ pins) hz4 ⟨_, hd4⟩).run [] s5 _ H1 _ S5 (yes rfl a na)) (fun f s6 e => ?_) (fun _ _ z => False.elim z)
      cases f with
      | next =>
        obtain ⟨σ6, H6, S6, q6⟩ := e
        have pa := S6.pin (a, oe4) (List.mem_append_left _ List.mem_cons_self)
        have J6 : Inv X ((a, oe4) :: pins) σ6 H6 s6 := (S6.unsuite ok).pins_of fun p hp => by
          rcases List.mem_cons.mp hp with z | z
          · rw [z]; exact pa
          · exact (S6.unsuite ok).pin p (List.mem_append_right _ z)
        show wpAny (model X.prog X.w) X.A (do bindName X.env n .none; unbindBehindTheSuite X.env n pos') _ _ _
        exact gone_ok J6 hN hi hln fun s7 J7 => ⟨_, _, Inv.track J7 hz4 hd4 n0 npin, q6⟩
      | brk => obtain ⟨_, _, _, z⟩ := e; exact z.elim
      | cont => obtain ⟨_, _, _, z⟩ := e; exact z.elim
      | ret u => obtain ⟨_, _, _, _, _, z⟩ := e; exact z.elim
    | false =>
      show wpAny _ X.A (handleBy (.ref a) X.env []) _ _ _
      refine wpAny_handleBy_nil ?_
      obtain ⟨k1, k2, k3, oe, vs, tb', oT, ts', he, hz, hd, h1, hr⟩ := id fl3
      unfold PySem.passOn
      refine wpAny_bind (wpAny_field he hd h1 ?_)
      rw [if_neg (show ¬ ((Value.ref tb' == Value.none) = true) from by simp)]
      have fin : wpAny (model X.prog X.w) X.A (setFlight (.ref a) X.env.frame) (fun _ s4 => wpAny (model X.prog X.w) X.A (throw (.ref a) : Sem Flow) (SP X pins D) X.xe s4) X.xe { s' with heap := h3 } := by
        rw [hf]
        refine HandSPX.setFlight_upZ fl3 fun h4 hh4 up4 => wpAny_throw (tk _ _ ?_)
        exact ⟨a, B, sI, pins, σ1, H1, cls, d, rfl, J, ground, (up.trans up3).trans up4, .inr (.inr (by rw [hs]; exact hh4)), na, os, ag, no rfl⟩
      first
        | exact wpAny_bind (wpAny_pure (wpAny_bind fin))
        | exact wpAny_bind fin
end
section
variable {X : Cx} {C : Addr} {e : Expr} {te : TE} {pos : Pos} {n : Str}
/-- err.f of a kept error -/
def tXv (C : Addr) (f : Str) (te : TE) : TE := fun σ H Q => te σ H fun x H1 => ∃ (a dd : Addr) (fs : List (Str × V)) (v : V), x = .ref a ∧ H1 a = some (XV (.ref C) (some dd) a) ∧ H1 dd = some (.xd fs) ∧ fs.lookup f = some v ∧ Q v H1
theorem pe_xv (T : XfC X.K C) (hno : PySem.W.findIn X.K (.ref C) n = some none) (he : PE X e te) (hb : attributeBase e n X.env (eval e X.env) = eval e X.env := by rfl) : PE X (.Attribute e n pos) (tXv C n te) := by
  refine ⟨fun pins s σ H Q I h => attr_of hb (thn (he.run pins s σ H _ I h) fun u s1 ⟨x, H1, I1, rx, a, dd, fs, v, ex, ea, ed, l, q⟩ => ?_)⟩
  subst ex
  obtain rfl : u = Value.ref a := rx
  have hx : ObjOk X.prog X.w H1 s1.heap dd (.xd fs) := I1.hok dd _ ed
  obtain ⟨mA, hns, hr⟩ := hx
  have hA : ObjOk X.prog X.w H1 s1.heap a (XV (.ref C) (some dd) a) := I1.hok a _ ea
  obtain ⟨⟨oe, vs, ha, hz, hd⟩, _⟩ := hA
  obtain ⟨od, ho, hl⟩ := lookIn_ns hns
  obtain ⟨w', hu, ru⟩ := RelO.some_of (v := v) (o := mA n) (by rw [← l]; exact hr n)
  have J : PySem.W.InstAt s1.heap a oe C (some od) := ⟨ha, hz.1, by unfold PySem.W.notCls; rw [hd], by rw [hz.2]; exact ho⟩
  exact HandSPX.exc_get I1.kIn J T.ga T.gg T.exC (PySem.W.findObj_own T.hdC hno rfl (by rw [hl, hu])) (handed_of ru) ⟨v, H1, I1.tok _, ru, q⟩
end
/-! ### a classmethod's call in a try -/
section
variable {X : Cx} {CX : CXT} {k : Nat} {C p g : Addr} {mc : Value} {sp : Sp} {E : L2.St → XK} {o e : Expr} {es : List Expr} {f m : Str} {pos apos : Pos} {ta : TE} {t : TA} {pl : Sem Bool}
def tCMethS (C : Addr) (sp : Sp) (E : L2.St → XK) (ta : TE) (t : TA) : TE := fun σ H Q => ta σ H fun x H1 => x = .ref C ∧ t σ H1 fun vs H2 => sp (.ref C :: vs) H2 Q (E σ)
theorem p_cmethS (he : PE X o ta) (r : ClX.CRead X.K C mc) (c : ClX.CMet X.K C mc m p g) (F : FnR X.prog X.w X.K X.mg X.base CX k g sp) (hr : Room k X.A) (hx : ∀ σ, PassesAt CX X σ (E σ)) (ha : PA X (e :: es) t)
    (hst : starEach (e :: es) X.env = (false, eval e X.env) :: starEach es X.env := by rfl) (hpl : (backTo pos (starEach es X.env)).any (·.1) = false := by rfl)
    (ht : eval (.Call (.Attribute o m apos) (e :: es) [] pos) X.env = (do
      let ov ← eval o X.env
      standAt apos.atName
      let (f, first) ← holding [ov] (getMethod ov m pl)
      callWith pos f first (backTo pos (starEach (e :: es) X.env)) (backToKw pos (keywordEach [] X.env))) := by rfl) :
    PE X (.Call (.Attribute o m apos) (e :: es) [] pos) (tCMethS C sp E ta t) := by
  refine ⟨fun pins s σ H Q I h => PySem.W.methodCall_KW (pl := pl) (thn (he.run pins s σ H _ I h) fun u s1 ⟨x, H1, I1, rx, ex, q⟩ => ?_) ht⟩
  subst ex
  obtain rfl : u = Value.ref C := rx
  refine ClX.getmethcm_ok I1 r c fun s2 I2 => ?_
  refine ClX.callwith_cm I2 (ClX.base_none I1 (Nat.le_refl _)) c.fi (thn (ha.run pos _ s2 σ H1 _ I2 q) fun us s3 ⟨vs, H2, I3, rv, q2⟩ => ⟨⟨ClX.pin_at I3, I3.kIn⟩, ?_⟩) hst hpl
  refine thn (Q := EP X ((s1.heap.objs.size, PySem.W.methodObj (.ref g) (.ref C)) :: pins) σ Q) (wpAny_call (PySem.W.method_call (ClX.pin_at I3) (codeAny_mono (F X.A X.stack s3 H2 (.ref C :: us) (.ref C :: vs) Q (E σ) hr I3.env0 (.cons rfl rv) q2) fun r s' hq => ?_))) fun _ _ y => ClX.unpinE y
  cases r with
  | error e => exact hx σ _ H2 s3 e s' I3 hq
  | ok fl =>
    cases fl with
    | ret u => exact I3.after hq
    | next => exact False.elim hq
    | brk => exact False.elim hq
    | cont => exact False.elim hq
end
end Cn
set_option Elab.async false
set_option linter.all false
set_option maxRecDepth 100000
set_option maxHeartbeats 2000000
/-! Cn.B8: str(x) of an own class. -/
namespace Cn
open PySem PySem.Spec PyProof.Rows L2
section
variable {X : Cx} {k j : Nat} {C : Addr} {sp : Sp} {E : XK}
theorem call_str_own (E : XK) (c : Met X.prog X.w X.K X.mg X.base k C "__str__" sp) (hr : Room j X.A) (hk : k + 2 ≤ j) (hx : Passes (L2.CX X.prog X.w) X E) :
    CallR X (.type "str") (fun xs H Q => ∃ a dx fs, xs = [.ref a] ∧ H a = some (.ins C dx fs) ∧ sp [.ref a] H (fun v H' => (∃ t, v = .str t) ∧ Q v H') E) := by
  intro pins s σ H xs us Q I r h
  obtain ⟨f, fd, ps, hC, hm, F, hb⟩ := c.ex
  obtain ⟨a, dx, fs, rfl, ha, q⟩ := h
  obtain ⟨u, rfl, ru⟩ := vals1 r
  obtain rfl : u = Value.ref a := ru
  obtain ⟨mA, J, _⟩ := ins_get I.hok ha
  obtain ⟨od, J, _⟩ := J.look
  have sb : Sub X k X.A.in1.in1 := Sub.in1 (Sub.in1 ⟨hr.mono hk, rfl⟩)
  refine PySem.W.kso_call sb.room.units0 I.kIn J hm.at_ hm.fn ?_
  have e0 : Env0 X.prog X.w X.K X.mg X.base X.A.in1.in1 X.stack s H := by
    have e := I.env0
    exact ⟨by rw [sb.fr]; exact e.frames, e.mod, e.bs, e.bsz, e.funs, e.frf, e.hok, e.bare⟩
  have hl := F.len _ _ _ _ q
  have r2 : Vals [V.ref a] [Value.ref a] := .cons rfl .nil
  refine wpAny_call (codeAny_mono (F.run X.A.in1.in1 X.stack s H ⟨[.ref a], []⟩ [.ref a] [.ref a] _ E sb.room e0 (by
    have := hb s [.ref a] I.kIn (by simpa using hl)
    simpa using this) r2 q) fun r s' hq => ?_)
  cases r with
  | error e => exact hx pins σ H s e s' I hq
  | ok fl =>
    cases fl with
    | ret w =>
      obtain ⟨z, H', I', rz, ⟨t, ez⟩, q⟩ := I.after hq
      subst ez
      obtain ⟨tk, rfl⟩ := rz
      exact ⟨.str t, H', I', ⟨tk, rfl⟩, q⟩
    | next => exact False.elim hq
    | brk => exact False.elim hq
    | cont => exact False.elim hq
end
end Cn
namespace Cn
open PySem PySem.Spec PyProof.Rows L2
theorem foldl_arr : ∀ (L : List (Array Nat)) (acc : Array Nat), (L.foldl (· ++ ·) acc) = acc ++ (L.map Array.toList).flatten.toArray
  | [], acc => by simp
  | a :: r, acc => by
    rw [List.foldl_cons, foldl_arr r]
    apply Array.ext'
    simp
def repT (n : Nat) (a : T) : T := (List.replicate n a).flatten
theorem repT_len (n : Nat) (a : T) : (repT n a).length = n * a.length := by simp [repT]
theorem rep_S (n : Nat) (a : T) : (⟨(List.replicate n (S a).cps).foldl (· ++ ·) #[]⟩ : Str) = S (repT n a) := by
  rw [foldl_arr]
  unfold S repT
  congr 1
  simp
section
variable {X : Cx}
theorem op_repS : OpR X (binaryOp .Mult) (fun x y H Q => ∃ (a : T) (n : Nat), x = sv a ∧ y = .int (n : Int) ∧ 1 ≤ n ∧ n ≤ 100000 ∧ a.length ≤ 100 ∧ a ≠ [] ∧ Q (sv (repT n a)) H) := by
  intro pins s σ H x y v u Q I rx ry h
  obtain ⟨a, n, rfl, rfl, h1, h2, h3, h4, q⟩ := h
  obtain ⟨t, rfl⟩ := rx
  obtain ⟨t', rfl⟩ := ry
  have hx : (S a).length = a.length := S_len a
  have hb : n * a.length ≤ 10000000 := by have := Nat.mul_le_mul h2 h3; omega
  refine PySem.P.mul_str ?_ (fun _ _ => ?_) (fun _ _ => ?_) ?_
  · rw [decide_eq_false (by omega), decide_eq_false (by omega)]; rfl
  · rw [hx]
    have : (100000 : Int) ≤ (2 ^ 63 - 1) / (n : Int) := by
      refine (Int.le_ediv_iff_mul_le (by omega)).mpr ?_
      omega
    omega
  · rw [hx]
    unfold PySem.Builtin.Str.tooLong
    have : a.length * n ≤ 10000000 := by rw [Nat.mul_comm]; exact hb
    have e : ((n : Int)).toNat = n := by omega
    rw [e, sizeLine_eq]
    exact decide_eq_false (by omega)
  · rw [if_neg (by omega)]
    by_cases e1 : ((n : Int) == 1 || (S a).length == 0) = true
    · rw [if_pos e1]
      have n1 : n = 1 := by
        rcases Bool.or_eq_true _ _ ▸ e1 with z | z
        · have := eq_of_beq z; omega
        · have z2 := eq_of_beq z
          rw [hx] at z2
          exact absurd (List.length_eq_zero_iff.mp z2) h4
      subst n1
      have : repT 1 a = a := by simp [repT]
      rw [this] at q
      exact ⟨sv a, H, I, ⟨t, rfl⟩, q⟩
    · rw [if_neg e1]
      have e : ((n : Int)).toNat = n := by omega
      rw [e, rep_S]
      refine ⟨szl (by rw [S_len, repT_len]; omega), sv (repT n a), H, I.tok _, ⟨_, rfl⟩, q⟩
end
end Cn

namespace Cn
open PySem PySem.Spec PyProof.Rows L2
/-- a classmethod of our own -/
structure CMt (P : Program) (w : World) (K : PySem.W.Frag) (mg : Str → Option Value) (base : Heap) (k : Nat) (C : Addr) (m : Str) (sp : Sp) : Prop where
  ex : ∃ (mc : Value) (p g : Addr), ClX.CRead K C mc ∧ ClX.CMet K C mc m p g ∧ FnR P w K mg base (L2.CX P w) k g sp
section
variable {X : Cx} {k j : Nat} {C : Addr} {sp : Sp} {E : L2.St → XK} {o e : Expr} {es : List Expr} {m : Str} {pos apos : Pos} {ta : TE} {t : TA} {pl : Sem Bool}
theorem p_cmt (he : PE X o ta) (c : CMt X.prog X.w X.K X.mg X.base k C m sp) (hr : Room j X.A) (hk : k ≤ j) (hx : ∀ σ, PassesAt (L2.CX X.prog X.w) X σ (E σ)) (ha : PA X (e :: es) t)
    (hst : starEach (e :: es) X.env = (false, eval e X.env) :: starEach es X.env := by rfl) (hpl : (backTo pos (starEach es X.env)).any (·.1) = false := by rfl)
    (ht : eval (.Call (.Attribute o m apos) (e :: es) [] pos) X.env = (do
      let ov ← eval o X.env
      standAt apos.atName
      let (f, first) ← holding [ov] (getMethod ov m pl)
      callWith pos f first (backTo pos (starEach (e :: es) X.env)) (backToKw pos (keywordEach [] X.env))) := by rfl) :
    PE X (.Call (.Attribute o m apos) (e :: es) [] pos) (tCMethS C sp E ta t) := by
  obtain ⟨mc, p, g, r, cm, F⟩ := c.ex
  exact p_cmethS he r cm F (hr.mono hk) hx ha hst hpl ht
theorem passE {E : XK} (h : Passes (L2.CX X.prog X.w) X E) (σ : L2.St) : PassesAt (L2.CX X.prog X.w) X σ E := fun pins H s e s' I c => h pins σ H s e s' I c
end
end Cn
set_option Elab.async false
set_option linter.all false
set_option maxRecDepth 100000
set_option maxHeartbeats 2000000
/-! Cn.B9: texts and lists of texts that are put together. -/
namespace Cn
open PySem L2
abbrev addR : R2 := fun x y H Q => ∃ i j, x = V.str i ∧ y = V.str j ∧ i.length + j.length ≤ sizeLine ∧ Q (V.str (i ++ j)) H
/-- a text, by parts that change nothing -/
def Pt (te : TE) (σ : L2.St) (l : T) (n : Nat) : Prop := l.length ≤ n ∧ ∀ (H : Hp) (Q : VK), Q (sv l) H → te σ H Q
def PtL (t : TA) (σ : L2.St) (ls : List T) (n : Nat) : Prop := (∀ l ∈ ls, l.length ≤ n) ∧ ∀ (H : Hp) (Q : List V → Hp → Prop), Q (svs ls) H → t σ H Q
/-- a text; new things may be made -/
def GvT (te : TE) (σ : L2.St) (H : Hp) (l : T) : Prop := ∀ Q : VK, (∀ H', But [] H H' → Q (sv l) H') → te σ H Q
/-- a list of texts -/
def GvL (te : TE) (σ : L2.St) (H : Hp) (ls : List T) : Prop := ∀ Q : VK, (∀ H' a, But [] H H' → H' a = some (.lst (svs ls)) → Q (.ref a) H') → te σ H Q
/-- .. a new one -/
def MkL (te : TE) (σ : L2.St) (H : Hp) (ls : List T) : Prop := ∀ Q : VK, (∀ H' a, But [] H H' → H a = none → H' a = some (.lst (svs ls)) → Q (.ref a) H') → te σ H Q
section
variable {K : PySem.W.Frag} {σ : L2.St} {H : Hp} {ta tb te tl : TE} {t : TA} {l m : T} {ls ms : List T} {n k i : Nat}
theorem Pt.lit {s : Str} {l : T} {n : Nat} (e : s = S l := by rfl) (h : l.length ≤ n := by decide) : Pt (tC (.str s)) σ l n := ⟨h, fun H Q q => by subst e; exact q⟩
theorem Pt.var (h : σ[i]? = some (some (sv l))) (hl : l.length ≤ n) : Pt (tVar i) σ l n := ⟨hl, fun H Q q => ⟨_, h, q⟩⟩
theorem Pt.add (a : Pt ta σ l n) (b : Pt tb σ m k) (h : n + k ≤ 100000 := by decide) : Pt (tOp addR ta tb) σ (l ++ m) (n + k) := by
  refine ⟨by rw [List.length_append]; have := a.1; have := b.1; omega, fun H Q q => a.2 H _ (b.2 H _ ⟨S l, S m, rfl, rfl, szl ?_, ?_⟩)⟩
  · rw [S_len, S_len]; have := a.1; have := b.1; omega
  · rw [S_app]; exact q
theorem Pt.gv (a : Pt ta σ l n) : GvT ta σ H l := fun Q q => a.2 H _ (q H But.refl)
theorem PtL.nil : PtL tNil σ [] 0 := ⟨by simp, fun H Q q => q⟩
theorem PtL.cons (a : Pt ta σ l n) (b : PtL t σ ls k) : PtL (tCons ta t) σ (l :: ls) (n + k) := by
  refine ⟨fun x hx => ?_, fun H Q q => a.2 H _ (b.2 H _ q)⟩
  rcases List.mem_cons.mp hx with z | z
  · rw [z]; have := a.1; omega
  · have := b.1 x z; omega
theorem MkL.gv (a : MkL ta σ H ls) : GvL ta σ H ls := fun Q q => a _ fun H' p b _ e => q H' p b e
theorem MkL.dsp (a : PtL t σ ls n) (hz : ls.length ≤ 1000 := by first | decide | simp) : MkL (tLst t) σ H ls := fun Q q =>
  a.2 H _ ⟨szl (by rw [svs_len]; omega), fun p hp => q _ p (newB hp) hp upd_same⟩
theorem MkL.one (a : GvT te σ H l) : MkL (tLst (tCons te tNil)) σ H [l] := fun Q q =>
  a _ fun H' b => ⟨szl (by simp), fun p hp => q _ p (b.put0 (b.free hp (by simp))) (b.free hp (by simp)) upd_same⟩
theorem GvL.var {a : Addr} (h : σ[i]? = some (some (.ref a))) (e : H a = some (.lst (svs ls))) : GvL (tVar i) σ H ls := fun Q q => ⟨_, h, q H a But.refl e⟩
theorem MkL.cat (a : GvL ta σ H ls) (b : ∀ H', But [] H H' → GvL tb σ H' ms) (hz : ls.length + ms.length ≤ 1000 := by first | decide | simp) : MkL (tOp rCat ta tb) σ H (ls ++ ms) := fun Q q =>
  a _ fun H1 p b1 e1 => b H1 b1 _ fun H2 r b2 e2 => ⟨p, r, svs ls, svs ms, rfl, rfl, b2.at e1, e2, szl (by rw [svs_len, svs_len]; omega), fun x hx => by
    have bb := b1.trans b2
    have hx0 : H x = none := bb.free hx (by simp)
    exact q _ x (bb.put0 hx0) hx0 (by rw [upd_same, svs_app])⟩
theorem lcG {J : It} {xs : List T} {f : T → T} {Q : VK} {H0 H : Hp} (b0 : But [] H0 H) {G : Hp → Prop} (w : Walk J (svs xs).length G (YAt (svs xs))) (hG : ∀ H', But [] H H' → G H') (hw : ∀ v, wipe ((wipe σ [i]).set i v) [i] = wipe σ [i]) (he : ∀ x ∈ xs, Pt te ((wipe σ [i]).set i (some (sv x))) (f x) n) (hz : xs.length ≤ 1000)
    (q : ∀ H' a, But [] H0 H' → H0 a = none → H' a = some (.lst (svs (xs.map f))) → Q (.ref a) H') (D : Addr) (hD : H D = none) : ∃ W : Nat → Nat → Hp → Prop, (∃ m, W 0 m (upd H D (.lst []))) ∧ ∀ i' m H, W i' m H →
  (J.stop i' H ∧ Q (.ref D) H) ∨ (J.go i' H ∧ ∃ Nx : Hp → Prop, (∀ H', Nx H' → ∃ m', m' < m ∧ W (i' + 1) m' H') ∧ ∀ x H', J.yld i' H x H' → gName i x (wipe σ [i]) H' fun σ2 H2 => wipe σ2 [i] = wipe σ [i] ∧ tYes σ2 H2 fun b H3 =>
    if b = true then te σ2 H3 fun y H4 => ∃ acc, H4 D = some (.lst acc) ∧ acc.length < sizeLine ∧ Nx (upd H4 D (.lst (acc ++ [y]))) else Nx H3) := by
  refine lc_pure (svs xs) (fun v => match v with
    | .str a => some (sv (f (TL.tl a)))
    | _ => none) w rfl yat (fun acc => hG _ (newB hD)) (fun j x acc N hx hl hy _ => ?_) ?_
  · obtain ⟨r, hr, rfl⟩ := svs_get hx
    refine ⟨hw _, ?_⟩
    refine (he r (List.mem_of_getElem? hr)).2 _ _ (lc_put (szt ?_) (hy _ rfl))
    have := (List.getElem?_eq_some_iff.mp hr).1
    omega
  · have hD0 : H0 D = none := b0.free hD (by simp)
    refine q _ D (b0.put0 hD0) hD0 ?_
    rw [upd_same]
    congr 2
    unfold svs
    rw [List.filterMap_map, List.map_map]
    show xs.filterMap (some ∘ fun x => sv (f x)) = xs.map (fun x => sv (f x))
    rw [List.filterMap_eq_map]
theorem MkL.lc {xs : List T} {f : T → T} (h : GvL tl σ H xs) (he : ∀ x ∈ xs, Pt te ((wipe σ [i]).set i (some (sv x))) (f x) n) (hw : ∀ v, wipe ((wipe σ [i]).set i v) [i] = wipe σ [i]) (hz : xs.length ≤ 1000 := by first | decide | simp) :
    MkL (tLc (iList K tl) (gName i) tYes te [i]) σ H (xs.map f) := fun Q q =>
  h _ fun H1 a b1 e => ⟨a, rfl, ⟨_, SqL.of e⟩, fun D hD => lcG b1 (walk_list (K := K) (a := a) (xs := svs xs)) (fun H' b => SqL.of (b.at e)) hw he hz q D hD⟩
theorem chs_svs (l : T) : chs l = svs (l.map fun c => [c]) := by
  unfold chs svs
  rw [List.map_map]; rfl
theorem MkL.lcS {w : T} {f : T → T} (h : Pt tl σ w k) (he : ∀ x ∈ w.map (fun c => [c]), Pt te ((wipe σ [i]).set i (some (sv x))) (f x) n) (hw : ∀ v, wipe ((wipe σ [i]).set i v) [i] = wipe σ [i]) (hz : w.length ≤ 1000 := by first | decide | simp) :
    MkL (tLc (iStr tl) (gName i) tYes te [i]) σ H ((w.map fun c => [c]).map f) := fun Q q =>
  h.2 H _ ⟨S w, rfl, fun D hD => lcG But.refl (by rw [← chs_svs]; exact walk_S) (fun H' b => trivial) hw he (by rw [List.length_map]; exact hz) q D hD⟩
abbrev joinR (K : PySem.W.Frag) : V → List V → Hp → VK → Prop := fun x xs H Q => ∃ a p ys, x = V.str a ∧ xs = [V.ref p] ∧ (SqL K H p (List.map V.str ys) ∨ SqT K H p (List.map V.str ys)) ∧ (List.map (fun x => x.length) ys).sum + ys.length * a.length ≤ 16777216 ∧ Q (V.str (Txt.join a ys)) H
theorem GvT.join {c : Nat} (h : GvL tl σ H ls) (ht : Pt tb σ [c] k) (hz : (ls.map List.length).sum + ls.length ≤ 100000 := by first | decide | simp) : GvT (tM1 (joinR K) tb tl) σ H (joinT [c] ls) := fun Q q =>
  ht.2 H _ ⟨⟨_, rfl⟩, h _ fun H1 a b e => ⟨S [c], a, ls.map S, rfl, rfl, .inl (by rw [← svs_str]; exact SqL.of e), by
    have e1 : ((ls.map S).map fun x => x.length).sum = (ls.map List.length).sum := by rw [List.map_map]; congr 1
    rw [e1, List.length_map, S_len]
    simp
    omega, by rw [join_S]; exact q H1 b⟩⟩
end
end Cn
set_option Elab.async false
set_option linter.all false
set_option maxRecDepth 100000
set_option maxHeartbeats 2000000
/-! Cn.B10: statements that gather texts. -/
namespace Cn
open PySem L2
/-- a pair (number, list of texts) in the list at F -/
def PairR (F : Addr) (H : Hp) (v : V) (p : Nat × List T) : Prop := ∃ a l, v = .ref a ∧ H a = some (.tup [.int (p.1 : Nat), .ref l]) ∧ H l = some (.lst (svs p.2)) ∧ l ≠ F
def FoundR (H : Hp) (F : Addr) (ps : List (Nat × List T)) : Prop := ∃ vs, H F = some (.lst vs) ∧ Each (PairR F H) vs ps
section
variable {K : PySem.W.Frag} {σ : L2.St} {H : Hp} {ta tb te tl : TE} {t : TA} {l : T} {ls : List T} {n k i fi : Nat} {D : Ends} {F : Addr} {ps : List (Nat × List T)} {d : Nat}
theorem tyLs {K : PySem.W.Frag} {H : Hp} {l : Addr} {xs : List V} (h : H l = some (.lst xs)) : tyV K "list" (.ref l) H := Or.inl ⟨rfl, _, Or.inl (Or.inl h)⟩
theorem st_app (hσ : σ[fi]? = some (some (.ref F))) (hF : H F = some (.lst (svs ls))) (ht : GvT te σ H l) (hz : ls.length ≤ 1000) (k : ∀ H', But [F] H H' → H' F = some (.lst (svs (ls ++ [l]))) → D.nx σ H') :
    tDrop (tBM K "list" rAppend (tVar fi) (tCons te tNil)) D σ H :=
  ⟨_, hσ, tyLs hF, ht _ fun H1 b => ⟨F, svs ls, sv l, rfl, rfl, b.at hF, szt (by rw [svs_len]; omega), k _ ((But.of b).put (by simp)) (by rw [upd_same, svs_app]; rfl)⟩⟩
theorem st_for {rows : List T} {f : T → T} {v0 : Option V} (h : MkL tl σ H rows) (he : ∀ row ∈ rows, Pt te (σ.set i (some (sv row))) (f row) n) (hσ : σ[fi]? = some (some (.ref F))) (hne : i ≠ fi) (h0 : σ.set i v0 = σ) (hF : H F = some (.lst (svs ls))) (hz : ls.length + rows.length ≤ 1000)
    (k : ∀ H' v, But [F] H H' → H' F = some (.lst (svs (ls ++ rows.map f))) → D.nx (σ.set i v) H') :
    tFor (iList K tl) (gName i) (tDrop (tBM K "list" rAppend (tVar fi) (tCons te tNil))) D σ H := by
  refine h _ fun H1 a b1 na e1 => ⟨a, rfl, ⟨_, SqL.of e1⟩, ?_⟩
  have nF : a ≠ F := fun z => by rw [z, hF] at na; cases na
  refine for_it (walk_list (K := K) (a := a) (xs := svs rows)) (fun j σ' H' => ∃ v, σ' = σ.set i v ∧ But [F] H H' ∧ H' a = some (.lst (svs rows)) ∧ H' F = some (.lst (svs (ls ++ (rows.take j).map f)))) ⟨v0, h0.symm, But.of b1, e1, by rw [b1.at hF]; simp⟩
    (fun j σ' H' _ ⟨_, _, _, z, _⟩ => SqL.of z) (fun j x σ' H2 H2' hj ⟨v, es, b2, ha2, hF2⟩ y => ?_) (fun σ' H2 ⟨v, es, b2, ha2, hF2⟩ => ?_)
  · obtain ⟨rfl, hx⟩ := y
    obtain ⟨row, hrow, rfl⟩ := svs_get hx
    subst es
    have e2 : (σ.set i v).set i (some (sv row)) = σ.set i (some (sv row)) := List.set_set ..
    have ln : j < rows.length := (List.getElem?_eq_some_iff.mp hrow).1
    show tDrop (tBM K "list" rAppend (tVar fi) (tCons te tNil)) _ ((σ.set i v).set i (some (sv row))) H2'
    rw [e2]
    refine st_app (F := F) (ls := ls ++ (rows.take j).map f) (l := f row) (by rw [List.getElem?_set_ne hne]; exact hσ) hF2 (he row (List.mem_of_getElem? hrow)).gv (by rw [List.length_append, List.length_map, List.length_take]; omega) fun H3 b3 h3 => ⟨_, rfl, b2.trans b3, b3.at1 ha2 nF, ?_⟩
    have st : rows.take (j + 1) = rows.take j ++ [row] := by rw [List.take_add_one, hrow]; rfl
    rw [h3, st, List.map_append, List.append_assoc]; rfl
  · subst es
    rw [svs_len, List.take_length] at hF2
    exact k H2 v b2 hF2
theorem PairR.keep {H H' : Hp} {v : V} {p : Nat × List T} {xs : List V} (h : PairR F H v p) (b : But [F] H H') (hF : H F = some (.lst xs)) : PairR F H' v p := by
  obtain ⟨a, l, e, h1, h2, h3⟩ := h
  exact ⟨a, l, e, b.at1 h1 (fun z => by rw [z, hF] at h1; cases h1), b.at1 h2 h3, h3⟩
theorem FoundR.keep {H H' : Hp} (h : FoundR H F ps) (b : But [] H H') : FoundR H' F ps := by
  obtain ⟨vs, e, h⟩ := h
  exact ⟨vs, b.at e, h.mono fun _ _ z => z.keep (But.of b) e⟩
theorem lst1 {Q : VK} (h : te σ H fun x H1 => [x].length ≤ sizeLine ∧ ∀ p, H1 p = none → Q (.ref p) (upd H1 p (.lst [x]))) : tLst (tCons te tNil) σ H Q := h
/-- a new pair -/
theorem mk_pair {texts : List T} {Q : VK} (ht : MkL tl σ H texts) (q : ∀ H' a l, But [] H H' → H a = none → H l = none → H' a = some (.tup [.int (d : Nat), .ref l]) → H' l = some (.lst (svs texts)) → Q (.ref a) H') : tTup (tCons (tC (.int (d : Nat))) (tCons tl tNil)) σ H Q :=
  ht _ fun H1 l b nl e => ⟨szl (by simp), fun a ha => q _ a l (b.put0 (b.free ha (by simp))) (b.free ha (by simp)) nl upd_same ((newB ha).at e)⟩
theorem st_pair {texts : List T} (hσ : σ[fi]? = some (some (.ref F))) (hF : FoundR H F ps) (ht : MkL tl σ H texts) (k : ∀ H', But [F] H H' → FoundR H' F (ps ++ [(d, texts)]) → D.nx σ H') (hz : ps.length ≤ 1000 := by first | decide | simp) :
    tDrop (tBM K "list" rAppend (tVar fi) (tCons (tTup (tCons (tC (.int (d : Nat))) (tCons tl tNil))) tNil)) D σ H := by
  obtain ⟨vs, e, h⟩ := hF
  refine ⟨_, hσ, tyLs e, mk_pair ht fun H1 a l b na nl ha hl => ⟨F, vs, .ref a, rfl, rfl, b.at e, szt (by have := h.1; omega), ?_⟩⟩
  have nlF : l ≠ F := fun z => by rw [z, e] at nl; cases nl
  have naF : a ≠ F := fun z => by rw [z, e] at na; cases na
  have b1 : But [F] H (upd H1 F (.lst (vs ++ [.ref a]))) := (But.of b).put (by simp)
  exact k _ b1 ⟨_, upd_same, (h.mono fun _ _ z => z.keep b1 e).snoc ⟨a, l, rfl, by rw [upd_ne naF]; exact ha, by rw [upd_ne nlF]; exact hl, nlF⟩⟩
theorem st_pair0 {texts : List T} (ht : MkL tl σ H texts) (k : ∀ H' F, But [] H H' → H F = none → FoundR H' F [(d, texts)] → D.nx (σ.set fi (some (.ref F))) H') :
    tAsg (tLst (tCons (tTup (tCons (tC (.int (d : Nat))) (tCons tl tNil))) tNil)) (gName fi) D σ H :=
  show tLst (tCons (tTup (tCons (tC (.int (d : Nat))) (tCons tl tNil))) tNil) σ H _ from lst1 <| mk_pair ht fun H1 a l b na nl ha hl => ⟨szl (by simp), fun F hF => by
    have b1 : But [] H1 (upd H1 F (.lst [.ref a])) := newB hF
    have nlF : l ≠ F := fun z => by rw [← z, hl] at hF; cases hF
    exact k _ F (b.trans b1) (b.free hF (by simp)) ⟨_, upd_same, (Each.nil (R := PairR F _)).snoc ⟨a, l, rfl, b1.at ha, b1.at hl, nlF⟩⟩⟩
theorem st_pairR {texts : List T} (hσ : σ[fi]? = some (some (.ref F))) (hF : FoundR H F ps) (ht : MkL tl σ H texts) (k : ∀ H' R, But [] H H' → FoundR H' R (ps ++ [(d, texts)]) → D.rt (.ref R) H') (hz : ps.length ≤ 1000 := by first | decide | simp) :
    tRet (tOp rCat (tVar fi) (tLst (tCons (tTup (tCons (tC (.int (d : Nat))) (tCons tl tNil))) tNil))) D σ H := by
  obtain ⟨vs, e, h⟩ := hF
  refine ⟨_, hσ, ?_⟩
  show tLst (tCons (tTup (tCons (tC (.int (d : Nat))) (tCons tl tNil))) tNil) σ H _
  refine lst1 <| mk_pair ht fun H1 a l b na nl ha hl => ⟨szl (by simp), fun G hG => ?_⟩
  have b1 : But [] H1 (upd H1 G (.lst [.ref a])) := newB hG
  refine ⟨F, G, vs, [.ref a], rfl, rfl, b1.at (b.at e), upd_same, szl (by have := h.1; simp; omega), fun R hR => ?_⟩
  have b2 : But [] (upd H1 G (.lst [.ref a])) (upd (upd H1 G (.lst [.ref a])) R (.lst (vs ++ [.ref a]))) := newB hR
  have b3 := (b.trans b1).trans b2
  have ne : ∀ {x : Addr} {o : HO}, H1 x = some o → x ≠ R := fun {x o} q z => by rw [← z, b1.at q] at hR; cases hR
  refine k _ R b3 ⟨_, upd_same, ?_⟩
  have h2 : Each (PairR R (upd (upd H1 G (.lst [.ref a])) R (.lst (vs ++ [.ref a])))) vs ps := h.mono fun _ _ ⟨x, y, q1, q2, q3, _⟩ => ⟨x, y, q1, b3.at q2, b3.at q3, ne (b.at q3)⟩
  exact h2.snoc ⟨a, l, rfl, b2.at (b1.at ha), b2.at (b1.at hl), ne hl⟩
end
end Cn
namespace Cn
open PySem L2
def upT (l : T) : T := l.map (· - 32)
abbrev upR : V → List V → Hp → VK → Prop := fun x xs H Q => ∃ a, x = V.str a ∧ xs = [] ∧ a.length ≤ 5592405 ∧ Q (V.str (Txt.upper a)) H
section
variable {K : PySem.W.Frag} {σ : L2.St} {H : Hp} {ta tb te tl : TE} {t u : TS} {l : T} {ls : List T} {n i j : Nat} {D : Ends}
theorem Pt.upper (h : Pt te σ l n) (hup : Txt.upper (S l) = S (upT l)) (hz : n ≤ 5592405 := by decide) : Pt (tM0 upR te) σ (upT l) n := by
  refine ⟨by unfold upT; rw [List.length_map]; exact h.1, fun H Q q => h.2 H _ ⟨⟨_, rfl⟩, S l, rfl, rfl, ?_, ?_⟩⟩
  · rw [S_len]; have := h.1; omega
  · rw [hup]; exact q
theorem sq (h : t { D with nx := u D } σ H) : tSeq t u D σ H := h
theorem st_txt (h : Pt te σ l n) (k : D.nx (σ.set i (some (sv l))) H) : tAsg te (gName i) D σ H := h.2 H _ k
theorem st_mk (h : MkL te σ H ls) (k : ∀ H' a, But [] H H' → H a = none → H' a = some (.lst (svs ls)) → D.nx (σ.set i (some (.ref a))) H') : tAsg te (gName i) D σ H := h _ k
theorem st_ret (h : MkL te σ H ls) (k : ∀ H' a, But [] H H' → H a = none → H' a = some (.lst (svs ls)) → D.rt (.ref a) H') : tRet te D σ H := h _ k
theorem st_two {a b : V} (k : ∀ H', But [] H H' → D.nx ((σ.set i (some a)).set j (some b)) H') : tAsg (tTup (tCons (tC a) (tCons (tC b) tNil))) (gTup K 2 (gCons (gName i) (gCons (gName j) gNil))) D σ H :=
  ⟨szl (by simp), fun p hp => ⟨p, [a, b], rfl, SqT.of upd_same, rfl, _, _, rfl, _, _, rfl, rfl, k _ (newB hp)⟩⟩
end
end Cn
namespace Cn
open PySem L2
section
variable {K : PySem.W.Frag} {σ : L2.St} {H : Hp} {ta tb te tl : TE} {u : TS} {l : T} {ls : List T} {n i j fi : Nat} {D : Ends} {F : Addr} {ps : List (Nat × List T)} {d : Nat}
theorem sq_txt (h : Pt te σ l n) (k : u D (σ.set i (some (sv l))) H) : tSeq (tAsg te (gName i)) u D σ H := h.2 H _ k
theorem sq_mk (h : MkL te σ H ls) (k : ∀ H' a, But [] H H' → H a = none → H' a = some (.lst (svs ls)) → u D (σ.set i (some (.ref a))) H') : tSeq (tAsg te (gName i)) u D σ H := h _ k
theorem sq_two {a b : V} (k : ∀ H', But [] H H' → u D ((σ.set i (some a)).set j (some b)) H') : tSeq (tAsg (tTup (tCons (tC a) (tCons (tC b) tNil))) (gTup K 2 (gCons (gName i) (gCons (gName j) gNil)))) u D σ H := st_two (D := { D with nx := u D }) k
theorem sq_app (hσ : σ[fi]? = some (some (.ref F))) (hF : H F = some (.lst (svs ls))) (ht : GvT te σ H l) (hz : ls.length ≤ 1000) (k : ∀ H', But [F] H H' → H' F = some (.lst (svs (ls ++ [l]))) → u D σ H') :
    tSeq (tDrop (tBM K "list" rAppend (tVar fi) (tCons te tNil))) u D σ H := st_app (D := { D with nx := u D }) hσ hF ht hz k
theorem sq_for {rows : List T} {f : T → T} {v0 : Option V} (h : MkL tl σ H rows) (he : ∀ row ∈ rows, Pt te (σ.set i (some (sv row))) (f row) n) (hσ : σ[fi]? = some (some (.ref F))) (hne : i ≠ fi) (h0 : σ.set i v0 = σ) (hF : H F = some (.lst (svs ls))) (hz : ls.length + rows.length ≤ 1000)
    (k : ∀ H' v, But [F] H H' → H' F = some (.lst (svs (ls ++ rows.map f))) → u D (σ.set i v) H') :
    tSeq (tFor (iList K tl) (gName i) (tDrop (tBM K "list" rAppend (tVar fi) (tCons te tNil)))) u D σ H := st_for (D := { D with nx := u D }) h he hσ hne h0 hF hz k
theorem sq_pair {texts : List T} (hσ : σ[fi]? = some (some (.ref F))) (hF : FoundR H F ps) (ht : MkL tl σ H texts) (k : ∀ H', But [F] H H' → FoundR H' F (ps ++ [(d, texts)]) → u D σ H') (hz : ps.length ≤ 1000 := by first | decide | simp) :
    tSeq (tDrop (tBM K "list" rAppend (tVar fi) (tCons (tTup (tCons (tC (.int (d : Nat))) (tCons tl tNil))) tNil))) u D σ H := st_pair (D := { D with nx := u D }) hσ hF ht k hz
theorem sq_pair0 {texts : List T} (ht : MkL tl σ H texts) (k : ∀ H' F, But [] H H' → H F = none → FoundR H' F [(d, texts)] → u D (σ.set fi (some (.ref F))) H') :
    tSeq (tAsg (tLst (tCons (tTup (tCons (tC (.int (d : Nat))) (tCons tl tNil))) tNil)) (gName fi)) u D σ H := st_pair0 (D := { D with nx := u D }) ht k
end
end Cn
set_option Elab.async false
set_option linter.all false
set_option maxRecDepth 100000
set_option maxHeartbeats 2000000
/-! Cn.B11: a text some times, none too; pairs of locals. -/
namespace Cn
open PySem L2
section
variable {X : Cx}
theorem op_repZ : OpR X (binaryOp .Mult) (fun x y H Q => ∃ (a : T) (n : Nat), x = sv a ∧ y = .int (n : Int) ∧ n ≤ 100000 ∧ a.length ≤ 100 ∧ a ≠ [] ∧ Q (sv (repT n a)) H) := by
  intro pins s σ H x y v u Q I rx ry h
  obtain ⟨a, n, rfl, rfl, h2, h3, h4, q⟩ := h
  by_cases h1 : 1 ≤ n
  · exact op_repS pins s σ H _ _ v u Q I rx ry ⟨a, n, rfl, rfl, h1, h2, h3, h4, q⟩
  · obtain rfl : n = 0 := by omega
    obtain ⟨t, rfl⟩ := rx
    obtain ⟨t', rfl⟩ := ry
    refine PySem.P.mul_str_none (by decide) (by decide) ?_
    have e : repT 0 a = [] := rfl
    rw [e] at q
    exact ⟨sv [], H, I.tok _, ⟨_, rfl⟩, q⟩
end
end Cn
namespace Cn
open PySem L2
def PvI (tb : TE) (σ : L2.St) (n : Nat) : Prop := ∀ (H : Hp) (Q : VK), Q (.int (n : Nat)) H → tb σ H Q
abbrev repZ : R2 := fun x y H Q => ∃ (a : T) (n : Nat), x = sv a ∧ y = V.int (n : Int) ∧ n ≤ 100000 ∧ a.length ≤ 100 ∧ a ≠ [] ∧ Q (sv (repT n a)) H
section
variable {K : PySem.W.Frag} {σ : L2.St} {H : Hp} {ta tb te tl : TE} {u : TS} {l : T} {ls : List T} {n m i j k : Nat} {D : Ends}
theorem Pt.repk (h : Pt te σ l k) (hv : PvI tb σ n) (hn : n ≤ m) (hm : m ≤ 100000 := by decide) (hk : k ≤ 100 := by decide) (h4 : l ≠ [] := by decide) : Pt (tOp repZ te tb) σ (repT n l) (m * k) :=
  ⟨by rw [repT_len]; exact Nat.mul_le_mul hn h.1, fun H Q q => h.2 H _ (hv H _ ⟨l, n, rfl, rfl, by omega, by have := h.1; omega, h4, q⟩)⟩
theorem svs_atI {L : List T} {n : Nat} {r : T} (h : L[n]? = some r) : atI (svs L) (n : Int) = some (sv r) := atI_nat (svs_at h)
theorem sq_ixl (h : MkL tl σ H ls) (hv : σ[j]? = some (some (.int (n : Nat)))) (hx : ls[n]? = some l) (k : ∀ H', But [] H H' → u D (σ.set i (some (sv l))) H') : tSeq (tAsg (tOp (rIxL K) tl (tVar j)) (gName i)) u D σ H :=
  h _ fun H1 a b na e => ⟨_, hv, a, svs ls, (n : Nat), _, rfl, rfl, SqL.of e, svs_atI hx, k H1 b⟩
end
end Cn
set_option Elab.async false
set_option linter.all false
set_option maxRecDepth 100000
set_option maxHeartbeats 400000
/-! texts cut at a sign and joined again -/
namespace Cn
open PySem L2
theorem splitC_cons (c : Nat) : ∀ (p r : T), c ∉ p → splitC c (p ++ c :: r) = p :: splitC c r
  | [], r, _ => by simp [splitC]
  | x :: p, r, h => by
    have hx : ¬ (x == c) = true := fun z => h (by rw [eq_of_beq z]; simp)
    have ih := splitC_cons c p r fun z => h (List.mem_cons_of_mem _ z)
    rw [List.cons_append]
    show (if (x == c) = true then [] :: splitC c (p ++ c :: r) else match splitC c (p ++ c :: r) with
      | [] => [[x]]
      | h :: t => (x :: h) :: t) = _
    rw [if_neg hx, ih]
theorem splitC_one (c : Nat) : ∀ p : T, c ∉ p → splitC c p = [p]
  | [], _ => by simp [splitC]
  | x :: p, h => by
    have hx : ¬ (x == c) = true := fun z => h (by rw [eq_of_beq z]; simp)
    have ih := splitC_one c p fun z => h (List.mem_cons_of_mem _ z)
    unfold splitC
    rw [if_neg hx, ih]
theorem split_join (c : Nat) : ∀ rows : List T, rows ≠ [] → (∀ r ∈ rows, c ∉ r) → splitC c (joinT [c] rows) = rows
  | [], h, _ => absurd rfl h
  | [p], _, h => by
    show splitC c p = [p]
    exact splitC_one c p (h p (by simp))
  | p :: q :: r, _, h => by
    show splitC c (p ++ ([c] ++ joinT [c] (q :: r))) = _
    rw [List.singleton_append, splitC_cons c p _ (h p (by simp)), split_join c (q :: r) (by simp) fun x hx => h x (List.mem_cons_of_mem _ hx)]
end Cn
set_option Elab.async false
set_option linter.all false
set_option maxRecDepth 100000
set_option maxHeartbeats 1000000
/-! the round trip: the rows of tables that keep the rules are read back -/
namespace Cn
theorem drop_at {L rest : List T} {n : Nat} {r : T} (h : L.drop n = r :: rest) : L[n]? = some r ∧ L.drop (n + 1) = rest := by
  refine ⟨?_, ?_⟩
  · have : (L.drop n)[0]? = some r := by rw [h]; rfl
    rwa [List.getElem?_drop, Nat.add_zero] at this
  · rw [← List.drop_drop, h]; rfl
theorem drop_head {L post : List T} {n : Nat} (h : L.drop n = post) : L[n]? = post.head? := by
  have : (L.drop n)[0]? = post.head? := by rw [h]; cases post <;> rfl
  rwa [List.getElem?_drop, Nat.add_zero] at this
/-- the next row does not begin so -/
def NotB (st : T) (post : List T) : Prop := ∀ r, post.head? = some r → isPre st r = false
theorem begins_no {L post : List T} {n : Nat} {st : T} (h : L.drop n = post) (nb : NotB st post) : begins L n st = false := by
  unfold begins
  rw [drop_head h]
  cases q : post.head? with
  | none => rfl
  | some r => exact nb r q
theorem isPre_app (a b : T) : isPre a (a ++ b) = true := by rw [isPre_take]; simp
theorem begins_yes {L rest : List T} {n : Nat} {st w : T} (h : L.drop n = (st ++ w) :: rest) : begins L n st = true := by
  unfold begins
  rw [(drop_at h).1]; exact isPre_app st w
theorem words_at {L rest : List T} {n : Nat} {st w : T} (h : L.drop n = (st ++ w) :: rest) : words L n st = some (splitC 32 w) := by
  unfold words
  rw [(drop_at h).1]
  show (if isPre st (st ++ w) = true then some (splitC 32 ((st ++ w).drop st.length)) else none) = _
  rw [if_pos (isPre_app st w), List.drop_left]
theorem name_signs {w : T} (h : isName w = true) : 32 ∉ w ∧ w ≠ [] ∧ 10 ∉ w := by
  unfold isName at h
  simp only [Bool.and_eq_true, decide_eq_true_eq, List.all_eq_true] at h
  obtain ⟨h1, h2, h3⟩ := h
  refine ⟨fun z => ?_, fun z => by rw [z] at h1; simp at h1, fun z => ?_⟩
  · have := h3 _ z; omega
  · have := h3 _ z; omega
theorem name_at {L rest : List T} {n : Nat} {st w : T} {taken : List T} (h : L.drop n = (st ++ w) :: rest) (hw : isName w = true) (hn : w ∉ taken) : newName L n st taken = .ok w := by
  unfold newName
  rw [words_at h, splitC_one 32 w (name_signs hw).1]
  have e : taken.contains w = false := by
    cases q : taken.contains w with
    | false => rfl
    | true => exact absurd (List.contains_iff_mem.mp q) hn
  show (if (([w] : List T).length == 1 && (isName w && !taken.contains w)) = true then (.ok w : Except Nat T) else .error n) = _
  rw [hw, e]; rfl
theorem cols_rt {L post : List T} : ∀ (rest : List T) (f n : Nat) (acc : List T), L.drop n = rest.map (fun c => kColumn ++ c) ++ post → NotB kColumn post → (∀ c ∈ rest, isName c = true) → (acc ++ rest).Nodup → (acc ++ rest).length ≤ 5 → acc ++ rest ≠ [] → f + acc.length = 6 →
    colsLoop L f n acc = .ok (acc ++ rest, n + rest.length)
  | [], f, n, acc, hL, nb, _, _, h5, h0, hf => by
    rw [List.append_nil] at h5 h0 ⊢
    obtain ⟨f, rfl⟩ : ∃ g, f = g + 1 := ⟨f - 1, by omega⟩
    unfold colsLoop
    have e1 : acc.isEmpty = false := by cases acc with
      | nil => exact absurd rfl h0
      | cons _ _ => rfl
    rw [e1, begins_no (by simpa using hL) nb]; rfl
  | c :: rest, f, n, acc, hL, nb, hn, hd, h5, h0, hf => by
    have l5 : acc.length + 1 ≤ 5 := by simp at h5; omega
    obtain ⟨f, rfl⟩ : ∃ g, f = g + 1 := ⟨f - 1, by omega⟩
    have hL2 : L.drop n = (kColumn ++ c) :: (rest.map (fun c => kColumn ++ c) ++ post) := hL
    have hc : c ∉ acc := fun z => (List.nodup_append.mp hd).2.2 c z c List.mem_cons_self rfl
    have e2 : acc ++ [c] ++ rest = acc ++ c :: rest := by simp
    have ih := cols_rt rest f (n + 1) (acc ++ [c]) (drop_at hL2).2 nb (fun x hx => hn x (List.mem_cons_of_mem _ hx)) (by rw [e2]; exact hd) (by rw [e2]; exact h5) (by rw [e2]; exact h0) (by simp; omega)
    unfold colsLoop
    rw [begins_yes hL2, Bool.or_true, if_pos rfl, name_at hL2 (hn c List.mem_cons_self) hc]
    show (if acc.length + 1 ≤ 5 then colsLoop L f (n + 1) (acc ++ [c]) else _) = _
    rw [if_pos l5, ih, e2, List.length_cons]
    congr 2
    omega
theorem split_words (ks : List T) (h : ks ≠ []) (hn : ∀ c ∈ ks, 32 ∉ c) : splitC 32 (joinT [32] ks) = ks := split_join 32 ks h hn
theorem keys_rt {L post cols : List T} (hcols : ∀ c ∈ cols, isName c = true) : ∀ (rest : List (List T)) (f n : Nat) (acc : List (List T)), L.drop n = rest.map (fun k => kKey ++ joinT [32] k) ++ post → NotB kKey post → (∀ k ∈ rest, k ≠ [] ∧ k.length ≤ 3 ∧ areDiff k cols = true) →
    (acc ++ rest).Pairwise (fun o k => hasAll k o = false ∧ hasAll o k = false) → (acc ++ rest).length ≤ 3 → acc ++ rest ≠ [] → f + acc.length = 4 → keysLoop L cols f n acc = .ok (acc ++ rest, n + rest.length)
  | [], f, n, acc, hL, nb, _, _, h5, h0, hf => by
    rw [List.append_nil] at h5 h0 ⊢
    obtain ⟨f, rfl⟩ : ∃ g, f = g + 1 := ⟨f - 1, by omega⟩
    unfold keysLoop
    have e1 : acc.isEmpty = false := by cases acc with
      | nil => exact absurd rfl h0
      | cons _ _ => rfl
    rw [e1, begins_no (by simpa using hL) nb]; rfl
  | k :: rest, f, n, acc, hL, nb, hk, hp, h5, h0, hf => by
    have l5 : acc.length + 1 ≤ 3 := by simp at h5; omega
    obtain ⟨f, rfl⟩ : ∃ g, f = g + 1 := ⟨f - 1, by omega⟩
    have hL2 : L.drop n = (kKey ++ joinT [32] k) :: (rest.map (fun k => kKey ++ joinT [32] k) ++ post) := hL
    obtain ⟨k0, k3, kd⟩ := hk k List.mem_cons_self
    have kin : ∀ c ∈ k, c ∈ cols := fun c hc => by
      unfold areDiff hasAll at kd
      exact List.contains_iff_mem.mp (List.all_eq_true.mp (Bool.and_eq_true_iff.mp kd).2 c hc)
    have no : (acc.any fun o => hasAll k o || hasAll o k) = false := by
      cases q : acc.any fun o => hasAll k o || hasAll o k with
      | false => rfl
      | true =>
        obtain ⟨o, ho, e⟩ := List.any_eq_true.mp q
        have := (List.pairwise_append.mp hp).2.2 o ho k List.mem_cons_self
        rw [this.1, this.2] at e
        cases e
    have e2 : acc ++ [k] ++ rest = acc ++ k :: rest := by simp
    have ih := keys_rt hcols rest f (n + 1) (acc ++ [k]) (drop_at hL2).2 nb (fun x hx => hk x (List.mem_cons_of_mem _ hx)) (by rw [e2]; exact hp) (by rw [e2]; exact h5) (by rw [e2]; exact h0) (by simp; omega)
    have ew : words L n kKey = some k := by rw [words_at hL2, split_words k k0 fun c hc => (name_signs (hcols c (kin c hc))).1]
    unfold keysLoop
    rw [begins_yes hL2, Bool.or_true, if_pos rfl, ew]
    show (if (decide (k.length ≤ 3) && areDiff k cols) = true then (if (acc.any fun o => hasAll k o || hasAll o k) = true then _ else if acc.length + 1 ≤ 3 then keysLoop L cols f (n + 1) (acc ++ [k]) else _) else _) = _
    rw [kd, decide_eq_true k3, Bool.and_self, if_pos rfl, no, if_neg Bool.false_ne_true, if_pos l5, ih, e2, List.length_cons]
    congr 2
    omega
end Cn
set_option Elab.async false
set_option linter.all false
set_option maxRecDepth 100000
set_option maxHeartbeats 1000000
/-! the round trip: references, tables, schemas -/
namespace Cn
theorem joinT_two (s a b : T) : ∀ ks : List T, ks ≠ [] → joinT s (ks ++ [a, b]) = joinT s ks ++ (s ++ (a ++ (s ++ b)))
  | [], h => absurd rfl h
  | [p], _ => by simp [joinT]
  | p :: q :: r, _ => by
    have ih := joinT_two s a b (q :: r) (by simp)
    show p ++ (s ++ joinT s (q :: r ++ [a, b])) = (p ++ (s ++ joinT s (q :: r))) ++ _
    rw [ih]
    simp only [List.append_assoc]
theorem refRow_eq (r : List T × T × Bool) (h : r.1 ≠ []) : refRow r = refStart r.2.2 ++ joinT [32] (r.1 ++ [kArrow, r.2.1]) := by
  rw [joinT_two _ _ _ _ h]
  obtain ⟨cs, tg, b⟩ := r
  cases b <;> simp [refRow, refStart, kRef, kOpt, kArrow]
/-- a reference that the rules allow -/
structure OkR (t : Tbl) (above : List Tbl) (r : List T × T × Bool) : Prop where
  ne : r.1 ≠ []
  names : isName r.2.1 = true
  fit : fits (foundIn r.2.2 t above r.2.1) r.1 = true
  diff : areDiff r.1 t.cols = true
  free : barred r.2.2 t r.1 = false
theorem opt_no (w : T) : isPre kRef (kOpt ++ w) = false := by rfl
theorem ref_no (w : T) : isPre kOpt (kRef ++ w) = false := by rfl
theorem getD_two {ks : List T} {a b : T} : (ks ++ [a, b]).getD ((ks ++ [a, b]).length - 2) [] = a ∧ (ks ++ [a, b]).getD ((ks ++ [a, b]).length - 1) [] = b ∧ (ks ++ [a, b]).take ((ks ++ [a, b]).length - 2) = ks := by
  have l : (ks ++ [a, b]).length = ks.length + 2 := by simp
  refine ⟨?_, ?_, ?_⟩
  · rw [l, Nat.add_sub_cancel, List.getD_eq_getElem?_getD, List.getElem?_append_right (Nat.le_refl _), Nat.sub_self]; rfl
  · rw [l, show ks.length + 2 - 1 = ks.length + 1 by omega, List.getD_eq_getElem?_getD, List.getElem?_append_right (by omega), show ks.length + 1 - ks.length = 1 by omega]; rfl
  · rw [l, Nat.add_sub_cancel, List.take_left]
theorem ref_at {L rest : List T} {n : Nat} {t : Tbl} {above : List Tbl} {r : List T × T × Bool} (hcols : ∀ c ∈ t.cols, isName c = true) (h : L.drop n = refRow r :: rest) (ok : OkR t above r) :
    (begins L n kRef || begins L n kOpt) = true ∧ readRef L n t above = .ok r := by
  rw [refRow_eq r ok.ne] at h
  have eb : begins L n kRef = r.2.2 := by
    unfold begins
    rw [(drop_at h).1]
    cases q : r.2.2 with
    | true => exact isPre_app kRef _
    | false => exact opt_no _
  have ew : words L n (refStart r.2.2) = some (r.1 ++ [kArrow, r.2.1]) := by
    rw [words_at h, split_words _ (by simp) fun c hc => ?_]
    rcases List.mem_append.mp hc with z | z
    · have hin : c ∈ t.cols := by
        have kd := ok.diff
        unfold areDiff hasAll at kd
        exact List.contains_iff_mem.mp (List.all_eq_true.mp (Bool.and_eq_true_iff.mp kd).2 c z)
      exact (name_signs (hcols c hin)).1
    · rcases List.mem_cons.mp z with z | z
      · rw [z]; decide
      · rw [List.mem_singleton.mp z]; exact (name_signs ok.names).1
  refine ⟨?_, ?_⟩
  · cases q : r.2.2 with
    | true => rw [eb, q]; rfl
    | false =>
      have e : begins L n kOpt = true := begins_yes (w := joinT [32] (r.1 ++ [kArrow, r.2.1])) (by rw [h, q]; rfl)
      rw [e, Bool.or_true]
  · unfold readRef
    rw [eb, ew]
    obtain ⟨g1, g2, g3⟩ := getD_two (ks := r.1) (a := kArrow) (b := r.2.1)
    have l3 : 3 ≤ (r.1 ++ [kArrow, r.2.1]).length := by
      have : 0 < r.1.length := List.length_pos_iff.mpr ok.ne
      simp; omega
    simp only [g1, g2, g3, decide_eq_true l3, beq_self_eq_true, Bool.and_self, if_true, ok.fit, ok.diff, ok.free, Bool.false_eq_true, if_false]
theorem refs_rt {L post : List T} {t : Tbl} {above : List Tbl} (hcols : ∀ c ∈ t.cols, isName c = true) : ∀ (rest : List (List T × T × Bool)) (f n : Nat) (acc : List (List T × T × Bool)), L.drop n = rest.map refRow ++ post → NotB kRef post → NotB kOpt post → (∀ r ∈ rest, OkR t above r) →
    (acc ++ rest).Pairwise (fun a b => ∀ c ∈ b.1, c ∉ a.1) → (acc ++ rest).length ≤ 2 → f + acc.length = 3 → refsLoop L t above f n acc = .ok (acc ++ rest, n + rest.length)
  | [], f, n, acc, hL, nb, nb2, _, _, h5, hf => by
    rw [List.append_nil] at h5 ⊢
    obtain ⟨f, rfl⟩ : ∃ g, f = g + 1 := ⟨f - 1, by omega⟩
    have hL : L.drop n = post := by simpa using hL
    unfold refsLoop
    rw [begins_no hL nb, begins_no hL nb2]; rfl
  | r :: rest, f, n, acc, hL, nb, nb2, hk, hp, h5, hf => by
    have l5 : acc.length + 1 ≤ 2 := by simp at h5; omega
    obtain ⟨f, rfl⟩ : ∃ g, f = g + 1 := ⟨f - 1, by omega⟩
    have hL2 : L.drop n = refRow r :: (rest.map refRow ++ post) := hL
    obtain ⟨eb, er⟩ := ref_at hcols hL2 (hk r List.mem_cons_self)
    have no : (r.1.any fun c => (acc.flatMap (·.1)).contains c) = false := by
      cases q : r.1.any fun c => (acc.flatMap (·.1)).contains c with
      | false => rfl
      | true =>
        obtain ⟨c, hc, e⟩ := List.any_eq_true.mp q
        obtain ⟨a, ha, hca⟩ := List.mem_flatMap.mp (List.contains_iff_mem.mp e)
        exact absurd hca ((List.pairwise_append.mp hp).2.2 a ha r List.mem_cons_self c hc)
    have e2 : acc ++ [r] ++ rest = acc ++ r :: rest := by simp
    have ih := refs_rt hcols rest f (n + 1) (acc ++ [r]) (drop_at hL2).2 nb nb2 (fun x hx => hk x (List.mem_cons_of_mem _ hx)) (by rw [e2]; exact hp) (by rw [e2]; exact h5) (by simp; omega)
    unfold refsLoop
    rw [eb, if_pos rfl, er]
    show (if (r.1.any fun c => (acc.flatMap (·.1)).contains c) = true then _ else if acc.length + 1 ≤ 2 then refsLoop L t above f (n + 1) (acc ++ [r]) else _) = _
    rw [no, if_neg Bool.false_ne_true, if_pos l5, ih, e2, List.length_cons]
    congr 2
    omega
/-- a table that the rules allow below the tables above it -/
structure OkT (above : List Tbl) (t : Tbl) : Prop where
  name : isName t.name = true
  new : t.name ∉ above.map (·.name)
  room : above.length < 5
  cols0 : t.cols ≠ []
  cols5 : t.cols.length ≤ 5
  colsN : ∀ c ∈ t.cols, isName c = true
  colsD : t.cols.Nodup
  keys0 : t.keys ≠ []
  keys3 : t.keys.length ≤ 3
  keysK : ∀ k ∈ t.keys, k ≠ [] ∧ k.length ≤ 3 ∧ areDiff k t.cols = true
  keysP : t.keys.Pairwise (fun o k => hasAll k o = false ∧ hasAll o k = false)
  refs2 : t.refs.length ≤ 2
  refsR : ∀ r ∈ t.refs, OkR ⟨t.name, t.cols, t.keys, []⟩ above r
  refsP : t.refs.Pairwise (fun a b => ∀ c ∈ b.1, c ∉ a.1)
theorem refRow_head (r : List T × T × Bool) (h : r.1 ≠ []) : isPre kColumn (refRow r) = false ∧ isPre kKey (refRow r) = false := by
  rw [refRow_eq r h]
  cases r.2.2 <;> exact ⟨rfl, rfl⟩
theorem head_refs {refs : List (List T × T × Bool)} {post : List T} (h : ∀ r ∈ refs, r.1 ≠ []) : ∀ x, (refs.map refRow ++ kEnd :: post).head? = some x → isPre kColumn x = false ∧ isPre kKey x = false := fun x hx => by
  cases refs with
  | nil => cases hx; exact ⟨by decide, by decide⟩
  | cons r rest => cases hx; exact refRow_head r (h r List.mem_cons_self)
theorem table_rt {L post : List T} {n : Nat} {above : List Tbl} {t : Tbl} (ok : OkT above t) (h : L.drop n = tableRows t ++ post) : readTable L n above = .ok (t, n + (tableRows t).length) ∧ L.drop (n + (tableRows t).length) = post := by
  have e0 : L.drop n = (kTable ++ t.name) :: (t.cols.map (fun c => kColumn ++ c) ++ (t.keys.map (fun k => kKey ++ joinT [32] k) ++ (t.refs.map refRow ++ kEnd :: post))) := by
    rw [h]; unfold tableRows; simp
  have e1 := (drop_at e0).2
  have hr : ∀ r ∈ t.refs, r.1 ≠ [] := fun r hr => (ok.refsR r hr).ne
  obtain ⟨k0, ks, hks⟩ : ∃ k0 ks, t.keys = k0 :: ks := by
    cases q : t.keys with
    | nil => exact absurd q ok.keys0
    | cons a b => exact ⟨a, b, rfl⟩
  have c := cols_rt (L := L) (post := t.keys.map (fun k => kKey ++ joinT [32] k) ++ (t.refs.map refRow ++ kEnd :: post)) t.cols 6 (n + 1) [] e1 (fun x hx => by
    rw [hks] at hx
    cases hx
    rfl) ok.colsN (by simpa using ok.colsD) (by simpa using ok.cols5) (by simpa using ok.cols0) rfl
  have e2 : L.drop (n + 1 + t.cols.length) = t.keys.map (fun k => kKey ++ joinT [32] k) ++ (t.refs.map refRow ++ kEnd :: post) := by
    rw [← List.drop_drop, e1]
    rw [show t.cols.length = (t.cols.map (fun c => kColumn ++ c)).length by simp, List.drop_left]
  have k := keys_rt (L := L) (post := t.refs.map refRow ++ kEnd :: post) ok.colsN t.keys 4 (n + 1 + t.cols.length) [] e2 (fun x hx => (head_refs hr x hx).2) ok.keysK (by simpa using ok.keysP) (by simpa using ok.keys3) (by simpa using ok.keys0) rfl
  have e3 : L.drop (n + 1 + t.cols.length + t.keys.length) = t.refs.map refRow ++ kEnd :: post := by
    rw [← List.drop_drop, e2]
    rw [show t.keys.length = (t.keys.map (fun k => kKey ++ joinT [32] k)).length by simp, List.drop_left]
  have r := refs_rt (L := L) (post := kEnd :: post) (t := ⟨t.name, t.cols, t.keys, []⟩) (above := above) ok.colsN t.refs 3 (n + 1 + t.cols.length + t.keys.length) [] e3 (fun x hx => by cases hx; decide) (fun x hx => by cases hx; decide) ok.refsR (by simpa using ok.refsP) (by simpa using ok.refs2) rfl
  have e4 : L.drop (n + 1 + t.cols.length + t.keys.length + t.refs.length) = kEnd :: post := by
    rw [← List.drop_drop, e3]
    rw [show t.refs.length = (t.refs.map refRow).length by simp, List.drop_left]
  have ex : exactly L (n + 1 + t.cols.length + t.keys.length + t.refs.length) kEnd = true := by
    unfold exactly
    rw [(drop_at e4).1]; exact beq_self_eq_true _
  have en := name_at e0 ok.name ok.new
  have ln : n + (tableRows t).length = n + 1 + t.cols.length + t.keys.length + t.refs.length + 1 := by unfold tableRows; simp; omega
  refine ⟨?_, by rw [ln]; exact (drop_at e4).2⟩
  rw [List.nil_append] at c k r
  unfold readTable
  simp only [en, ok.room, if_true, c, k, r, ex, ln]
/-- tables that the rules allow, one below the other -/
inductive OkTs : List Tbl → List Tbl → Prop
  | nil {above : List Tbl} : OkTs above []
  | cons {above : List Tbl} {t : Tbl} {ts : List Tbl} : OkT above t → OkTs (above ++ [t]) ts → OkTs above (t :: ts)
theorem tables_rt {L : List T} : ∀ (ts : List Tbl) (f n : Nat) (acc : List Tbl), OkTs acc ts → L.drop n = ts.flatMap tableRows → n ≤ L.length → acc ++ ts ≠ [] → ts.length < f → tablesLoop L f n acc = .ok (acc ++ ts, L.length)
  | [], f, n, acc, ok, hL, hn, h0, hf => by
    obtain ⟨f, rfl⟩ : ∃ g, f = g + 1 := ⟨f - 1, by omega⟩
    rw [List.append_nil] at h0 ⊢
    have e : n = L.length := by
      have : (L.drop n).length = 0 := by rw [hL]; rfl
      rw [List.length_drop] at this
      omega
    have e1 : acc.isEmpty = false := by cases acc with
      | nil => exact absurd rfl h0
      | cons _ _ => rfl
    unfold tablesLoop
    rw [e, e1, beq_self_eq_true]; rfl
  | t :: ts, f, n, acc, ok, hL, hn, h0, hf => by
    obtain ⟨f, rfl⟩ : ∃ g, f = g + 1 := ⟨f - 1, by omega⟩
    cases ok with
    | cons o1 o2 =>
      have hL2 : L.drop n = tableRows t ++ ts.flatMap tableRows := by rw [hL, List.flatMap_cons]
      obtain ⟨r1, r2⟩ := table_rt o1 hL2
      have ne : n ≠ L.length := fun z => by
        have : (L.drop n).length = 0 := by rw [List.length_drop]; omega
        rw [hL2] at this
        unfold tableRows at this
        simp at this
      have nl : n + (tableRows t).length ≤ L.length := by
        have : (L.drop n).length = (tableRows t).length + (ts.flatMap tableRows).length := by rw [hL2, List.length_append]
        rw [List.length_drop] at this
        omega
      have e2 : acc ++ [t] ++ ts = acc ++ t :: ts := by simp
      have ih := tables_rt ts f _ (acc ++ [t]) o2 r2 nl (by simp) (by simp at hf; omega)
      have eb : (acc.isEmpty || !(n == L.length)) = true := by rw [beq_eq_false_iff_ne.mpr ne]; simp
      unfold tablesLoop
      rw [eb, if_pos rfl, r1]
      show tablesLoop L f (n + (tableRows t).length) (acc ++ [t]) = _
      rw [ih, e2]
/-- the rows of allowed tables are read back -/
theorem parse_rt {ts : List Tbl} (ok : OkTs [] ts) (h0 : ts ≠ []) (h5 : ts.length ≤ 5) : parseRows (ts.flatMap tableRows) = .ok ts := by
  unfold parseRows
  rw [tables_rt ts 6 0 [] ok (by simp) (Nat.zero_le _) (by simpa using h0) (by omega)]
  simp
end Cn
set_option Elab.async false
set_option linter.all false
set_option maxRecDepth 100000
set_option maxHeartbeats 1000000
/-! drawn names: different ones, and names -/
namespace Cn
def signN (first k : Nat) : Nat := 97 + (first + 5 * k) % 26
def wordN (way first : Nat) (tail : T) (k : Nat) : T := if way = 0 then [signN first k] ++ tail else if way = 1 then tail ++ [signN first k] else List.replicate (1 + k / 6) 113 ++ [signN first k]
def oddT : List T := [[116, 97, 98, 108, 101], [99, 111, 108, 117, 109, 110], [107, 101, 121], [101, 110, 100], [114, 101, 102], [111, 112, 116, 105, 111, 110, 97, 108], [119, 97], [119, 98], [119, 99], [119, 100], [119, 101], [119, 102]]
theorem sign_inj {first j k : Nat} (hj : j < 12) (hk : k < 12) (h : signN first j = signN first k) : j = k := by unfold signN at h; omega
theorem word_sign {way first : Nat} {tail : T} {j k : Nat} (h : wordN way first tail j = wordN way first tail k) : signN first j = signN first k := by
  unfold wordN at h
  split at h
  · exact (List.cons.inj h).1
  · split at h
    · have := List.append_cancel_left h
      exact (List.cons.inj this).1
    · have := congrArg List.getLast? h
      simp at this
      exact this
theorem name_ok {w : T} (h0 : w ≠ []) (h8 : w.length ≤ 8) (h : ∀ c ∈ w, 97 ≤ c ∧ c ≤ 122) : isName w = true := by
  unfold isName
  have : 1 ≤ w.length := List.length_pos_iff.mpr h0
  simp only [Bool.and_eq_true, decide_eq_true_eq, List.all_eq_true]
  exact ⟨this, h8, fun c hc => h c hc⟩
theorem word_name {way first : Nat} {tail : T} {k : Nat} (ht : tail.length ≤ 7) (hc : ∀ c ∈ tail, 97 ≤ c ∧ c ≤ 122) (hk : k < 12) : isName (wordN way first tail k) = true := by
  have hs : 97 ≤ signN first k ∧ signN first k ≤ 122 := by unfold signN; omega
  unfold wordN
  split
  · refine name_ok (by simp) (by simp; omega) fun c h => ?_
    rcases List.mem_append.mp h with z | z
    · rw [List.mem_singleton.mp z]; exact hs
    · exact hc c z
  · split
    · refine name_ok (by simp) (by simp; omega) fun c h => ?_
      rcases List.mem_append.mp h with z | z
      · exact hc c z
      · rw [List.mem_singleton.mp z]; exact hs
    · refine name_ok (by simp) (by simp; omega) fun c h => ?_
      rcases List.mem_append.mp h with z | z
      · rw [(List.mem_replicate.mp z).2]; omega
      · rw [List.mem_singleton.mp z]; exact hs
/-- twelve different names -/
structure Names (ws : List T) : Prop where
  len : ws.length = 12
  nd : ws.Nodup
  nm : ∀ w ∈ ws, isName w = true
  noY : ∀ w ∈ ws, w ≠ [121, 122, 121, 122]
theorem word_noY {way first : Nat} {tail : T} {k : Nat} (he : ∃ c, ∀ x ∈ tail, x = c) : wordN way first tail k ≠ [121, 122, 121, 122] := by
  obtain ⟨c, he⟩ := he
  intro z
  unfold wordN at z
  split at z
  · obtain ⟨_, z⟩ := List.cons.inj z
    have z2 : tail = [122, 121, 122] := by simpa using z
    have h1 := he 122 (by rw [z2]; simp)
    have h2 := he 121 (by rw [z2]; simp)
    omega
  · split at z
    · have z1 : tail ++ [signN first k] = [121, 122, 121] ++ [122] := z
      obtain ⟨z2, _⟩ := List.append_inj' z1 rfl
      have h1 := he 122 (by rw [z2]; simp)
      have h2 := he 121 (by rw [z2]; simp)
      omega
    · rw [Nat.add_comm, List.replicate_succ, List.cons_append] at z
      have := (List.cons.inj z).1
      omega
theorem words_ok {way first : Nat} {tail : T} (ht : tail.length ≤ 7) (hc : ∀ c ∈ tail, 97 ≤ c ∧ c ≤ 122) (he : ∃ c, ∀ x ∈ tail, x = c) : Names ((List.range 12).map (wordN way first tail)) := by
  refine ⟨by simp, ?_, fun w hw => ?_, fun w hw => ?_⟩
  · unfold List.Nodup
    rw [List.pairwise_map]
    refine (List.nodup_range (n := 12)).imp_of_mem fun {a b} ha hb ne e => ?_
    exact ne (sign_inj (List.mem_range.mp ha) (List.mem_range.mp hb) (word_sign e))
  · obtain ⟨k, hk, rfl⟩ := List.mem_map.mp hw
    exact word_name ht hc (List.mem_range.mp hk)
  · obtain ⟨k, hk, rfl⟩ := List.mem_map.mp hw
    exact word_noY he
theorem odd_ok : Names oddT := ⟨rfl, by decide, by decide, by decide⟩
end Cn
set_option Elab.async false
set_option linter.all false
set_option maxRecDepth 100000
set_option maxHeartbeats 1000000
/-! drawn keys: the mathematics -/
namespace Cn
open PySem L2
theorem sub_perm {ks ls : List T} {n : Nat} (pm : ks.Perm ls) (hd : ls.Nodup) : (ks.take n).Nodup ∧ ∀ c ∈ ks.take n, c ∈ ls :=
  ⟨(List.take_sublist n ks).nodup (pm.symm.nodup hd), fun c hc => pm.mem_iff.mp ((List.take_sublist n ks).subset hc)⟩
theorem areDiff_of {k cols : List T} (hd : k.Nodup) (hs : ∀ c ∈ k, c ∈ cols) : areDiff k cols = true := by
  unfold areDiff hasAll
  rw [decide_eq_true hd, Bool.true_and]
  exact List.all_eq_true.mpr fun c hc => List.contains_iff_mem.mpr (hs c hc)
theorem areDiff_nd {k cols : List T} (h : areDiff k cols = true) : k.Nodup := by
  unfold areDiff at h
  exact of_decide_eq_true (Bool.and_eq_true_iff.mp h).1
theorem hasAll_iff {a b : List T} : hasAll a b = true ↔ ∀ c ∈ b, c ∈ a := by
  unfold hasAll
  rw [List.all_eq_true]
  exact ⟨fun h c hc => List.contains_iff_mem.mp (h c hc), fun h c hc => List.contains_iff_mem.mpr (h c hc)⟩
theorem filter_len {o k : List T} (ho : o.Nodup) (hk : k.Nodup) : (o.filter fun c => k.contains c).length = (k.filter fun c => o.contains c).length := by
  refine List.Perm.length_eq ((List.perm_ext_iff_of_nodup (List.filter_sublist.nodup ho) (List.filter_sublist.nodup hk)).mpr fun c => ?_)
  rw [List.mem_filter, List.mem_filter, List.contains_iff_mem, List.contains_iff_mem]
  exact ⟨fun h => ⟨h.2, h.1⟩, fun h => ⟨h.2, h.1⟩⟩
theorem filter_full {o k : List T} : (o.filter fun c => k.contains c).length = o.length ↔ hasAll k o = true := by
  rw [List.length_filter_eq_length_iff, hasAll_iff]
  exact ⟨fun h c hc => List.contains_iff_mem.mp (h c hc), fun h c hc => List.contains_iff_mem.mpr (h c hc)⟩
/-- the law's test of two keys -/
theorem shares {o k : List T} (ho : o.Nodup) (hk : k.Nodup) : ((o.filter fun c => k.contains c).length == k.length || (o.filter fun c => k.contains c).length == o.length) = !(!(hasAll k o) && !(hasAll o k)) := by
  have h1 : ((o.filter fun c => k.contains c).length == k.length) = hasAll o k := by
    rw [filter_len ho hk]
    rw [Bool.eq_iff_iff, beq_iff_eq]
    exact filter_full
  have h2 : ((o.filter fun c => k.contains c).length == o.length) = hasAll k o := by
    rw [Bool.eq_iff_iff, beq_iff_eq]
    exact filter_full
  rw [h1, h2]
  cases hasAll o k <;> cases hasAll k o <;> rfl
theorem cutV_to (xs : List V) (n : Nat) : cutV xs none (some (n : Int)) = xs.take n := by
  unfold cutV
  have e1 : HT.sIx xs.length 0 none = 0 := rfl
  rw [e1, HT.sIx_nat, List.drop_zero, Nat.sub_zero]
  by_cases h : n ≤ xs.length
  · rw [Nat.min_eq_left h]
  · rw [Nat.min_eq_right (by omega), List.take_of_length_le (Nat.le_refl _), List.take_of_length_le (by omega)]
theorem inV_two (n x y : Nat) : inV (.int (n : Int)) [.int (x : Int), .int (y : Int)] = (n == x || n == y) := by
  have e : ∀ z : Nat, eqV (.int (z : Int)) (.int (n : Int)) = (n == z) := fun z => by
    show ((z : Int) == (n : Int)) = (n == z)
    by_cases h : n = z
    · subst h; simp
    · rw [beq_eq_false_iff_ne.mpr h]
      exact beq_eq_false_iff_ne.mpr fun q => h (by omega)
  unfold inV
  rw [List.any_cons, List.any_cons, List.any_nil, Bool.or_false, e, e]
end Cn
set_option Elab.async false
set_option linter.all false
set_option maxRecDepth 100000
set_option maxHeartbeats 1000000
/-! drawn references and schemas: the mathematics -/
namespace Cn
open PySem L2
structure RefsOk (t : Tbl) (above : List Tbl) (rs : List (List T × T × Bool)) : Prop where
  len : rs.length ≤ 2
  each : ∀ r ∈ rs, OkR t above r
  apart : rs.Pairwise (fun a b => ∀ c ∈ b.1, c ∉ a.1)
theorem found_one {ts : List Tbl} {tb : Tbl} (hd : (ts.map (·.name)).Nodup) (hm : tb ∈ ts) : (ts.filter fun a => a.name == tb.name) = [tb] := by
  induction ts with
  | nil => cases hm
  | cons x r ih =>
    rw [List.map_cons, List.nodup_cons] at hd
    rcases List.mem_cons.mp hm with z | z
    · subst z
      have e : (r.filter fun a => a.name == tb.name) = [] := by
        rw [List.filter_eq_nil_iff]
        intro a ha q
        exact hd.1 (List.mem_map.mpr ⟨a, ha, eq_of_beq q⟩)
      rw [List.filter_cons, beq_self_eq_true, if_pos rfl, e]
    · have ne : (x.name == tb.name) = false := beq_eq_false_iff_ne.mpr fun q => hd.1 (List.mem_map.mpr ⟨tb, z, q.symm⟩)
      rw [List.filter_cons, ne, if_neg Bool.false_ne_true]
      exact ih hd.2 z
/-- one reference more -/
theorem ref_more {t : Tbl} {above : List Tbl} {rs : List (List T × T × Bool)} {free : List T} {tb : Tbl} {req : Bool} (ok : RefsOk t above rs) (h2 : rs.length < 2) (hd : ((targets req t above).map (·.name)).Nodup) (hm : tb ∈ targets req t above) (hn : isName tb.name = true)
    (hk : (tb.keys.headD []).length ≤ free.length) (h0 : 0 < (tb.keys.headD []).length) (fd : free.Nodup) (fs : ∀ c ∈ free, c ∈ t.cols) (ft : ∀ c ∈ free, c ∉ rs.flatMap (·.1)) (fk : req = false → ∀ c ∈ free, ∀ k ∈ t.keys, c ∉ k) :
    RefsOk t above (rs ++ [(free.take (tb.keys.headD []).length, tb.name, req)]) := by
  have pl : (free.take (tb.keys.headD []).length).length = (tb.keys.headD []).length := by rw [List.length_take]; omega
  have ps : ∀ c ∈ free.take (tb.keys.headD []).length, c ∈ free := fun c hc => List.mem_of_mem_take hc
  refine ⟨by simp; omega, fun r hr => ?_, ?_⟩
  · rcases List.mem_append.mp hr with z | z
    · exact ok.each r z
    · rw [List.mem_singleton.mp z]
      refine ⟨fun q => ?_, hn, ?_, ?_, ?_⟩
      · have q : free.take (tb.keys.headD []).length = [] := q
        rw [q] at pl
        rw [← pl] at h0
        simp at h0
      · show fits ((targets req t above).filter fun a => a.name == tb.name) (free.take (tb.keys.headD []).length) = true
        rw [found_one hd hm]
        show ((tb.keys.headD []).length == (free.take (tb.keys.headD []).length).length) = true
        rw [pl]; exact beq_self_eq_true _
      · exact areDiff_of ((List.take_sublist _ free).nodup fd) fun c hc => fs c (ps c hc)
      · show (!req && t.keys.any (fun k => (free.take (tb.keys.headD []).length).any fun c => k.contains c)) = false
        cases req with
        | true => rfl
        | false =>
          rw [Bool.not_false, Bool.true_and]
          cases q : t.keys.any (fun k => (free.take (tb.keys.headD []).length).any fun c => k.contains c) with
          | false => rfl
          | true =>
            obtain ⟨k, hkk, q⟩ := List.any_eq_true.mp q
            obtain ⟨c, hc, q⟩ := List.any_eq_true.mp q
            exact absurd (List.contains_iff_mem.mp q) (fk rfl c (ps c hc) k hkk)
  · refine List.pairwise_append.mpr ⟨ok.apart, by simp, fun a ha b hb c hc q => ?_⟩
    rw [List.mem_singleton.mp hb] at hc
    exact ft c (ps c hc) (List.mem_flatMap.mpr ⟨a, ha, q⟩)
theorem OkTs.snoc {above ts : List Tbl} {t : Tbl} (h : OkTs above ts) (o : OkT (above ++ ts) t) : OkTs above (ts ++ [t]) := by
  induction h with
  | nil => exact .cons (by simpa using o) .nil
  | cons o1 _ ih => exact .cons o1 (ih (by simpa using o))
/-- a drawn table is allowed -/
theorem table_of {above : List Tbl} {name : T} {cols : List T} {keys : List (List T)} {refs : List (List T × T × Bool)} (hn : isName name = true) (new : name ∉ above.map (·.name)) (room : above.length < 5) (c0 : cols ≠ []) (c5 : cols.length ≤ 5) (cn : ∀ c ∈ cols, isName c = true) (cd : cols.Nodup)
    (k0 : keys ≠ []) (kl : keys.length ≤ 3) (ke : ∀ k ∈ keys, k ≠ [] ∧ k.length ≤ 3 ∧ areDiff k cols = true) (kp : keys.Pairwise (fun o k => hasAll k o = false ∧ hasAll o k = false)) (rs : RefsOk ⟨name, cols, keys, []⟩ above refs) : OkT above ⟨name, cols, keys, refs⟩ :=
  ⟨hn, new, room, c0, c5, cn, cd, k0, kl, ke, kp, rs.len, rs.each, rs.apart⟩
/-- allowed tables keep the bounds -/
theorem wf_all {ts : List Tbl} (ok : OkTs [] ts) (h0 : ts ≠ []) (h5 : ts.length ≤ 5) : ∀ t ∈ ts, WfT t := (parseRows_ok (parse_rt ok h0 h5)).2.2
end Cn
set_option Elab.async false
set_option linter.all false
set_option maxRecDepth 100000
set_option maxHeartbeats 2000000
/-! Cn.B12: a dict from the names of tables to their main keys. -/
namespace Cn
open PySem L2
def dk (ts : List Tbl) (vs : List V) : List (Key × V) := List.zipWith (fun t v => ((Sum.inr (S t.name) : Key), v)) ts vs
theorem dk_none {n : T} : ∀ {ts : List Tbl} {vs : List V}, n ∉ ts.map (·.name) → valV (dk ts vs) (.inr (S n)) = none
  | [], _, _ => rfl
  | _ :: _, [], _ => rfl
  | t :: ts, v :: vs, h => by
    have h1 : ¬ ((Sum.inr (S t.name) : Key) = .inr (S n)) := fun z => h (by have e := S_inj (Sum.inr.inj z); rw [← e]; simp)
    show valV ((_, v) :: dk ts vs) _ = none
    rw [valV_neg h1]
    exact dk_none fun z => h (List.mem_cons_of_mem _ z)
theorem dk_get : ∀ {ts : List Tbl} {vs : List V} {i : Nat} {t : Tbl} {v : V}, (ts.map (·.name)).Nodup → ts[i]? = some t → vs[i]? = some v → valV (dk ts vs) (.inr (S t.name)) = some v
  | [], _, i, _, _, _, h, _ => by simp at h
  | _ :: _, [], i, _, _, _, _, h => by simp at h
  | x :: ts, y :: vs, 0, t, v, nd, h, h2 => by
    simp at h h2
    subst h; subst h2
    exact valV_pos rfl
  | x :: ts, y :: vs, i + 1, t, v, nd, h, h2 => by
    have h : ts[i]? = some t := by simpa using h
    have h2 : vs[i]? = some v := by simpa using h2
    rw [List.map_cons, List.nodup_cons] at nd
    have h1 : ¬ ((Sum.inr (S x.name) : Key) = .inr (S t.name)) := fun z => nd.1 (List.mem_map.mpr ⟨t, List.mem_of_getElem? h, (S_inj (Sum.inr.inj z)).symm⟩)
    show valV ((_, y) :: dk ts vs) _ = _
    rw [valV_neg h1]
    exact dk_get nd.2 h h2
theorem dk_snoc {ts : List Tbl} {vs : List V} {t : Tbl} {v : V} (h : ts.length = vs.length) : dk (ts ++ [t]) (vs ++ [v]) = dk ts vs ++ [(.inr (S t.name), v)] := by
  unfold dk
  rw [List.zipWith_append h]; rfl
theorem dk_keys : ∀ {ts : List Tbl} {vs : List V}, ts.length = vs.length → (dk ts vs).map (·.1) = (ts.map fun t => S t.name).map Sum.inr
  | [], [], _ => rfl
  | [], _ :: _, h => by simp at h
  | _ :: _, [], h => by simp at h
  | t :: ts, v :: vs, h => by
    have ih := dk_keys (ts := ts) (vs := vs) (by simpa using h)
    show Sum.inr (S t.name) :: (dk ts vs).map (·.1) = _
    rw [ih]; rfl
/-- the dict at d -/
def DictR (H : Hp) (d : Addr) (ts : List Tbl) : Prop := ∃ vs, H d = some (.dK (dk ts vs)) ∧ Each (KeyR H) vs (ts.map fun t => t.keys.headD [])
theorem DictR.len {H : Hp} {ts : List Tbl} {vs : List V} (h : Each (KeyR H) vs (ts.map fun t => t.keys.headD [])) : ts.length = vs.length := by
  have := h.1
  rw [List.length_map] at this
  exact this.symm
theorem DictR.put {H : Hp} {d : Addr} {ts : List Tbl} {t : Tbl} {v : V} (h : DictR H d ts) (hn : t.name ∉ ts.map (·.name)) (hv : KeyR H v (t.keys.headD [])) (hz : ts.length ≤ 100) : ∃ H', DPut H d (sv t.name) v H' ∧ But [d] H H' ∧ DictR H' d (ts ++ [t]) := by
  obtain ⟨vs, e, hk⟩ := h
  have l := DictR.len hk
  have b : But [d] H (upd H d (.dK (putK (dk ts vs) (.inr (S t.name)) v))) := But.refl.put (by simp)
  refine ⟨_, DPut.k (k := .inr (S t.name)) e (szt ?_), b, ?_⟩
  · unfold dk
    rw [List.length_zipWith]
    omega
  · have kk : ∀ {x : V} {k : List T}, KeyR H x k → KeyR (upd H d (.dK (putK (dk ts vs) (.inr (S t.name)) v))) x k := fun {x k} ⟨a, q, z⟩ => ⟨a, q, b.at1 z (fun y => by rw [y, e] at z; cases z)⟩
    refine ⟨vs ++ [v], ?_, ?_⟩
    · rw [upd_same, putK_new v (dk_none hn), dk_snoc l]
    · rw [List.map_append]
      exact (hk.mono fun _ _ z => kk z).snoc (kk hv)
theorem DictR.get {H : Hp} {d : Addr} {ts : List Tbl} {t : Tbl} (h : DictR H d ts) (nd : (ts.map (·.name)).Nodup) (hm : t ∈ ts) : ∃ v, DGet H d (sv t.name) (some v) ∧ KeyR H v (t.keys.headD []) := by
  obtain ⟨vs, e, hk⟩ := h
  obtain ⟨i, hi, rfl⟩ := List.getElem_of_mem hm
  have h1 : ts[i]? = some ts[i] := List.getElem?_eq_getElem hi
  have h2 : (ts.map fun t => t.keys.headD [])[i]? = some (ts[i].keys.headD []) := by rw [List.getElem?_map, h1]; rfl
  obtain ⟨v, hv, kv⟩ := hk.atx h2
  have g := dk_get nd h1 hv
  refine ⟨v, ?_, kv⟩
  rw [← g]
  exact DGet.k (k := .inr (S ts[i].name)) e
theorem DictR.keep {H H' : Hp} {l : List Addr} {d : Addr} {ts : List Tbl} (h : DictR H d ts) (b : But l H H') (hd : d ∉ l) (ht : ∀ x ∈ l, ∀ xs, H x ≠ some (.tup xs)) : DictR H' d ts := by
  obtain ⟨vs, e, hk⟩ := h
  exact ⟨vs, b d _ hd e, hk.mono fun _ _ ⟨a, q, z⟩ => ⟨a, q, b a _ (fun y => ht a y _ z) z⟩⟩
end Cn
set_option Elab.async false
set_option linter.all false
set_option maxRecDepth 100000
set_option maxHeartbeats 4000000
/-! the program's text, its promises: words and rows -/
namespace Cn
open PySem L2
def top (i : Nat) : Stmt := PySem.Challenge.pw_countonce_k04_wrong_rows.main.body.getD i (.Pass ⟨0, 0, 0, 0⟩)
abbrev s__wall : Stmt := top 0
abbrev s_InvalidText_init : Stmt := inClass (top 3) 0
abbrev s_UnknownTable_init : Stmt := inClass (top 4) 0
abbrev s_is_name : Stmt := top 6
abbrev s_Rows_init : Stmt := inClass (top 7) 0
abbrev s_Rows_all_read : Stmt := inClass (top 7) 1
abbrev s_Rows_begins : Stmt := inClass (top 7) 2
abbrev s_Rows_words : Stmt := inClass (top 7) 3
abbrev s_Rows_need : Stmt := inClass (top 7) 4
abbrev s_Rows_new_name : Stmt := inClass (top 7) 5
abbrev s_Rows_exactly : Stmt := inClass (top 7) 6
abbrev s_Rows_finish : Stmt := inClass (top 7) 7
abbrev s_Table_init : Stmt := inClass (top 14) 0
abbrev s_Schema_init : Stmt := inClass (top 15) 0
abbrev s_Schema_parse : Stmt := inClass (top 15) 1
abbrev s_Schema_table : Stmt := inClass (top 15) 2
abbrev s_Schema_str : Stmt := inClass (top 15) 3
abbrev s_Schema_eq : Stmt := inClass (top 15) 4
abbrev s_table_rows : Stmt := top 16
abbrev s_read_tables : Stmt := top 17
abbrev s_read_table : Stmt := top 18
abbrev s_read_columns : Stmt := top 19
abbrev s_read_keys : Stmt := top 20
abbrev s_are_different : Stmt := top 21
abbrev s_has_all : Stmt := top 22
abbrev s_read_references : Stmt := top 23
abbrev s_read_reference : Stmt := top 24
abbrev s__law_feed : Stmt := top 26
abbrev s__law_take : Stmt := top 27
abbrev s__law_pick : Stmt := top 28
abbrev s__law_words : Stmt := top 29
abbrev s__law_mixed : Stmt := top 30
abbrev s__law_keys : Stmt := top 31
abbrev s__law_references : Stmt := top 32
abbrev s__law_schema : Stmt := top 33
abbrev s__law_rows : Stmt := top 34
abbrev s__law_is_name : Stmt := top 35
abbrev s__law_are_columns : Stmt := top 36
abbrev s__law_is_key : Stmt := top 37
abbrev s__law_is_reference : Stmt := top 38
abbrev s__law_taken : Stmt := top 39
abbrev s__law_wrong : Stmt := top 40
abbrev s__law_told : Stmt := top 41
abbrev s__law_signs : Stmt := top 42
abbrev s__law_pieces : Stmt := top 43
abbrev s_law : Stmt := top 44
structure Txt (K : PySem.W.Frag) (mg : Str → Option Value) (CR CT CS : Addr) : Prop where
  b_len : mg "len" = none
  b_all : mg "all" = none
  b_any : mg "any" = none
  b_tuple : mg "tuple" = none
  b_list : mg "list" = none
  b_str : mg "str" = none
  b_set : mg "set" = none
  b_isinstance : mg "isinstance" = none
  clR : Cls K CR
  clT : Cls K CT
  clS : Cls K CS
  naR1 : NoAttr K CR "_rows"
  naR2 : NoAttr K CR "_at"
  naT1 : NoAttr K CT "name"
  naT2 : NoAttr K CT "columns"
  naT3 : NoAttr K CT "unique"
  naT4 : NoAttr K CT "refers"
  naS1 : NoAttr K CS "tables"
  naS2 : NoAttr K CS "_text"
  g_Schema : mg "Schema" = some (.ref CS)
  g_Table : mg "Table" = some (.ref CT)
  g_MOST_TABLES : ∃ t, mg "MOST_TABLES" = some (.int 5 t)
  g_MOST_COLUMNS : ∃ t, mg "MOST_COLUMNS" = some (.int 5 t)
  g_MOST_KEYS : ∃ t, mg "MOST_KEYS" = some (.int 3 t)
  g_MOST_KEY_COLUMNS : ∃ t, mg "MOST_KEY_COLUMNS" = some (.int 3 t)
  g_MOST_REFERENCES : ∃ t, mg "MOST_REFERENCES" = some (.int 2 t)
  nT : CT ≠ CR
  nS : CS ≠ CR
  nTS : CT ≠ CS
section
variable {P : Program} {w : World} {K : PySem.W.Frag} {mg : Str → Option Value} {base : Heap} {CR CT CS CI : Addr} {f : Addr} {fd : FuncData}

/-! ### has_all -/
theorem sc_has_all : FnScope ["columns", "others", "other"] ["columns", "others"] (defScope s_has_all) := ⟨rfl, rfl, rfl, by decide +kernel, rfl, by decide +kernel, by decide +kernel⟩
def sp_has_all (K : PySem.W.Frag) : Sp := fun vs H Q _ => ∃ a b cols others, vs = [.ref a, .ref b] ∧ (SqL K H a (svs cols) ∨ SqT K H a (svs cols)) ∧ SqT K H b (svs others) ∧ others.length ≤ 1000001 ∧
  ∀ H', But [] H H' → Q (.bl (hasAll cols others)) H'
theorem ok_has_all (F : Fun K "has_all" "has_all" s_has_all f fd) (T : Txt K mg CR CT CS) : FnOk P w K mg base (L2.CX P w) 1 f fd ["columns", "others"] (sp_has_all K) := by
  refine F.okX sc_has_all (fun vs H Q E h => ?_) (fun cdv A outer s H vs Q E hr h => ?_)
  · obtain ⟨a, b, cols, others, rfl, _⟩ := h
    rfl
  · obtain ⟨a, b, cols, others, rfl, ha, hb, hz, k⟩ := h
    refine ⟨_, (pss_one (ps_ret (pe_callB (cr_allK K rfl (by rfl)) (by rfl) T.b_all (by decide +kernel) (pa_cons (pe_lc (own := [("other", 2)]) (g := gName 2) (tt := tYes) (by rfl) sc_has_all.nd (pi_tupK K rfl (pv 1)) (blkOk_by (own := [("other", 2)]) (N := ["columns", "others", "other"]) (sc := (defScope s_has_all)) (by decide +kernel)) (fun _ _ _ _ _ => (pg_name (i := 2) sc_has_all.nd rfl (Or.inl rfl))) (fun _ _ _ _ _ => pts_nil) (fun _ _ _ _ _ => (pe_cmpR (op_in_seqK K rfl) (pv 2) (pv 0) (by rfl)))) pa_nil)))), ?_⟩
    refine ⟨_, rfl, b, rfl, ⟨_, hb⟩, fun D hD => ?_⟩
    refine lc_pure (svs others) (fun v => some (.bl (inV v (svs cols)))) (walk_tup (K := K) (a := b)) rfl yat (fun acc => sqt_keep (newB hD) hb) (fun i x acc N hx hl hy _ => ?_) ?_
    · obtain ⟨l, hl', rfl⟩ := svs_get hx
      refine ⟨rfl, _, rfl, _, rfl, _, svs cols, rfl, sq_keep (newB hD) ha, rfl, flat_svs cols, lc_put (szt ?_) (hy _ rfl)⟩
      have := (List.getElem?_eq_some_iff.mp hl').1
      omega
    · refine ⟨D, others.map fun o => cols.contains o, rfl, .inl (.inl (by rw [upd_same, in_all])), ?_⟩
      show Q (.bl ((others.map fun o => cols.contains o).all id)) _
      rw [List.all_map]
      exact k _ (newB hD)

/-! ### are_different -/
theorem sc_are_different : FnScope ["words", "columns"] ["words", "columns"] (defScope s_are_different) := ⟨rfl, rfl, rfl, by decide +kernel, rfl, by decide +kernel, by decide +kernel⟩
def sp_are_diff (K : PySem.W.Frag) : Sp := fun vs H Q _ => ∃ a b ws cols, vs = [.ref a, .ref b] ∧ SqT K H a (svs ws) ∧ (SqL K H b (svs cols) ∨ SqT K H b (svs cols)) ∧ ws.length ≤ 4000 ∧
  ∀ H', But [] H H' → Q (.bl (areDiff ws cols)) H'
theorem ok_are_diff (F : Fun K "are_different" "are_different" s_are_different f fd) (T : Txt K mg CR CT CS) (c_has_all : Cal P w K mg base 1 "has_all" (sp_has_all K)) : FnOk P w K mg base (L2.CX P w) 2 f fd ["words", "columns"] (sp_are_diff K) := by
  refine F.okX sc_are_different (fun vs H Q E h => ?_) (fun cdv A outer s H vs Q E hr h => ?_)
  · obtain ⟨a, b, ws, cols, rfl, _⟩ := h
    rfl
  · obtain ⟨a, b, ws, cols, rfl, ha, hb, hz, k⟩ := h
    refine ⟨_, (pss_one (ps_ret (pe_and (pe_cmpR op_eq (p_lenSetK K rfl (by rfl) (by rfl) T.b_len (by rfl) T.b_set (pv 0)) (pe_callB (call_len_seqK K rfl) (by rfl) T.b_len (by decide +kernel) (pa_cons (pv 0) pa_nil)) (nomark _)) (pe_one (p_call E c_has_all hr (by decide) (by rfl) (passX rfl rfl rfl (takes_of rfl rfl rfl rfl)) (pa_cons (pv 1) (pa_cons (pv 0) pa_nil))))))), ?_⟩
    refine ⟨_, rfl, a, ws.map S, rfl, by rw [← svs_str]; exact ha, by rw [List.length_map]; exact hz, _, rfl, a, _, rfl, .inr ha, rfl, _, rfl, ?_⟩
    have e : decide (V.int (((met (ws.map S) (ws.map S).length).length : Nat) : Int) = V.int ((svs ws).length : Nat)) = decide ws.Nodup := by
      rw [svs_len, met_nodup]
    rw [e]
    unfold areDiff at k
    refine ite2 (fun hd => ?_) (fun hd => ?_)
    · rw [hd, Bool.true_and] at k
      exact ⟨_, rfl, _, rfl, b, a, cols, ws, rfl, hb, ha, by omega, k⟩
    · rw [Bool.not_eq_true] at hd
      rw [hd, Bool.false_and] at k
      exact k _ But.refl

/-! ### is_name -/
theorem sc_is_name : FnScope ["word", "letter"] ["word"] (defScope s_is_name) := ⟨rfl, rfl, rfl, by decide +kernel, rfl, by decide +kernel, by decide +kernel⟩
def sp_is_name : Sp := fun vs H Q _ => ∃ l : T, vs = [sv l] ∧ l.length ≤ 1000001 ∧ ∀ H', But [] H H' → Q (.bl (isName l)) H'
theorem ok_is_name (F : Fun K "is_name" "is_name" s_is_name f fd) (T : Txt K mg CR CT CS) : FnOk P w K mg base (L2.CX P w) 1 f fd ["word"] sp_is_name := by
  refine F.okX sc_is_name (fun vs H Q E h => ?_) (fun cdv A outer s H vs Q E hr h => ?_)
  · obtain ⟨l, rfl, _⟩ := h
    rfl
  · obtain ⟨l, rfl, hz, k⟩ := h
    have hz' : (S l).length ≤ sizeLine := szl (by rw [S_len]; omega)
    refine ⟨_, (pss_one (ps_ret (pe_and (pe_chain op_le op_le pe_int (pe_callB call_len_str (by rfl) T.b_len (by decide +kernel) (pa_cons (pv 0) pa_nil)) pe_int) (pe_one (pe_callB (cr_allK K rfl (by rfl)) (by rfl) T.b_all (by decide +kernel) (pa_cons (pe_lc (own := [("letter", 1)]) (g := gName 1) (tt := tYes) (by rfl) sc_is_name.nd (pi_str (pv 0)) (blkOk_by (own := [("letter", 1)]) (N := ["word", "letter"]) (sc := (defScope s_is_name)) (by decide +kernel)) (fun _ _ _ _ _ => (pg_name (i := 1) sc_is_name.nd rfl (Or.inl rfl))) (fun _ _ _ _ _ => pts_nil) (fun _ _ _ _ _ => (pe_chain op_le_str op_le_str pe_str (pv 1) pe_str))) pa_nil)))))), ?_⟩
    unfold isName at k
    refine ⟨_, rfl, _, rfl, hz', 1, ((S l).length : Nat), rfl, rfl, _, rfl, ?_⟩
    rw [S_len]
    refine ite2 (fun h1 => ?_) (fun h1 => ?_)
    · have h1' : 1 ≤ l.length := by have := of_decide_eq_true h1; omega
      rw [decide_eq_true h1', Bool.true_and] at k
      refine ⟨_, 8, rfl, rfl, _, rfl, ?_⟩
      refine ite2 (fun h2 => ?_) (fun h2 => ?_)
      · have h2' : l.length ≤ 8 := by have := of_decide_eq_true h2; omega
        rw [decide_eq_true h2', Bool.true_and] at k
        refine ⟨_, rfl, _, rfl, fun D hD => ?_⟩
        refine lc_pure (chs l) (fun v => match v with | .str z => some (.bl (decide (97 ≤ z.cps.toList.headD 0) && decide (z.cps.toList.headD 0 ≤ 122))) | _ => none) walk_S rfl yat (fun _ => trivial) (fun i x acc N hx hl hy _ => ?_) ?_
        · obtain ⟨c, hc, rfl⟩ : ∃ c, l[i]? = some c ∧ x = .str ⟨#[c]⟩ := by
            unfold chs at hx
            rw [List.getElem?_map] at hx
            cases e : l[i]? with
            | none => rw [e] at hx; cases hx
            | some c => rw [e] at hx; exact ⟨c, rfl, (Option.some.inj hx).symm⟩
          have hl' : acc.length < sizeLine := szt (by have := (List.getElem?_eq_some_iff.mp hc).1; omega)
          refine ⟨rfl, _, rfl, S [97], S [c], rfl, rfl, _, rfl, ?_⟩
          have e1 : (!decide ((S [c]).cps.toList < (S [97]).cps.toList)) = decide (97 ≤ c) := le_sign c 97
          have hy' := hy _ rfl
          rw [e1]
          refine ite2 (fun h3 => ?_) (fun h3 => ?_)
          · refine ⟨S [c], S [122], rfl, rfl, lc_put hl' ?_⟩
            have e2 : (!decide ((S [122]).cps.toList < (S [c]).cps.toList)) = decide (c ≤ 122) := le_sign 122 c
            rw [e2]
            have e3 : (decide (97 ≤ c) && decide (c ≤ 122)) = decide (c ≤ 122) := by rw [h3, Bool.true_and]
            rw [← e3]
            exact hy'
          · refine lc_put hl' ?_
            have e3 : (decide (97 ≤ c) && decide (c ≤ 122)) = false := by rw [Bool.not_eq_true] at h3; rw [h3, Bool.false_and]
            rw [← e3]
            exact hy'
        · refine ⟨D, l.map fun c => decide (97 ≤ c) && decide (c ≤ 122), rfl, .inl (.inl ?_), ?_⟩
          · rw [upd_same]
            congr 2
            unfold chs
            rw [List.filterMap_map, List.map_map, ← filterMap_some]
            rfl
          · show Q (.bl ((l.map fun c => decide (97 ≤ c) && decide (c ≤ 122)).all id)) _
            rw [List.all_map]
            exact k _ (newB hD)
      · have h2' : ¬ l.length ≤ 8 := fun z => h2 (decide_eq_true (by omega))
        rw [decide_eq_false h2', Bool.false_and] at k
        exact k _ But.refl
    · have h1' : ¬ 1 ≤ l.length := fun z => h1 (decide_eq_true (by omega))
      rw [decide_eq_false h1', Bool.false_and] at k
      exact ⟨_, rfl, iteF (k _ But.refl)⟩
end
end Cn
set_option Elab.async false
set_option linter.all false
set_option maxRecDepth 100000
set_option maxHeartbeats 4000000
/-! the class that reads rows -/
namespace Cn
open PySem L2
section
variable {P : Program} {w : World} {K : PySem.W.Frag} {mg : Str → Option Value} {base : Heap} {CR CT CS CI : Addr} {f : Addr} {fd : FuncData}

/-! ### InvalidText.__init__ -/
theorem sc_InvalidText_init : FnScope ["self", "row"] ["self", "row"] (defScope s_InvalidText_init) := ⟨rfl, rfl, rfl, by decide +kernel, rfl, by decide +kernel, by decide +kernel⟩
theorem ok_InvalidText_init (F : Fun K "__init__" "InvalidText.__init__" s_InvalidText_init f fd) (ox : OexC K CI) (na : PySem.W.findIn K (.ref CI) "row" = some none) : FnOk P w K mg base (L2.CX P w) 1 f fd ["self", "row"] (sp_exinit CI "row") := by
  refine F.okX sc_InvalidText_init (fun vs H Q E h => ?_) (fun cdv A outer s H vs Q E hr h => ?_)
  · obtain ⟨a, v, rfl, _⟩ := h
    rfl
  · obtain ⟨a, v, rfl, ha, k⟩ := h
    refine ⟨_, pss_one (ps_ost (pv 0) (pv 1)), ?_⟩
    exact ⟨_, rfl, _, rfl, a, CI, rfl, ox, na, .inl ⟨ha, k⟩⟩

/-! ### Rows.__init__ -/
theorem sc_Rows_init : FnScope ["self", "text"] ["self", "text"] (defScope s_Rows_init) := ⟨rfl, rfl, rfl, by decide +kernel, rfl, by decide +kernel, by decide +kernel⟩
theorem putF_eq1 {a b : Addr} (l : Addr) (n : Int) : putF "_at" (.int n) (putF "_rows" (.ref l) []) = ([("_rows", .ref l), ("_at", .int n)] : List (Str × V)) := by rfl
def sp_Rows_init (CR : Addr) : Sp := fun vs H Q _ => ∃ (p dx : Addr) (t : T), vs = [.ref p, sv t] ∧ H p = some (.ins CR dx []) ∧ t.length ≤ 900000 ∧
  ∀ H', But [p] H H' → (∃ r, RowsAt CR H' p dx r (splitC 10 t) 0) → Q .non H'
theorem ok_Rows_init (F : Fun K "__init__" "Rows.__init__" s_Rows_init f fd) (T : Txt K mg CR CT CS) : FnOk P w K mg base (L2.CX P w) 1 f fd ["self", "text"] (sp_Rows_init CR) := by
  refine F.okX sc_Rows_init (fun vs H Q E h => ?_) (fun cdv A outer s H vs Q E hr h => ?_)
  · obtain ⟨p, dx, t, rfl, _⟩ := h
    rfl
  · obtain ⟨p, dx, t, rfl, hp, hz, k⟩ := h
    refine ⟨_, (pss_cons (ps_fldK K rfl (pv 0) (pe_split (pv 1) pe_str) rfl)
  (pss_one (ps_fldK K rfl (pv 0) pe_int rfl))), ?_⟩
    refine ⟨_, rfl, ⟨_, rfl⟩, S t, S [10], rfl, rfl, rfl, szl (by rw [S_len]; omega), fun l hl => ?_⟩
    have npl : p ≠ l := ne_of_none hp hl
    refine ⟨_, rfl, p, CR, dx, _, rfl, (by rw [upd_ne npl]; exact hp), T.clR, T.naR1, (by show 0 < 1000; decide), _, rfl, p, CR, dx, _, rfl, upd_same, T.clR, T.naR2, (by show 1 < 1000; decide), ?_⟩
    refine k _ ?_ ⟨l, ?_, ?_, ?_, ?_⟩
    · exact ((But.refl.new hl).put (by simp)).put (by simp)
    · rw [upd_same]; rfl
    · rw [upd_ne npl.symm, upd_ne npl.symm, upd_same]
      have e : Txt.split (S t) (S [10]) = (splitC 10 t).map S := split_S 10 (by decide) t
      show some (HO.lst ((Txt.split (S t) (S [10])).map V.str)) = _
      rw [e, svs_str]
    · have := splitC_len 10 t; omega
    · intro r hr'; have := splitC_mem 10 t r hr'; omega

/-! ### all_read, begins -/
theorem sc_Rows_all_read : FnScope ["self"] ["self"] (defScope s_Rows_all_read) := ⟨rfl, rfl, rfl, by decide +kernel, rfl, by decide +kernel, by decide +kernel⟩
theorem sc_Rows_begins : FnScope ["self", "start"] ["self", "start"] (defScope s_Rows_begins) := ⟨rfl, rfl, rfl, by decide +kernel, rfl, by decide +kernel, by decide +kernel⟩
theorem sc_Rows_words : FnScope ["self", "start", "row"] ["self", "start"] (defScope s_Rows_words) := ⟨rfl, rfl, rfl, by decide +kernel, rfl, by decide +kernel, by decide +kernel⟩
theorem sc_Rows_need : FnScope ["self", "holds"] ["self", "holds"] (defScope s_Rows_need) := ⟨rfl, rfl, rfl, by decide +kernel, rfl, by decide +kernel, by decide +kernel⟩
theorem sc_Rows_new_name : FnScope ["self", "start", "taken", "words"] ["self", "start", "taken"] (defScope s_Rows_new_name) := ⟨rfl, rfl, rfl, by decide +kernel, rfl, by decide +kernel, by decide +kernel⟩
theorem sc_Rows_exactly : FnScope ["self", "row"] ["self", "row"] (defScope s_Rows_exactly) := ⟨rfl, rfl, rfl, by decide +kernel, rfl, by decide +kernel, by decide +kernel⟩
theorem rf_rows {l : Addr} {n : Nat} : (rf l n).lookup ("_rows" : Str) = some (.ref l) := by rfl
theorem rf_at {l : Addr} {n : Nat} : (rf l n).lookup ("_at" : Str) = some (.int n) := by rfl
def sp_all_read (CR : Addr) : Sp := fun vs H Q _ => ∃ p dx l L n, vs = [.ref p] ∧ RowsAt CR H p dx l L n ∧ Q (.bl (n == L.length)) H
theorem ok_all_read (F : Fun K "all_read" "Rows.all_read" s_Rows_all_read f fd) (T : Txt K mg CR CT CS) : FnOk P w K mg base (L2.CX P w) 1 f fd ["self"] (sp_all_read CR) := by
  refine F.okX sc_Rows_all_read (fun vs H Q E h => ?_) (fun cdv A outer s H vs Q E hr h => ?_)
  · obtain ⟨p, dx, l, L, n, rfl, _⟩ := h
    rfl
  · obtain ⟨p, dx, l, L, n, rfl, R, k⟩ := h
    obtain ⟨hp, hl, _⟩ := id R
    refine ⟨_, (pss_one (ps_ret (pe_cmpR op_eq (pe_fldK K rfl (pv 0) rfl) (pe_callB (call_len_seqK K rfl) (by rfl) T.b_len (by decide +kernel) (pa_cons (pe_fldK K rfl (pv 0) rfl) pa_nil)) (nomark _)))), ?_⟩
    refine ⟨_, rfl, p, CR, dx, _, _, rfl, hp, T.clR, T.naR2, rf_at, _, rfl, p, CR, dx, _, _, rfl, hp, T.clR, T.naR1, rf_rows, l, _, rfl, .inl (SqL.of hl), rfl, ?_⟩
    have e : decide (V.int (n : Int) = V.int ((svs L).length : Nat)) = (n == L.length) := by
      rw [svs_len]
      by_cases q : n = L.length
      · subst q; simp
      · rw [beq_eq_false_iff_ne.mpr q]
        exact decide_eq_false fun z => q (by injection z with z; omega)
    rw [e]
    exact k
def sp_begins (CR : Addr) : Sp := fun vs H Q _ => ∃ p dx l L n st, vs = [.ref p, sv st] ∧ RowsAt CR H p dx l L n ∧ n ≤ L.length ∧ Q (.bl (begins L n st)) H
theorem svs_ati {L : List T} {n : Nat} {r : T} (h : L[n]? = some r) : atI (svs L) (n : Int) = some (sv r) := atI_nat (svs_at h)
theorem ok_begins (F : Fun K "begins" "Rows.begins" s_Rows_begins f fd) (T : Txt K mg CR CT CS) (c_Rows_all_read : Met P w K mg base 1 CR "all_read" (sp_all_read CR)) : FnOk P w K mg base (L2.CX P w) 2 f fd ["self", "start"] (sp_begins CR) := by
  refine F.okX sc_Rows_begins (fun vs H Q E h => ?_) (fun cdv A outer s H vs Q E hr h => ?_)
  · obtain ⟨p, dx, l, L, n, st, rfl, _⟩ := h
    rfl
  · obtain ⟨p, dx, l, L, n, st, rfl, R, hn, k⟩ := h
    obtain ⟨hp, hl, _⟩ := id R
    refine ⟨_, (pss_one (ps_ret (pe_and (pe_not (p_meth0 E c_Rows_all_read hr (by decide) (passX rfl rfl rfl (takes_of rfl rfl rfl rfl)) (pv 0))) (pe_one (pe_m1 PySem.F.slot_str_startswith PySem.F.type_str_startswith mt_startswith (pe_ix (ix_listK K rfl) (pe_fldK K rfl (pv 0) rfl) (pe_fldK K rfl (pv 0) rfl) (fun _ _ => rfl)) (pv 1)))))), ?_⟩
    refine ⟨_, rfl, p, dx, _, rfl, hp, rfl, p, dx, l, L, n, rfl, R, _, rfl, _, rfl, ?_⟩
    unfold begins at k
    by_cases q : n = L.length
    · have e : (n == L.length) = true := by simp [q]
      rw [e]
      refine iteF ?_
      have e2 : L[n]? = none := by rw [q]; simp
      rw [e2] at k
      exact k
    · have e : (n == L.length) = false := by simp [q]
      rw [e]
      refine iteT ?_
      obtain ⟨r, hr'⟩ : ∃ r, L[n]? = some r := ⟨L[n]'(by omega), List.getElem?_eq_getElem _⟩
      rw [hr'] at k
      refine ⟨_, rfl, p, CR, dx, _, _, rfl, hp, T.clR, T.naR1, rf_rows, _, rfl, p, CR, dx, _, _, rfl, hp, T.clR, T.naR2, rf_at, l, svs L, n, sv r, rfl, rfl, SqL.of hl, svs_ati hr', ⟨_, rfl⟩, _, rfl, S r, S st, rfl, rfl, ?_⟩
      rw [starts_S]
      exact k

/-! ### words -/
def sp_words (CR CI : Addr) : Sp := fun vs H Q E => ∃ p dx l L n st, vs = [.ref p, sv st] ∧ RowsAt CR H p dx l L n ∧ n ≤ L.length ∧ st.length ≤ 100 ∧ match words L n st with
  | none => ErrE CI p H E n
  | some ws => ∀ H' a, But [p] H H' → RowsAt CR H' p dx l L (n + 1) → H a = none → H' a = some (.lst (svs ws)) → Q (.ref a) H'
theorem ok_words (F : Fun K "words" "Rows.words" s_Rows_words f fd) (T : Txt K mg CR CT CS) (c_Rows_begins : Met P w K mg base 2 CR "begins" (sp_begins CR)) (x_InvalidText : Xn P w K mg base 1 "InvalidText" "row" CI) :
    FnOk P w K mg base (L2.CX P w) 3 f fd ["self", "start"] (sp_words CR CI) := by
  refine F.okX sc_Rows_words (fun vs H Q E h => ?_) (fun cdv A outer s H vs Q E hr h => ?_)
  · obtain ⟨p, dx, l, L, n, st, rfl, _⟩ := h
    rfl
  · obtain ⟨p, dx, l, L, n, st, rfl, R, hn, hst, k⟩ := h
    obtain ⟨hp, hl, hz1, hz2⟩ := id R
    refine ⟨_, (pss_cons (ps_if (pt_not (pt_val (p_meth E c_Rows_begins hr (by decide) (passX rfl rfl rfl (takes_of rfl rfl rfl rfl)) (pv 0) (pa_cons (pv 1) pa_nil))))
  (pss_one (p_raise x_InvalidText hr (by decide) (takes_of rfl rfl rfl rfl) (by rfl) (pa_cons (pe_fldK K rfl (pv 0) rfl) pa_nil)))
  pss_nil)
  (pss_cons (ps_set (i := 2) sc_Rows_words.nd rfl (Or.inl rfl) (pe_ix (ix_listK K rfl) (pe_fldK K rfl (pv 0) rfl) (pe_fldK K rfl (pv 0) rfl) (fun _ _ => rfl)))
  (pss_cons (ps_fldaugK K rfl (pv 0) pe_int in_add)
  (pss_one (ps_ret (pe_split (pe_slice sl_str (pv 2) (po_some (pe_callB call_len_str (by rfl) T.b_len (by decide +kernel) (pa_cons (pv 1) pa_nil))) po_none) pe_str)))))), ?_⟩
    refine ⟨_, rfl, p, dx, _, rfl, hp, rfl, _, rfl, p, dx, l, L, n, st, rfl, R, hn, _, rfl, ?_⟩
    cases hr' : L[n]? with
    | none =>
      have e1 : begins L n st = false := by unfold begins; rw [hr']
      have e2 : words L n st = none := by unfold words; rw [hr']
      rw [e2] at k
      rw [e1]
      refine iteT ?_
      refine ⟨_, rfl, p, CR, dx, _, _, rfl, hp, T.clR, T.naR2, rf_at, fun H' d b _ hd => k H' d (But.of b) hd⟩
    | some r =>
      cases hp' : isPre st r with
      | false =>
        have e1 : begins L n st = false := by unfold begins; rw [hr']; exact hp'
        have e2 : words L n st = none := by unfold words; rw [hr']; simp [hp']
        rw [e2] at k
        rw [e1]
        refine iteT ?_
        refine ⟨_, rfl, p, CR, dx, _, _, rfl, hp, T.clR, T.naR2, rf_at, fun H' d b _ hd => k H' d (But.of b) hd⟩
      | true =>
        have e1 : begins L n st = true := by unfold begins; rw [hr']; exact hp'
        have e2 : words L n st = some (splitC 32 (r.drop st.length)) := by unfold words; rw [hr']; simp [hp']
        rw [e2] at k
        rw [e1]
        refine iteF ?_
        have hrz : r.length ≤ 1000000 := hz2 r (List.mem_of_getElem? hr')
        refine ⟨_, rfl, p, CR, dx, _, _, rfl, hp, T.clR, T.naR1, rf_rows, _, rfl, p, CR, dx, _, _, rfl, hp, T.clR, T.naR2, rf_at, l, svs L, n, sv r, rfl, rfl, SqL.of hl, svs_ati hr', ?_⟩
        refine ⟨_, rfl, p, CR, dx, _, _, rfl, hp, T.clR, T.naR2, rf_at, n, 1, rfl, rfl, dx, _, hp, (by show 2 < 1000; decide), ?_⟩
        have hlp : l ≠ p := ne_of hl hp (by intro z; cases z)
        refine ⟨_, rfl, _, rfl, S st, rfl, szl (by rw [S_len]; omega), _, rfl, S r, rfl, szl (by rw [S_len]; omega), ⟨_, rfl⟩, S (r.drop st.length), S [32], ?_, rfl, rfl, szl (by rw [S_len, List.length_drop]; omega), fun a ha => ?_⟩
        · rw [S_len, cutS_drop]
        · have ha0 : H a = none := by
            cases q : H a with
            | none => rfl
            | some o =>
              by_cases z : a = p
              · rw [z, upd_same] at ha; cases ha
              · rw [upd_ne z, q] at ha; cases ha
          have nap : a ≠ p := fun z => by rw [z, hp] at ha0; cases ha0
          have nal : a ≠ l := fun z => by rw [z, hl] at ha0; cases ha0
          refine k _ a ((But.refl.put (by simp)).new ha) ⟨?_, ?_, hz1, hz2⟩ ha0 ?_
          · rw [upd_ne nap.symm, upd_same]; rfl
          · rw [upd_ne nal.symm, upd_ne hlp]; exact hl
          · rw [upd_same]
            have e : Txt.split (S (r.drop st.length)) (S [32]) = (splitC 32 (r.drop st.length)).map S := split_S 32 (by decide) _
            rw [e, svs_str]

/-! ### need, new_name, exactly -/
def sp_need (CR CI : Addr) : Sp := fun vs H Q E => ∃ p dx l L n b, vs = [.ref p, .bl b] ∧ RowsAt CR H p dx l L (n + 1) ∧ if b = true then Q .non H else ErrE CI p H E n
theorem ok_need (F : Fun K "need" "Rows.need" s_Rows_need f fd) (T : Txt K mg CR CT CS) (x_InvalidText : Xn P w K mg base 1 "InvalidText" "row" CI) : FnOk P w K mg base (L2.CX P w) 3 f fd ["self", "holds"] (sp_need CR CI) := by
  refine F.okX sc_Rows_need (fun vs H Q E h => ?_) (fun cdv A outer s H vs Q E hr h => ?_)
  · obtain ⟨p, dx, l, L, n, b, rfl, _⟩ := h
    rfl
  · obtain ⟨p, dx, l, L, n, b, rfl, R, k⟩ := h
    obtain ⟨hp, hl, _⟩ := id R
    refine ⟨_, (pss_one (ps_if (pt_not (pt_val (pv 1)))
  (pss_one (p_raise x_InvalidText hr (by decide) (takes_of rfl rfl rfl rfl) (by rfl) (pa_cons (pe_op op_sub (pe_fldK K rfl (pv 0) rfl) pe_int) pa_nil)))
  pss_nil)), ?_⟩
    refine ⟨_, rfl, _, rfl, ?_⟩
    cases b with
    | true => exact iteF k
    | false =>
      refine iteT ?_
      refine ⟨_, rfl, p, CR, dx, _, _, rfl, hp, T.clR, T.naR2, rf_at, ((n + 1 : Nat) : Int), 1, rfl, rfl, fun H' d b _ hd => k H' d (But.of b) ?_⟩
      have e : ((n + 1 : Nat) : Int) - 1 = (n : Int) := by omega
      have hd' : H' d = some (.xd [("row", .int (((n + 1 : Nat) : Int) - 1))]) := hd
      rw [e] at hd'
      exact hd'
def sp_new_name (K : PySem.W.Frag) (CR CI : Addr) : Sp := fun vs H Q E => ∃ p dx l t L n st taken, vs = [.ref p, sv st, .ref t] ∧ RowsAt CR H p dx l L n ∧ n ≤ L.length ∧ st.length ≤ 100 ∧ H t = some (.lst (svs taken)) ∧ match newName L n st taken with
  | .error e => ErrE CI p H E e
  | .ok nm => ∀ H', But [p] H H' → RowsAt CR H' p dx l L (n + 1) → Q (sv nm) H'
theorem ok_new_name (F : Fun K "new_name" "Rows.new_name" s_Rows_new_name f fd) (T : Txt K mg CR CT CS) (c_Rows_words : Met P w K mg base 3 CR "words" (sp_words CR CI)) (c_Rows_need : Met P w K mg base 3 CR "need" (sp_need CR CI))
    (c_is_name : Cal P w K mg base 1 "is_name" sp_is_name) : FnOk P w K mg base (L2.CX P w) 4 f fd ["self", "start", "taken"] (sp_new_name K CR CI) := by
  refine F.okX sc_Rows_new_name (fun vs H Q E h => ?_) (fun cdv A outer s H vs Q E hr h => ?_)
  · obtain ⟨p, dx, l, t, L, n, st, taken, rfl, _⟩ := h
    rfl
  · obtain ⟨p, dx, l, t, L, n, st, taken, rfl, R, hn, hst, ht, k⟩ := h
    obtain ⟨hp, hl, hz1, hz2⟩ := id R
    have htp : t ≠ p := ne_of ht hp (by intro z; cases z)
    refine ⟨_, (pss_cons (ps_set (i := 3) sc_Rows_new_name.nd rfl (Or.inl rfl) (p_meth E c_Rows_words hr (by decide) (passX rfl rfl rfl (takes_of rfl rfl rfl rfl)) (pv 0) (pa_cons (pv 1) pa_nil)))
  (pss_cons (ps_expr (p_meth E c_Rows_need hr (by decide) (passX rfl rfl rfl (takes_of rfl rfl rfl rfl)) (pv 0) (pa_cons (pe_and (pe_cmpR op_eq (pe_callB (call_len_seqK K rfl) (by rfl) T.b_len (by decide +kernel) (pa_cons (pv 3) pa_nil)) pe_int (nomark _)) (pe_and (p_call E c_is_name hr (by decide) (by rfl) (passX rfl rfl rfl (takes_of rfl rfl rfl rfl)) (pa_cons (pe_ix (ix_listK K rfl) (pv 3) pe_int (fun _ _ => rfl)) pa_nil)) (pe_one (pe_cmpR (op_notIn_seqK K rfl) (pe_ix (ix_listK K rfl) (pv 3) pe_int (fun _ _ => rfl)) (pv 2) (by rfl))))) pa_nil)))
  (pss_one (ps_ret (pe_ix (ix_listK K rfl) (pv 3) pe_int (fun _ _ => rfl)))))), ?_⟩
    refine ⟨_, rfl, p, dx, _, rfl, hp, rfl, _, rfl, p, dx, l, L, n, st, rfl, R, hn, hst, ?_⟩
    cases hw : words L n st with
    | none =>
      have e : newName L n st taken = .error n := by unfold newName; rw [hw]
      rw [e] at k
      exact k
    | some ws =>
      intro H1 a b1 R1 ha0 ha
      have hp1 := R1.at_
      have ht1 := b1.at1 ht htp
      -- the test: one word, a name, not taken
      have hws : ∀ u ∈ ws, u.length ≤ 1000000 := fun u hu => by
        unfold words at hw
        split at hw
        · rename_i r hr'
          split at hw
          · cases hw
            have := splitC_mem 32 _ u hu
            have := hz2 r (List.mem_of_getElem? hr')
            rw [List.length_drop] at *
            omega
          · cases hw
        · cases hw
      have fin : ∀ (b : Bool) H2 (G : Prop), But [] H1 H2 → b = (ws.length == 1 && (isName (ws.headD []) && !taken.contains (ws.headD []))) → (b = true → G) → ∃ p' d' l' L' n' b', [V.ref p, V.bl b] = [V.ref p', V.bl b'] ∧ RowsAt CR H2 p' d' l' L' (n' + 1) ∧ if b' = true then G else ErrE CI p' H2 E n' := fun b H2 G b2 e q => by
        refine ⟨p, dx, l, L, n, b, rfl, R1.keep0 b2, ?_⟩
        cases b with
        | true => exact iteT (q rfl)
        | false =>
          have e3 : newName L n st taken = .error n := by unfold newName; rw [hw]; simp only [← e]; rfl
          rw [e3] at k
          exact iteF (k.later (b1.trans (But.of b2)))
      refine ⟨_, rfl, p, dx, _, rfl, hp1, rfl, ?_⟩
      refine ⟨_, rfl, a, _, rfl, .inl (SqL.of ha), rfl, _, rfl, ?_⟩
      rw [svs_len]
      have el : decide (V.int ((ws.length : Nat) : Int) = V.int 1) = (ws.length == 1) := by
        by_cases q : ws.length = 1
        · rw [q]; rfl
        · rw [beq_eq_false_iff_ne.mpr q]
          exact decide_eq_false fun z => q (by injection z with z; omega)
      rw [el]
      by_cases h1 : ws.length = 1
      · obtain ⟨nm, rfl⟩ : ∃ nm, ws = [nm] := by
          cases ws with
          | nil => simp at h1
          | cons a r => cases r with
            | nil => exact ⟨a, rfl⟩
            | cons b r => simp at h1
        have at0 : atI (svs [nm]) 0 = some (sv nm) := rfl
        refine iteT ⟨_, rfl, a, svs [nm], 0, sv nm, rfl, rfl, SqL.of ha, at0, nm, rfl, ?_, fun H2 b2 => ?_⟩
        · have := hws nm (by simp); omega
        · refine ⟨_, rfl, ?_⟩
          cases hn' : isName nm with
          | false => exact iteF (fin false H2 _ b2 (by simp [hn']) fun z => by cases z)
          | true =>
            refine iteT ⟨_, rfl, a, svs [nm], 0, sv nm, rfl, rfl, SqL.of (b2.at ha), at0, _, rfl, t, svs taken, rfl, .inl (SqL.of (b2.at ht1)), rfl, flat_svs _, ?_⟩
            have ei : (if true = true then !inV (sv nm) (svs taken) else inV (sv nm) (svs taken)) = !taken.contains nm := by rw [if_pos rfl, inV_svs]
            rw [ei]
            refine fin _ H2 _ b2 (by simp [hn']) fun z => ?_
            have e3 : newName L n st taken = .ok nm := by
              unfold newName
              rw [hw]
              show (if (true && (isName nm && !taken.contains nm)) = true then Except.ok nm else Except.error n) = Except.ok nm
              rw [hn', z]; rfl
            rw [e3] at k
            exact ⟨_, rfl, a, svs [nm], 0, sv nm, rfl, rfl, SqL.of (b2.at ha), at0, k H2 (b1.trans (But.of b2)) (R1.keep0 b2)⟩
      · have e1 : (ws.length == 1) = false := beq_eq_false_iff_ne.mpr h1
        rw [e1]
        exact iteF (fin false H1 _ But.refl (by rw [e1]; rfl) fun z => by cases z)
def sp_exactly (CR CI : Addr) : Sp := fun vs H Q E => ∃ p dx l L n r, vs = [.ref p, sv r] ∧ RowsAt CR H p dx l L n ∧ n ≤ L.length ∧ if exactly L n r = true then ∀ H', But [p] H H' → RowsAt CR H' p dx l L (n + 1) → Q .non H' else ErrE CI p H E n
theorem ok_exactly (F : Fun K "exactly" "Rows.exactly" s_Rows_exactly f fd) (T : Txt K mg CR CT CS) (c_Rows_all_read : Met P w K mg base 1 CR "all_read" (sp_all_read CR)) (x_InvalidText : Xn P w K mg base 1 "InvalidText" "row" CI) :
    FnOk P w K mg base (L2.CX P w) 3 f fd ["self", "row"] (sp_exactly CR CI) := by
  refine F.okX sc_Rows_exactly (fun vs H Q E h => ?_) (fun cdv A outer s H vs Q E hr h => ?_)
  · obtain ⟨p, dx, l, L, n, r, rfl, _⟩ := h
    rfl
  · obtain ⟨p, dx, l, L, n, r, rfl, R, hn, k⟩ := h
    obtain ⟨hp, hl, hz1, hz2⟩ := id R
    refine ⟨_, (pss_cons (ps_if (PW.pt (pw_or (pt_val (p_meth0 E c_Rows_all_read hr (by decide) (passX rfl rfl rfl (takes_of rfl rfl rfl rfl)) (pv 0))) (pw_or1 (pt_cmpR op_ne (pe_ix (ix_listK K rfl) (pe_fldK K rfl (pv 0) rfl) (pe_fldK K rfl (pv 0) rfl) (fun _ _ => rfl)) (pv 1) (nomark _)))))
  (pss_one (p_raise x_InvalidText hr (by decide) (takes_of rfl rfl rfl rfl) (by rfl) (pa_cons (pe_fldK K rfl (pv 0) rfl) pa_nil)))
  pss_nil)
  (pss_one (ps_fldaugK K rfl (pv 0) pe_int in_add))), ?_⟩
    refine ⟨_, rfl, p, dx, _, rfl, hp, rfl, p, dx, l, L, n, rfl, R, _, rfl, ?_⟩
    by_cases q : n = L.length
    · have e1 : (n == L.length) = true := by simp [q]
      have e2 : exactly L n r = false := by unfold exactly; rw [q]; simp
      rw [e1]
      rw [e2] at k
      refine iteT (iteT ⟨_, rfl, p, CR, dx, _, _, rfl, hp, T.clR, T.naR2, rf_at, fun H' d b _ hd => ?_⟩)
      exact k H' d (But.of b) hd
    · have e1 : (n == L.length) = false := by simp [q]
      rw [e1]
      obtain ⟨r', hr'⟩ : ∃ r', L[n]? = some r' := ⟨L[n]'(by omega), List.getElem?_eq_getElem _⟩
      refine iteF ⟨_, rfl, p, CR, dx, _, _, rfl, hp, T.clR, T.naR1, rf_rows, _, rfl, p, CR, dx, _, _, rfl, hp, T.clR, T.naR2, rf_at, l, svs L, n, sv r', rfl, rfl, SqL.of hl, svs_ati hr', _, rfl, rfl, _, rfl, ?_⟩
      by_cases e : r' = r
      · subst e
        have e2 : exactly L n r' = true := by unfold exactly; rw [hr']; simp
        rw [e2] at k
        rw [show (!decide (sv r' = sv r')) = false by simp]
        refine iteF ⟨_, rfl, p, CR, dx, _, _, rfl, hp, T.clR, T.naR2, rf_at, n, 1, rfl, rfl, dx, _, hp, (by show 2 < 1000; decide), ?_⟩
        have hlp : l ≠ p := ne_of hl hp (by intro z; cases z)
        refine k _ (But.refl.put (by simp)) ⟨?_, ?_, hz1, hz2⟩
        · rw [upd_same]; rfl
        · rw [upd_ne hlp]; exact hl
      · have e2 : exactly L n r = false := by unfold exactly; rw [hr']; simp [e]
        rw [e2] at k
        have e3 : (!decide (sv r' = sv r)) = true := by
          have : sv r' ≠ sv r := fun z => e (by injection z with z; exact S_inj z)
          simp [this]
        rw [e3]
        exact iteT ⟨_, rfl, p, CR, dx, _, _, rfl, hp, T.clR, T.naR2, rf_at, fun H' d b _ hd => k H' d (But.of b) hd⟩
end
end Cn
set_option Elab.async false
set_option linter.all false
set_option maxRecDepth 100000
set_option maxHeartbeats 4000000
/-! the loops that read columns, keys, references -/
namespace Cn
open PySem L2
section
variable {P : Program} {w : World} {K : PySem.W.Frag} {mg : Str → Option Value} {base : Heap} {CR CT CS CI : Addr} {f : Addr} {fd : FuncData}
theorem tyList {K : PySem.W.Frag} {H : Hp} {l : Addr} {xs : List V} (h : H l = some (.lst xs)) : tyV K "list" (.ref l) H := Or.inl ⟨rfl, _, Or.inl (Or.inl h)⟩
theorem truL {K : PySem.W.Frag} {H : Hp} {l : Addr} {xs : List V} (h : H l = some (.lst xs)) : TruV K (.ref l) H (!xs.isEmpty) := Or.inl ⟨xs, SqL.of h, rfl⟩
theorem svs_empty (ls : List T) : (svs ls).isEmpty = ls.isEmpty := by cases ls <;> rfl
theorem le_lit {n : Nat} {k : Nat} : decide (((n : Nat) : Int) ≤ (k : Int)) = decide (n ≤ k) := by
  by_cases h : n ≤ k
  · rw [decide_eq_true h, decide_eq_true (by omega)]
  · rw [decide_eq_false h, decide_eq_false (by omega)]

theorem or_go {A B : Bool} {X Y G : Prop} (hx : (A || B) = true → X) (hy : (A || B) = false → Y) (hb : (if B = true then X else Y) → G) : if A = true then (if true = true then X else Y) else G := by
  cases A with
  | true => exact iteT (iteT (hx rfl))
  | false =>
    refine iteF (hb ?_)
    cases B with
    | true => exact iteT (hx rfl)
    | false => exact iteF (hy rfl)

/-! ### read_columns -/
theorem sc_read_columns : FnScope ["rows", "columns"] ["rows"] (defScope s_read_columns) := ⟨rfl, rfl, rfl, by decide +kernel, rfl, by decide +kernel, by decide +kernel⟩
theorem sc_read_keys : FnScope ["rows", "columns", "keys", "key", "other"] ["rows", "columns"] (defScope s_read_keys) := ⟨rfl, rfl, rfl, by decide +kernel, rfl, by decide +kernel, by decide +kernel⟩
theorem sc_read_reference : FnScope ["rows", "table", "above", "required", "words", "columns", "targets", "found", "target", "key", "column"] ["rows", "table", "above"] (defScope s_read_reference) := ⟨rfl, rfl, rfl, by decide +kernel, rfl, by decide +kernel, by decide +kernel⟩
theorem sc_read_references : FnScope ["rows", "table", "above", "refers", "refer", "taken", "other", "column"] ["rows", "table", "above"] (defScope s_read_references) := ⟨rfl, rfl, rfl, by decide +kernel, rfl, by decide +kernel, by decide +kernel⟩
def sp_read_columns (CR CI : Addr) : Sp := fun vs H Q E => ∃ p d r L n, vs = [.ref p] ∧ RowsAt CR H p d r L n ∧ n ≤ L.length ∧ match colsLoop L 6 n [] with
  | .error e => ErrE CI p H E e
  | .ok (cols, n') => ∀ H' l, But [p] H H' → RowsAt CR H' p d r L n' → n' ≤ L.length → H l = none → H' l = some (.lst (svs cols)) → Q (.ref l) H'
theorem ok_read_columns (F : Fun K "read_columns" "read_columns" s_read_columns f fd) (T : Txt K mg CR CT CS) (c_Rows_begins : Met P w K mg base 2 CR "begins" (sp_begins CR)) (c_Rows_need : Met P w K mg base 3 CR "need" (sp_need CR CI))
    (c_Rows_new_name : Met P w K mg base 4 CR "new_name" (sp_new_name K CR CI)) : FnOk P w K mg base (L2.CX P w) 5 f fd ["rows"] (sp_read_columns CR CI) := by
  refine F.okX sc_read_columns (fun vs H Q E h => ?_) (fun cdv A outer s H vs Q E hr h => ?_)
  · obtain ⟨p, d, r, L, n, rfl, _⟩ := h
    rfl
  · obtain ⟨p, d, r, L, n, rfl, R, hn, k⟩ := h
    refine ⟨_, (pss_cons (ps_set (i := 1) sc_read_columns.nd rfl (Or.inl rfl) (pe_lst pa_nil))
  (pss_cons (ps_while (passes_of rfl) (PW.pt (pw_or (pt_not (pt_truthK K rfl (pv 1) (by intro _; rfl))) (pw_or1 (pt_val (p_meth E c_Rows_begins hr (by decide) (passX rfl rfl rfl (takes_of rfl rfl rfl rfl)) (pv 0) (pa_cons pe_str pa_nil))))))
  (pss_cons (ps_expr (pe_bm PySem.F.plainAttrs_list PySem.F.slot_list_append PySem.F.type_list_append mt_append (pv 1) (pa_cons (p_meth E c_Rows_new_name hr (by decide) (passX rfl rfl rfl (takes_of rfl rfl rfl rfl)) (pv 0) (pa_cons pe_str (pa_cons (pv 1) pa_nil))) pa_nil)))
  (pss_one (ps_expr (p_meth E c_Rows_need hr (by decide) (passX rfl rfl rfl (takes_of rfl rfl rfl rfl)) (pv 0) (pa_cons (pe_cmpR op_le (pe_callB (call_len_seqK K rfl) (by rfl) T.b_len (by decide +kernel) (pa_cons (pv 1) pa_nil)) (p_gint T.g_MOST_COLUMNS) (nomark _)) pa_nil))))))
  (pss_one (ps_ret (pv 1))))), ?_⟩
    refine ⟨Nat.zero_le _, fun l hl => ?_⟩
    have npl : p ≠ l := ne_of_none R.at_ hl
    have nrl : r ≠ l := ne_of_none R.rows hl
    refine ⟨fun m σ H' => ∃ cols n', σ = [some (.ref p), some (.ref l)] ∧ But [p] H H' ∧ H' l = some (.lst (svs cols)) ∧ RowsAt CR H' p d r L n' ∧ n' ≤ L.length ∧ cols.length ≤ 5 ∧ m + cols.length = 6 ∧ colsLoop L m n' cols = colsLoop L 6 n [],
      ⟨6, [], n, rfl, But.refl.new hl, upd_same, R.keep0 (newB hl), hn, by simp, rfl, rfl⟩, ?_⟩
    rintro m σ H1 ⟨cols, n1, rfl, b1, hl1, R1, hn1, h5, hm, he⟩
    obtain ⟨m, rfl⟩ : ∃ m', m = m' + 1 := ⟨m - 1, by omega⟩
    refine ⟨_, rfl, _, truL hl1, or_go (B := begins L n1 kColumn) (fun ht => ⟨_, fun _ _ z => z, ?_⟩) (fun ht => ?_) (fun g => ⟨_, rfl, p, d, _, rfl, R1.at_, rfl, p, d, r, L, n1, kColumn, rfl, R1, hn1, _, rfl, g⟩)⟩
    · rw [Bool.not_not, svs_empty] at ht
      have e0 : colsLoop L (m + 1) n1 cols = (match newName L n1 kColumn cols with
        | .error e => .error e
        | .ok w => if cols.length + 1 ≤ 5 then colsLoop L m (n1 + 1) (cols ++ [w]) else .error n1) := by
        show (if (cols.isEmpty || begins L n1 kColumn) = true then _ else _) = _
        rw [ht]; rfl
      refine ⟨_, rfl, tyList hl1, _, rfl, p, d, _, rfl, R1.at_, rfl, _, rfl, p, d, r, l, L, n1, kColumn, cols, rfl, R1, hn1, by decide, hl1, ?_⟩
      cases hw : newName L n1 kColumn cols with
      | error e =>
        rw [hw] at e0
        rw [← he, e0] at k
        exact k.later b1
      | ok nm =>
        rw [hw] at e0
        have e0 : colsLoop L (m + 1) n1 cols = if cols.length + 1 ≤ 5 then colsLoop L m (n1 + 1) (cols ++ [nm]) else .error n1 := e0
        have lt := newName_lt hw
        intro H2 b2 R2
        have hl2 := b2.at1 hl1 npl.symm
        refine ⟨l, svs cols, sv nm, rfl, rfl, hl2, szt (by rw [svs_len]; omega), ?_⟩
        have b3 : But [p] H (upd H2 l (.lst (svs cols ++ [sv nm]))) := (b1.trans b2).put0 hl
        have R3 := R2.put (o := .lst (svs cols ++ [sv nm])) npl nrl
        refine ⟨_, rfl, p, d, _, rfl, R3.at_, rfl, _, rfl, l, _, rfl, .inl (SqL.of upd_same), _, 5, rfl, rfl, p, d, r, L, n1, _, rfl, R3, ?_⟩
        have el : decide (((svs cols ++ [sv nm]).length : Int) ≤ 5) = decide (cols.length + 1 ≤ 5) := by
          rw [List.length_append, svs_len]
          exact le_lit (n := cols.length + 1) (k := 5)
        rw [el]
        refine ite2 (fun h => ?_) (fun h => ?_)
        · have h' : cols.length + 1 ≤ 5 := of_decide_eq_true h
          rw [if_pos h'] at e0
          exact ⟨m, by omega, cols ++ [nm], n1 + 1, rfl, b3, by rw [upd_same, svs_app]; rfl, R3, lt, by simpa using h', by simp; omega, by rw [← e0]; exact he⟩
        · have h' : ¬ cols.length + 1 ≤ 5 := fun z => h (decide_eq_true z)
          rw [if_neg h'] at e0
          rw [← he, e0] at k
          exact k.later b3
    · rw [Bool.not_not, svs_empty] at ht
      have e0 : colsLoop L (m + 1) n1 cols = .ok (cols, n1) := by
        show (if (cols.isEmpty || begins L n1 kColumn) = true then _ else _) = _
        rw [ht]; rfl
      rw [← he, e0] at k
      exact ⟨_, rfl, k H1 l b1 R1 hn1 hl hl1⟩

/-! ### read_keys -/
def sp_read_keys (CR CI : Addr) : Sp := fun vs H Q E => ∃ p d r c L n cols, vs = [.ref p, .ref c] ∧ RowsAt CR H p d r L n ∧ n ≤ L.length ∧ H c = some (.lst (svs cols)) ∧ match keysLoop L cols 4 n [] with
  | .error e => ErrE CI p H E e
  | .ok (keys, n') => ∀ H' l ks, But [p] H H' → RowsAt CR H' p d r L n' → n' ≤ L.length → H l = none → H' l = some (.lst ks) → Each (KeyR H') ks keys → Q (.ref l) H'
theorem ok_read_keys (F : Fun K "read_keys" "read_keys" s_read_keys f fd) (T : Txt K mg CR CT CS) (c_Rows_begins : Met P w K mg base 2 CR "begins" (sp_begins CR)) (c_Rows_need : Met P w K mg base 3 CR "need" (sp_need CR CI))
    (c_Rows_words : Met P w K mg base 3 CR "words" (sp_words CR CI)) (c_are_different : Cal P w K mg base 2 "are_different" (sp_are_diff K)) (c_has_all : Cal P w K mg base 1 "has_all" (sp_has_all K)) : FnOk P w K mg base (L2.CX P w) 4 f fd ["rows", "columns"] (sp_read_keys CR CI) := by
  refine F.okX sc_read_keys (fun vs H Q E h => ?_) (fun cdv A outer s H vs Q E hr h => ?_)
  · obtain ⟨p, d, r, c, L, n, cols, rfl, _⟩ := h
    rfl
  · obtain ⟨p, d, r, c, L, n, cols, rfl, R, hn, hc, k⟩ := h
    refine ⟨_, (pss_cons (ps_set (i := 2) sc_read_keys.nd rfl (Or.inl rfl) (pe_lst pa_nil))
  (pss_cons (ps_while (passes_of rfl) (PW.pt (pw_or (pt_not (pt_truthK K rfl (pv 2) (by intro _; rfl))) (pw_or1 (pt_val (p_meth E c_Rows_begins hr (by decide) (passX rfl rfl rfl (takes_of rfl rfl rfl rfl)) (pv 0) (pa_cons pe_str pa_nil))))))
  (pss_cons (ps_set (i := 3) sc_read_keys.nd rfl (Or.inr rfl) (pe_callTy (call_tuple_ofK K rfl) (by rfl) T.b_tuple (by decide +kernel) (pa_cons (p_meth E c_Rows_words hr (by decide) (passX rfl rfl rfl (takes_of rfl rfl rfl rfl)) (pv 0) (pa_cons pe_str pa_nil)) pa_nil)))
  (pss_cons (ps_expr (p_meth E c_Rows_need hr (by decide) (passX rfl rfl rfl (takes_of rfl rfl rfl rfl)) (pv 0) (pa_cons (pe_and (pe_cmpR op_le (pe_callB (call_len_seqK K rfl) (by rfl) T.b_len (by decide +kernel) (pa_cons (pv 3) pa_nil)) (p_gint T.g_MOST_KEY_COLUMNS) (nomark _)) (pe_one (p_call E c_are_different hr (by decide) (by rfl) (passX rfl rfl rfl (takes_of rfl rfl rfl rfl)) (pa_cons (pv 3) (pa_cons (pv 1) pa_nil))))) pa_nil)))
  (pss_cons (ps_expr (p_meth E c_Rows_need hr (by decide) (passX rfl rfl rfl (takes_of rfl rfl rfl rfl)) (pv 0) (pa_cons (pe_not (pe_callB (cr_anyK K rfl (by rfl)) (by rfl) T.b_any (by decide +kernel) (pa_cons (pe_lc (own := [("other", 4)]) (g := gName 4) (tt := tYes) (by rfl) sc_read_keys.nd (pi_listK K rfl (pv 2)) (blkOk_by (own := [("other", 4)]) (N := ["rows", "columns", "keys", "key", "other"]) (sc := (defScope s_read_keys)) (by decide +kernel)) (fun _ _ _ _ _ => (pg_name (i := 4) sc_read_keys.nd rfl (Or.inl rfl))) (fun _ _ _ _ _ => pts_nil) (fun _ _ _ _ _ => (pe_or (p_call E0 c_has_all hr (by decide) (by rfl) passL (pa_cons (pv 3) (pa_cons (pv 4) pa_nil))) (pe_one (p_call E0 c_has_all hr (by decide) (by rfl) passL (pa_cons (pv 4) (pa_cons (pv 3) pa_nil))))))) pa_nil))) pa_nil)))
  (pss_cons (ps_expr (pe_bm PySem.F.plainAttrs_list PySem.F.slot_list_append PySem.F.type_list_append mt_append (pv 2) (pa_cons (pv 3) pa_nil)))
  (pss_one (ps_expr (p_meth E c_Rows_need hr (by decide) (passX rfl rfl rfl (takes_of rfl rfl rfl rfl)) (pv 0) (pa_cons (pe_cmpR op_le (pe_callB (call_len_seqK K rfl) (by rfl) T.b_len (by decide +kernel) (pa_cons (pv 2) pa_nil)) (p_gint T.g_MOST_KEYS) (nomark _)) pa_nil)))))))))
  (pss_one (ps_ret (pv 2))))), ?_⟩
    refine ⟨Nat.zero_le _, fun l hl => ?_⟩
    have npl : p ≠ l := ne_of_none R.at_ hl
    have nrl : r ≠ l := ne_of_none R.rows hl
    have ncl : c ≠ l := ne_of_none hc hl
    have ncp : c ≠ p := ne_of hc R.at_ (by intro z; cases z)
    refine ⟨fun m σ H' => ∃ keys ks n' v4 v5, σ = [some (.ref p), some (.ref c), some (.ref l), v4, v5] ∧ But [p] H H' ∧ H' l = some (.lst ks) ∧ Each (KeyR H') ks keys ∧ RowsAt CR H' p d r L n' ∧ n' ≤ L.length ∧ keys.length ≤ 3 ∧ (∀ k ∈ keys, k.length ≤ 3) ∧ m + keys.length = 4 ∧ keysLoop L cols m n' keys = keysLoop L cols 4 n [],
      ⟨4, [], [], n, none, none, rfl, But.refl.new hl, upd_same, Each.nil, R.keep0 (newB hl), hn, by simp, by simp, rfl, rfl⟩, ?_⟩
    rintro m σ H1 ⟨keys, ks, n1, v4, v5, rfl, b1, hl1, hk1, R1, hn1, h3, hk3, hm, he⟩
    obtain ⟨m, rfl⟩ : ∃ m', m = m' + 1 := ⟨m - 1, by omega⟩
    have hks : ks.isEmpty = keys.isEmpty := by
      have := hk1.1
      cases ks <;> cases keys <;> simp_all
    refine ⟨_, rfl, _, truL hl1, or_go (B := begins L n1 kKey) (fun ht => ⟨_, fun _ _ z => z, ?_⟩) (fun ht => ?_) (fun g => ⟨_, rfl, p, d, _, rfl, R1.at_, rfl, p, d, r, L, n1, kKey, rfl, R1, hn1, _, rfl, g⟩)⟩
    · rw [Bool.not_not, hks] at ht
      have e0 : keysLoop L cols (m + 1) n1 keys = (match words L n1 kKey with
        | none => .error n1
        | some k => if decide (k.length ≤ 3) && areDiff k cols then
            if keys.any fun o => hasAll k o || hasAll o k then .error n1 else if keys.length + 1 ≤ 3 then keysLoop L cols m (n1 + 1) (keys ++ [k]) else .error n1
          else .error n1) := by
        show (if (keys.isEmpty || begins L n1 kKey) = true then _ else _) = _
        rw [ht]; rfl
      refine ⟨_, rfl, p, d, _, rfl, R1.at_, rfl, p, d, r, L, n1, kKey, rfl, R1, hn1, by decide, ?_⟩
      cases hw : words L n1 kKey with
      | none =>
        rw [hw] at e0
        have e0 : keysLoop L cols (m + 1) n1 keys = .error n1 := e0
        rw [← he, e0] at k
        exact k.later b1
      | some key =>
        rw [hw] at e0
        have e0 : keysLoop L cols (m + 1) n1 keys = if decide (key.length ≤ 3) && areDiff key cols then
            if keys.any fun o => hasAll key o || hasAll o key then .error n1 else if keys.length + 1 ≤ 3 then keysLoop L cols m (n1 + 1) (keys ++ [key]) else .error n1
          else .error n1 := e0
        have lt := words_lt hw
        intro H2 a b2 R2 ha0 ha
        refine ⟨a, _, rfl, .inl ⟨SqL.of ha, fun t ht0 => ?_⟩⟩
        have hl2 := b2.at1 hl1 npl.symm
        have hc2 : H2 c = some (.lst (svs cols)) := b2.at1 (b1.at1 hc ncp) ncp
        have b3 : But [p] H1 (upd H2 t (.tup (svs key))) := b2.new ht0
        have nt : t ≠ l := fun z => by rw [z, hl2] at ht0; cases ht0
        have R3 : RowsAt CR (upd H2 t (.tup (svs key))) p d r L (n1 + 1) := R2.keep0 (newB ht0)
        -- need(len(key) <= 3 and are_different(key, columns))
        have er : ∀ {H' : Hp}, But [p] H1 H' → keysLoop L cols (m + 1) n1 keys = .error n1 → ErrE CI p H' E n1 := fun b e => by
          rw [← he, e] at k
          exact k.later (b1.trans b)
        refine ⟨_, rfl, p, d, _, rfl, R3.at_, rfl, ?_⟩
        refine ⟨_, rfl, t, _, rfl, .inr (SqT.of upd_same), _, 3, rfl, rfl, _, rfl, ?_⟩
        have el : decide (((svs key).length : Int) ≤ 3) = decide (key.length ≤ 3) := by rw [svs_len]; exact le_lit (n := key.length) (k := 3)
        rw [el]
        refine ite2 (fun h => ?_) (fun h => ?_)
        · have h' : key.length ≤ 3 := of_decide_eq_true h
          rw [h, Bool.true_and] at e0
          refine ⟨_, rfl, _, rfl, t, c, key, cols, rfl, SqT.of upd_same, .inl (SqL.of ((newB ht0).at hc2)), by omega, fun H4 b4 => ?_⟩
          refine ⟨p, d, r, L, n1, _, rfl, R3.keep0 b4, ?_⟩
          refine ite2 (fun hd => ?_) (fun hd => ?_)
          · rw [if_pos hd] at e0
            -- need(not any([has_all(key, other) or has_all(other, key) for other in keys]))
            have b5 : But [p] H1 H4 := b3.trans (But.of b4)
            have f5 : Fix CR H1 H4 := R1.fix b5
            have hl4 : H4 l = some (.lst ks) := b5.at1 hl1 npl.symm
            have R4 := R3.keep0 b4
            have ht4 : H4 t = some (.tup (svs key)) := b4.at upd_same
            refine ⟨_, rfl, p, d, _, rfl, R4.at_, rfl, ?_⟩
            refine ⟨_, rfl, l, rfl, ⟨_, SqL.of hl4⟩, fun D hD => ?_⟩
            refine lc_grow (fun i => (keys[i]?).map fun o => V.bl (hasAll key o || hasAll o key)) (walk_list (K := K) (a := l) (xs := ks)) hD (fun H' b => SqL.of (b.at hl4)) (fun i x acc H6 H7 N hi hz b6 hD6 y hy _ => ?_) (fun H7 b7 hD7 => ?_)
            · obtain ⟨rfl, hx⟩ := y
              obtain ⟨o, ho, q, rfl, hq⟩ := hk1.at hx
              have hq6 : H7 q = some (.tup (svs o)) := b6.at (f5 q _ hq trivial)
              have ht6 : H7 t = some (.tup (svs key)) := b6.at ht4
              have ho8 : o.length ≤ 1000001 := by have := hk3 o (List.mem_of_getElem? ho); omega
              have fin : ∀ (v : Bool) H8, But [] H7 H8 → v = (hasAll key o || hasAll o key) → ∃ acc', H8 D = some (.lst acc') ∧ acc'.length < sizeLine ∧ N (upd H8 D (.lst (acc' ++ [V.bl v]))) := fun v H8 b8 ev =>
                lc_putG (b6.trans b8) hD (b8.at hD6) (by have := (List.getElem?_eq_some_iff.mp hx).1; have := hk1.1; omega) fun H'' bb hh => hy _ H'' (by rw [ho, ev]; rfl) bb hh
              refine ⟨rfl, _, rfl, _, rfl, t, q, key, o, rfl, .inr (SqT.of ht6), SqT.of hq6, ho8, fun H8 b8 => ⟨_, rfl, ?_⟩⟩
              refine ite2 (fun h1 => ?_) (fun h1 => ?_)
              · exact fin true H8 b8 (by rw [h1]; rfl)
              · refine ⟨_, rfl, _, rfl, q, t, o, key, rfl, .inr (SqT.of (b8.at hq6)), SqT.of (b8.at ht6), by omega, fun H9 b9 => ?_⟩
                rw [Bool.not_eq_true] at h1
                exact fin _ H9 (b8.trans b9) (by rw [h1, Bool.false_or])
            · rw [hk1.1, range_map] at hD7
              refine ⟨D, keys.map fun o => hasAll key o || hasAll o key, rfl, .inl (.inl (by rw [hD7, List.map_map]; rfl)), _, rfl, p, d, r, L, n1, _, rfl, R4.keep0 b7, ?_⟩
              rw [List.any_map]
              have ea : (keys.any (id ∘ fun o => hasAll key o || hasAll o key)) = keys.any (fun o => hasAll key o || hasAll o key) := rfl
              rw [ea]
              have b8 : But [p] H1 H7 := b5.trans (But.of b7)
              refine ite2 (fun ha => ?_) (fun ha => ?_)
              · have ha' : (keys.any fun o => hasAll key o || hasAll o key) = false := by rw [Bool.not_eq_true'] at ha; exact ha
                rw [ha'] at e0
                have e0 : keysLoop L cols (m + 1) n1 keys = if keys.length + 1 ≤ 3 then keysLoop L cols m (n1 + 1) (keys ++ [key]) else .error n1 := e0
                -- keys.append(key)
                have hl7 : H7 l = some (.lst ks) := b7.at hl4
                have ht7 : H7 t = some (.tup (svs key)) := b7.at ht4
                have ntl : t ≠ l := ne_of ht7 hl7 (by intro z; cases z)
                refine ⟨_, rfl, tyList hl7, _, rfl, l, ks, .ref t, rfl, rfl, hl7, szt (by have := hk1.1; omega), ?_⟩
                have b9 : But [p] H (upd H7 l (.lst (ks ++ [.ref t]))) := (b1.trans b8).put0 hl
                have R9 := (R4.keep0 b7).put (o := .lst (ks ++ [.ref t])) npl nrl
                have f9 : Fix CR H1 (upd H7 l (.lst (ks ++ [.ref t]))) := fun q o hq i => by
                  rw [upd_ne (fun z => by rw [z, hl1] at hq; cases hq; exact i)]
                  exact (R1.fix b8) q o hq i
                refine ⟨_, rfl, p, d, _, rfl, R9.at_, rfl, _, rfl, l, _, rfl, .inl (SqL.of upd_same), _, 3, rfl, rfl, p, d, r, L, n1, _, rfl, R9, ?_⟩
                have el : decide (((ks ++ [V.ref t]).length : Int) ≤ 3) = decide (keys.length + 1 ≤ 3) := by
                  rw [List.length_append, hk1.1]
                  exact le_lit (n := keys.length + 1) (k := 3)
                rw [el]
                refine ite2 (fun h => ?_) (fun h => ?_)
                · have h' : keys.length + 1 ≤ 3 := of_decide_eq_true h
                  rw [if_pos h'] at e0
                  refine ⟨m, by omega, keys ++ [key], ks ++ [.ref t], n1 + 1, _, _, rfl, b9, upd_same, ?_, R9, lt, by simpa using h', fun q hq => ?_, by simp; omega, by rw [← e0]; exact he⟩
                  · exact (hk1.mono fun _ _ q => q.fix f9).snoc ⟨t, rfl, by rw [upd_ne ntl]; exact ht7⟩
                  · rcases List.mem_append.mp hq with z | z
                    · exact hk3 q z
                    · rw [List.mem_singleton.mp z]; assumption
                · have h' : ¬ keys.length + 1 ≤ 3 := fun z => h (decide_eq_true z)
                  rw [if_neg h'] at e0
                  rw [← he, e0] at k
                  exact k.later b9
              · have ha' : (keys.any fun o => hasAll key o || hasAll o key) = true := by rw [Bool.not_eq_true, Bool.not_eq_false'] at ha; exact ha
                rw [ha'] at e0
                exact er b8 e0
          · rw [if_neg hd] at e0
            exact er (b3.trans (But.of b4)) e0
        · have h' : decide (key.length ≤ 3) = false := by rw [Bool.not_eq_true] at h; exact h
          rw [h'] at e0
          exact ⟨p, d, r, L, n1, false, rfl, R3, iteF (er b3 e0)⟩
    · rw [Bool.not_not, hks] at ht
      have e0 : keysLoop L cols (m + 1) n1 keys = .ok (keys, n1) := by
        show (if (keys.isEmpty || begins L n1 kKey) = true then _ else _) = _
        rw [ht]; rfl
      rw [← he, e0] at k
      exact ⟨_, rfl, k H1 l ks b1 R1 hn1 hl hl1 hk1⟩
end
end Cn
set_option Elab.async false
set_option linter.all false
set_option maxRecDepth 100000
set_option maxHeartbeats 4000000
/-! one reference -/
namespace Cn
open PySem L2
section
variable {P : Program} {w : World} {K : PySem.W.Frag} {mg : Str → Option Value} {base : Heap} {CR CT CS CI : Addr} {f : Addr} {fd : FuncData}
theorem tf_name {n : Cn.T} {a b c : Addr} : (tf n a b c).lookup ("name" : Str) = some (sv n) := by rfl
theorem tf_columns {n : Cn.T} {a b c : Addr} : (tf n a b c).lookup ("columns" : Str) = some (.ref a) := by rfl
theorem tf_unique {n : Cn.T} {a b c : Addr} : (tf n a b c).lookup ("unique" : Str) = some (.ref b) := by rfl
theorem tf_refers {n : Cn.T} {a b c : Addr} : (tf n a b c).lookup ("refers" : Str) = some (.ref c) := by rfl
def sp_read_reference (CR CT CI : Addr) : Sp := fun vs H Q E => ∃ p d r tb ab L n t va above, vs = [.ref p, .ref tb, .ref ab] ∧ RowsAt CR H p d r L n ∧ n ≤ L.length ∧ TblR CT H (.ref tb) t ∧ H ab = some (.lst va) ∧ Each (TblR CT H) va above ∧
  above.length ≤ 5 ∧ (∀ a ∈ above, WfT a) ∧ t.keys ≠ [] ∧ (∀ k ∈ t.keys, k.length ≤ 3) ∧ t.keys.length ≤ 3 ∧ t.cols.length ≤ 5 ∧ match readRef L n t above with
  | .error e => ErrE CI p H E e
  | .ok q => ∀ H' v, But [p] H H' → RowsAt CR H' p d r L (n + 1) → RefR H' v q → Q v H'
theorem ok_read_reference (F : Fun K "read_reference" "read_reference" s_read_reference f fd) (T : Txt K mg CR CT CS) (c_Rows_begins : Met P w K mg base 2 CR "begins" (sp_begins CR)) (c_Rows_need : Met P w K mg base 3 CR "need" (sp_need CR CI))
    (c_Rows_words : Met P w K mg base 3 CR "words" (sp_words CR CI)) (c_are_different : Cal P w K mg base 2 "are_different" (sp_are_diff K)) : FnOk P w K mg base (L2.CX P w) 4 f fd ["rows", "table", "above"] (sp_read_reference CR CT CI) := by
  refine F.okX sc_read_reference (fun vs H Q E h => ?_) (fun cdv A outer s H vs Q E hr h => ?_)
  · obtain ⟨p, d, r, tb, ab, L, n, t, va, above, rfl, _⟩ := h
    rfl
  · obtain ⟨p, d, r, tb, ab, L, n, t, va, above, rfl, R, hn, ht, hab, hva, h5, hwf, hk0, hk3, hkl, hcl, k⟩ := h
    refine ⟨_, (pss_cons (ps_set (i := 3) sc_read_reference.nd rfl (Or.inl rfl) (p_meth E c_Rows_begins hr (by decide) (passX rfl rfl rfl (takes_of rfl rfl rfl rfl)) (pv 0) (pa_cons pe_str pa_nil)))
  (pss_cons (ps_set (i := 4) sc_read_reference.nd rfl (Or.inr rfl) (p_meth E c_Rows_words hr (by decide) (passX rfl rfl rfl (takes_of rfl rfl rfl rfl)) (pv 0) (pa_cons (pe_ifExp (pt_val (pv 3)) pe_str pe_str) pa_nil)))
  (pss_cons (ps_expr (p_meth E c_Rows_need hr (by decide) (passX rfl rfl rfl (takes_of rfl rfl rfl rfl)) (pv 0) (pa_cons (pe_and (pe_cmpR op_ge (pe_callB (call_len_seqK K rfl) (by rfl) T.b_len (by decide +kernel) (pa_cons (pv 4) pa_nil)) pe_int (nomark _)) (pe_one (pe_cmpR op_eq (pe_ix (ix_listK K rfl) (pv 4) (pe_un un_neg pe_int) (fun _ _ => rfl)) pe_str (nomark _)))) pa_nil)))
  (pss_cons (ps_set (i := 5) sc_read_reference.nd rfl (Or.inr rfl) (pe_callTy (call_tuple_ofK K rfl) (by rfl) T.b_tuple (by decide +kernel) (pa_cons (pe_slice (sl_listK K rfl) (pv 4) po_none (po_some (pe_un un_neg pe_int))) pa_nil)))
  (pss_cons (ps_set (i := 6) sc_read_reference.nd rfl (Or.inl rfl) (pe_ifExp (pt_val (pv 3)) (pe_callTy (call_list_ofK K rfl) (by rfl) T.b_list (by decide +kernel) (pa_cons (pv 2) pa_nil)) (pe_lst (StX.pa_star (pv 2) (pa_cons (pv 1) pa_nil)))))
  (pss_cons (ps_setLc (i := 7) (own := [("target", 8)]) (g := gName 8) (by rfl) sc_read_reference.nd rfl rfl (sw_true rfl rfl rfl (by decide +kernel)) (pi_listK K rfl (pv 6)) (blkOk_by (own := [("target", 8)]) (N := ["rows", "table", "above", "required", "words", "columns", "targets", "found", "target", "key", "column"]) (sc := (defScope s_read_reference)) (by decide +kernel)) (fun _ _ _ _ _ => (pg_name (i := 8) sc_read_reference.nd rfl (Or.inl rfl))) (fun _ _ _ _ _ => (pts_one (pt_cmpR op_eq (pe_fldK K rfl (pv 8) rfl) (pe_ix (ix_listK K rfl) (pv 4) (pe_un un_neg pe_int) (fun _ _ => rfl)) (nomark _)))) (fun _ _ _ _ _ => (pv 8)))
  (pss_cons (ps_expr (p_meth E c_Rows_need hr (by decide) (passX rfl rfl rfl (takes_of rfl rfl rfl rfl)) (pv 0) (pa_cons (pe_and (pe_cmpR op_eq (pe_callB (call_len_seqK K rfl) (by rfl) T.b_len (by decide +kernel) (pa_cons (pv 7) pa_nil)) pe_int (nomark _)) (pe_one (pe_cmpR op_eq (pe_callB (call_len_seqK K rfl) (by rfl) T.b_len (by decide +kernel) (pa_cons (pe_ix (ix_tupK K rfl) (pe_fldK K rfl (pe_ix (ix_listK K rfl) (pv 7) pe_int (fun _ _ => rfl)) rfl) pe_int (fun _ _ => rfl)) pa_nil)) (pe_callB (call_len_seqK K rfl) (by rfl) T.b_len (by decide +kernel) (pa_cons (pv 5) pa_nil)) (nomark _)))) pa_nil)))
  (pss_cons (ps_expr (p_meth E c_Rows_need hr (by decide) (passX rfl rfl rfl (takes_of rfl rfl rfl rfl)) (pv 0) (pa_cons (p_call E c_are_different hr (by decide) (by rfl) (passX rfl rfl rfl (takes_of rfl rfl rfl rfl)) (pa_cons (pv 5) (pa_cons (pe_fldK K rfl (pv 1) rfl) pa_nil))) pa_nil)))
  (pss_cons (ps_if (pt_not (pt_val (pv 3)))
  (pss_one (ps_expr (p_meth E c_Rows_need hr (by decide) (passX rfl rfl rfl (takes_of rfl rfl rfl rfl)) (pv 0) (pa_cons (pe_not (pe_callB (cr_anyK K rfl (by rfl)) (by rfl) T.b_any (by decide +kernel) (pa_cons (pe_lc2 (own := [("key", 9), ("column", 10)]) (vs1 := [10]) (g := gName 9) (g1 := gName 10) (tt := tYes) (tt1 := tYes) (by rfl) sc_read_reference.nd (pi_tupK K rfl (pe_fldK K rfl (pv 1) rfl)) (blkOk_by (own := [("key", 9), ("column", 10)]) (N := ["rows", "table", "above", "required", "words", "columns", "targets", "found", "target", "key", "column"]) (sc := (defScope s_read_reference)) (by decide +kernel)) (by decide) (fun _ _ _ _ _ => (pg_name (i := 9) sc_read_reference.nd rfl (Or.inl rfl))) (fun _ _ _ _ _ => pts_nil) (fun _ _ _ _ _ => (pi_tupK K rfl (pv 5))) (fun _ _ _ _ _ => (pg_name (i := 10) sc_read_reference.nd rfl (Or.inl rfl))) (fun _ _ _ _ _ => pts_nil) (fun _ _ _ _ _ => (pe_cmpR (op_in_seqK K rfl) (pv 10) (pv 9) (by rfl)))) pa_nil))) pa_nil))))
  pss_nil)
  (pss_one (ps_ret (pe_tup (pa_cons (pv 5) (pa_cons (pe_ix (ix_listK K rfl) (pv 4) (pe_un un_neg pe_int) (fun _ _ => rfl)) (pa_cons (pv 3) pa_nil))))))))))))))), ?_⟩
    refine ⟨_, rfl, p, d, _, rfl, R.at_, rfl, p, d, r, L, n, kRef, rfl, R, hn, ?_⟩
    have hst : ("  ref " : Str) = S kRef ∧ ("  optional " : Str) = S kOpt := ⟨rfl, rfl⟩
    refine ⟨_, rfl, p, d, _, rfl, R.at_, rfl, _, rfl, _, rfl, str_go ?_⟩
    have es : (if begins L n kRef = true then ("  ref " : Str) else ("  optional " : Str)) = S (refStart (begins L n kRef)) := by
      unfold refStart
      cases begins L n kRef <;> rfl
    rw [es]
    refine ⟨p, d, r, L, n, refStart (begins L n kRef), rfl, R, hn, by unfold refStart; cases begins L n kRef <;> decide, ?_⟩
    have k0 : (match words L n (refStart (begins L n kRef)) with
      | none => ErrE CI p H E n
      | some ws => readRef L n t above = (if decide (3 ≤ ws.length) && (ws.getD (ws.length - 2) [] == kArrow) then
          if fits (foundIn (begins L n kRef) t above (ws.getD (ws.length - 1) [])) (ws.take (ws.length - 2)) then
            if areDiff (ws.take (ws.length - 2)) t.cols then
              if barred (begins L n kRef) t (ws.take (ws.length - 2)) then .error n else .ok (ws.take (ws.length - 2), ws.getD (ws.length - 1) [], begins L n kRef)
            else .error n
          else .error n
        else .error n)) := by
      cases hw : words L n (refStart (begins L n kRef)) with
      | none =>
        have e : readRef L n t above = .error n := by unfold readRef; rw [hw]
        rw [e] at k
        exact k
      | some ws =>
        show readRef L n t above = _
        unfold readRef; rw [hw]
    cases hw : words L n (refStart (begins L n kRef)) with
    | none =>
      rw [hw] at k0
      exact k0
    | some ws =>
      rw [hw] at k0
      have k0 : readRef L n t above = _ := k0
      rw [k0] at k
      clear k0
      generalize begins L n kRef = req at *
      intro H1 a b1 R1 ha0 ha
      have f1 : Fix CR H H1 := R.fix b1
      have habp : ab ≠ p := ne_of hab R.at_ (by intro z; cases z)
      have hab1 : H1 ab = some (.lst va) := b1.at1 hab habp
      have ht1 := ht.fix T.nT f1
      have hva1 := hva.mono fun _ _ q => q.fix T.nT f1
      -- need(len(words) >= 3 and words[-2] == '->')
      refine ⟨_, rfl, p, d, _, rfl, R1.at_, rfl, _, rfl, a, _, rfl, .inl (SqL.of ha), _, 3, rfl, rfl, _, rfl, ?_⟩
      rw [svs_len]
      have ege : decide ((3 : Int) ≤ ((ws.length : Nat) : Int)) = decide (3 ≤ ws.length) := ge_lit (k := 3)
      rw [ege]
      refine ite2n (fun h3 => ?_) (fun h3 => ?_)
      · rw [Bool.not_eq_true] at h3
        rw [h3] at k
        exact ⟨p, d, r, L, n, false, rfl, R1, iteF (k.later b1)⟩
      · rw [h3, Bool.true_and] at k
        have h3' : 3 ≤ ws.length := of_decide_eq_true h3
        have at2 : atI (svs ws) (-(2 : Int)) = some (sv (ws.getD (ws.length - 2) [])) := atI_neg (k := 2) (by omega) (by omega)
        have at1 : atI (svs ws) (-(1 : Int)) = some (sv (ws.getD (ws.length - 1) [])) := atI_neg (k := 1) (by omega) (by omega)
        refine ⟨_, rfl, 2, rfl, a, svs ws, _, _, rfl, rfl, SqL.of ha, at2, rfl, ?_⟩
        refine ⟨p, d, r, L, n, _, rfl, R1, ?_⟩
        have ek : decide (sv (ws.getD (ws.length - 2) []) = V.str ("->" : Str)) = (ws.getD (ws.length - 2) [] == kArrow) := sv_eq _ kArrow
        rw [ek]
        refine ite2n (fun ha2 => ?_) (fun ha2 => ?_)
        · rw [if_neg ha2] at k
          exact k.later b1
        · rw [if_pos ha2] at k
          generalize hc : ws.take (ws.length - 2) = cols at k
          generalize hg : ws.getD (ws.length - 1) [] = tgt at k at1
          -- columns = tuple(words[:-2])
          refine ⟨_, rfl, 2, rfl, _, rfl, a, svs ws, rfl, SqL.of ha, fun l1 hl1 => ⟨l1, _, rfl, .inl ⟨SqL.of upd_same, fun c hc0 => ?_⟩⟩⟩
          have ecut : cutV (svs ws) none (some (-2)) = svs cols := by rw [cutV_m2, svs_len, svs_take, hc]
          have b2 : But [] H1 (upd (upd H1 l1 (.lst (cutV (svs ws) none (some (-2))))) c (.tup (cutV (svs ws) none (some (-2))))) := (newB hl1).new hc0
          generalize hH2 : upd (upd H1 l1 (.lst (cutV (svs ws) none (some (-2))))) c (.tup (cutV (svs ws) none (some (-2)))) = H2 at b2
          have hc2 : H2 c = some (.tup (svs cols)) := by rw [← hH2, upd_same, ecut]
          -- targets
          refine ⟨_, rfl, _, rfl, tgt_go rfl rfl (b2.at hab1) (by have := hva.1; omega) fun tg htg => ?_⟩
          have b3 := b2.new (o := .lst (if req = true then va else va ++ [V.ref tb])) htg
          generalize hvt : (if req = true then va else va ++ [V.ref tb]) = vt at b3
          generalize hH3 : upd H2 tg (.lst vt) = H3 at b3
          have htg3 : H3 tg = some (.lst vt) := by rw [← hH3, upd_same]
          have f3 : Fix CR H1 H3 := b3.fix0
          have ht3 := ht1.fix T.nT f3
          have hvt3 : Each (TblR CT H3) vt (targets req t above) := by
            have e1 := hva1.mono fun _ _ q => q.fix T.nT f3
            rw [← hvt]
            unfold targets
            cases req with
            | true => exact e1
            | false => exact e1.snoc ht3
          have ha3 : H3 a = some (.lst (svs ws)) := b3.at ha
          have hc3 : H3 c = some (.tup (svs cols)) := by rw [← hH3, upd_ne (ne_of_none hc2 htg)]; exact hc2
          have hvz : vt.length ≤ 1000 := by rw [hvt3.1]; unfold targets; cases req <;> simp <;> omega
          -- found
          refine ⟨_, rfl, tg, rfl, ⟨_, SqL.of htg3⟩, fun D hD => ?_⟩
          refine lc_grow (fun i => ((targets req t above)[i]?).bind fun x => if x.name == tgt then vt[i]? else none) (walk_list (K := K) (a := tg) (xs := vt)) hD (fun H' b => SqL.of (b.at htg3)) (fun i x acc H6 H7 N hi hz b6 hD6 y hy hy0 => ?_) (fun H7 b7 hD7 => ?_)
          · obtain ⟨rfl, hx⟩ := y
            obtain ⟨o, ho, q, dq, ca, ua, ra, kss, rss, rfl, hq, _⟩ := hvt3.at hx
            have hq7 := (b6.fix0 (CR := CR)) q _ hq T.nT
            refine ⟨rfl, _, rfl, q, CT, dq, _, _, rfl, hq7, T.clT, T.naT1, tf_name, _, rfl, 1, rfl, a, svs ws, _, _, rfl, rfl, SqL.of (b6.at ha3), at1, rfl, _, rfl, ?_⟩
            rw [sv_eq]
            refine ite2 (fun h => ?_) (fun h => ?_)
            · exact ⟨_, rfl, lc_putG b6 hD hD6 (by omega) fun H'' bb hh => hy _ H'' (by rw [ho, Option.bind_some, if_pos h]; exact hx) bb hh⟩
            · exact hy0 H7 (by rw [ho, Option.bind_some, if_neg h]) b6 hD6
          · have hfd := each_filter (fun x => x.name == tgt) (hvt3.mono fun _ _ q => q.fix T.nT (b7.fix0 (CR := CR)))
            have hD7' : H7 D = some (.lst ((List.range vt.length).filterMap fun i => ((targets req t above)[i]?).bind fun x => if x.name == tgt then vt[i]? else none)) := hD7
            generalize (List.range vt.length).filterMap (fun i => ((targets req t above)[i]?).bind fun x => if x.name == tgt then vt[i]? else none) = fd' at hfd hD7'
            have hfd : Each (TblR CT H7) fd' (foundIn req t above tgt) := hfd
            have b17 := b3.trans b7
            have R7 := R1.keep0 b17
            have bp7 : But [p] H H7 := b1.trans (But.of b17)
            have hc7 := b7.at hc3
            have ha7 := b7.at ha3
            have ht7 := ht1.fix T.nT (b17.fix0 (CR := CR))
            -- need(len(found) == 1 and len(found[0].unique[0]) == len(columns))
            refine ⟨_, rfl, p, d, _, rfl, R7.at_, rfl, _, rfl, D, _, rfl, .inl (SqL.of hD7'), rfl, _, rfl, ?_⟩
            have e1 : decide (V.int ((fd'.length : Nat) : Int) = V.int 1) = ((foundIn req t above tgt).length == 1) := by
              rw [hfd.1]; exact nat_eq _ 1
            rw [e1]
            refine Or.elim (Decidable.em ((foundIn req t above tgt).length = 1)).symm (fun hone => ?_) (fun hone => ?_)
            · have e2 : ((foundIn req t above tgt).length == 1) = false := beq_eq_false_iff_ne.mpr hone
              have e3 : fits (foundIn req t above tgt) cols = false := by
                unfold fits
                split
                · rename_i f e; rw [e] at hone; exact absurd rfl hone
                · rfl
              rw [e3] at k
              rw [e2]
              exact iteF ⟨p, d, r, L, n, false, rfl, R7, iteF (k.later bp7)⟩
            · obtain ⟨fo, efo⟩ : ∃ fo, foundIn req t above tgt = [fo] := by
                cases e : foundIn req t above tgt with
                | nil => rw [e] at hone; simp at hone
                | cons x rr => cases rr with
                  | nil => exact ⟨x, rfl⟩
                  | cons y rr => rw [e] at hone; simp at hone
              have efits : fits (foundIn req t above tgt) cols = ((fo.keys.headD []).length == cols.length) := by rw [efo]; rfl
              rw [efits] at k
              have hfo := foundIn_mem (f := fo) (req := req) (t := t) (above := above) (tgt := tgt) (by rw [efo]; exact List.mem_singleton.mpr rfl)
              have fk0 : fo.keys ≠ [] := by
                rcases hfo.1 with z | z
                · exact (hwf fo z).keys0
                · rw [z]; exact hk0
              have fk3 : ∀ q ∈ fo.keys, q.length ≤ 3 := by
                rcases hfo.1 with z | z
                · exact fun q hq => ((hwf fo z).key q hq).1
                · rw [z]; exact hk3
              rw [efo] at hfd
              obtain ⟨v, hv0, q, dq, ca, ua, ra, kss, rss, rfl, hq, _, hua, hkss, _⟩ := hfd.atx (i := 0) rfl
              obtain ⟨fk, fkr, efk⟩ : ∃ fk fkr, fo.keys = fk :: fkr := by
                cases e : fo.keys with
                | nil => exact absurd e fk0
                | cons x rr => exact ⟨x, rr, rfl⟩
              obtain ⟨kv, hkv, ka, rfl, hka⟩ := hkss.atx (i := 0) (x := fk) (by rw [efk]; rfl)
              have e2 : ((foundIn req t above tgt).length == 1) = true := by rw [efo]; rfl
              rw [e2]
              refine iteT ⟨_, rfl, D, fd', 0, _, rfl, rfl, SqL.of hD7', (atI_nat (j := 0) hv0), q, CT, dq, _, _, rfl, hq, T.clT, T.naT3, tf_unique, ua, kss, 0, _, rfl, rfl, SqT.of hua, (atI_nat (j := 0) hkv), ka, _, rfl, .inr (SqT.of hka), _, rfl, c, _, rfl, .inr (SqT.of hc7), rfl, p, d, r, L, n, _, rfl, R7, ?_⟩
              rw [svs_len, svs_len, nat_eq]
              have e4 : (fo.keys.headD []).length = fk.length := by rw [efk]; rfl
              rw [e4] at k
              refine ite2n (fun hf => ?_) (fun hf => ?_)
              · rw [if_neg hf] at k
                exact k.later bp7
              · rw [if_pos hf] at k
                have hc3 : cols.length ≤ 3 := by have := fk3 fk (by rw [efk]; exact List.mem_cons_self); have := eq_of_beq hf; omega
                obtain ⟨tb', dt, ca', ua', ra', ks', rs', etb, htb7, hca7, hua7, hks7, _⟩ := ht7
                cases etb
                -- need(are_different(columns, table.columns))
                refine ⟨_, rfl, p, d, _, rfl, R7.at_, rfl, _, rfl, _, rfl, tb, CT, dt, _, _, rfl, htb7, T.clT, T.naT2, tf_columns, c, ca', cols, t.cols, rfl, SqT.of hc7, .inr (SqT.of hca7), by omega, fun H8 b8 => ⟨p, d, r, L, n, _, rfl, R7.keep0 b8, ?_⟩⟩
                have bp8 : But [p] H H8 := bp7.trans (But.of b8)
                have R8 := R7.keep0 b8
                refine ite2n (fun hdf => ?_) (fun hdf => ?_)
                · rw [if_neg hdf] at k
                  exact k.later bp8
                · rw [if_pos hdf] at k
                  have fin : ∀ H9 v, But [] H8 H9 → H9 v = none → barred req t cols = false → Q (.ref v) (upd H9 v (.tup [.ref c, sv tgt, .bl req])) := fun H9 v b9 hv hb => by
                    rw [hb] at k
                    have k : ∀ H' v, But [p] H H' → RowsAt CR H' p d r L (n + 1) → RefR H' v (cols, tgt, req) → Q v H' := k
                    have hc9 : H9 c = some (.tup (svs cols)) := b9.at (b8.at hc7)
                    exact k _ _ (bp8.trans (But.of (b9.new hv))) ((R8.keep0 b9).keep0 (newB hv)) ⟨v, c, rfl, upd_same, by rw [upd_ne (ne_of_none hc9 hv)]; exact hc9⟩
                  refine ⟨_, rfl, req, rfl, ?_⟩
                  cases req with
                  | true =>
                    exact iteF ⟨_, rfl, _, rfl, 1, rfl, a, svs ws, _, _, rfl, rfl, SqL.of (b8.at ha7), at1, _, rfl, (by show 3 ≤ sizeLine; decide), fun v hv => fin H8 v But.refl hv rfl⟩
                  | false =>
                    refine iteT ?_
                    have hc8 : H8 c = some (.tup (svs cols)) := b8.at hc7
                    have hua8 := b8.at hua7
                    have hks8 : Each (KeyR H8) ks' t.keys := hks7.mono fun _ _ q => q.fix (b8.fix0 (CR := CR))
                    refine ⟨_, rfl, p, d, _, rfl, R8.at_, rfl, _, rfl, tb, CT, dt, _, _, rfl, b8.at htb7, T.clT, T.naT3, tf_unique, ua', rfl, ⟨_, SqT.of hua8⟩, fun D2 hD2 => ?_⟩
                    refine turns (walk_tup (K := K) (a := ua') (xs := ks')) (fun i H' => H' = upd H8 D2 (.lst ((t.keys.take i).flatMap fun q => cols.map fun x => V.bl (q.contains x)))) rfl (fun i H' _ e => by rw [e]; exact SqT.of ((newB hD2).at hua8)) (fun i x H6 H6' hi e y => ?_) (fun H' e => ?_)
                    · obtain ⟨rfl, hx⟩ := y
                      obtain ⟨key, hkey, qa, rfl, hqa⟩ := hks8.at hx
                      subst e
                      have hi3 : i < t.keys.length := (List.getElem?_eq_some_iff.mp hkey).1
                      refine ⟨rfl, _, rfl, c, rfl, ⟨_, SqT.of ((newB hD2).at hc8)⟩, ?_⟩
                      refine turns (walk_tup (K := K) (a := c) (xs := svs cols)) (fun j H' => H' = upd H8 D2 (.lst (((t.keys.take i).flatMap fun q => cols.map fun x => V.bl (q.contains x)) ++ (cols.take j).map fun x => V.bl (key.contains x)))) (by simp) (fun j H' _ e => by rw [e]; exact SqT.of ((newB hD2).at hc8)) (fun j x H5 H5' hj e y => ?_) (fun H' e => ?_)
                      · obtain ⟨rfl, hx⟩ := y
                        obtain ⟨cc, hcc, rfl⟩ := svs_get hx
                        subst e
                        refine ⟨rfl, _, rfl, _, rfl, qa, svs key, rfl, .inr (SqT.of ((newB hD2).at hqa)), rfl, flat_svs _, _, upd_same, szt ?_, ?_⟩
                        · rw [List.length_append, List.length_map, List.length_flatMap]
                          have hs : ((t.keys.take i).map fun q => (cols.map fun x => V.bl (q.contains x)).length).sum = (t.keys.take i).length * cols.length := by
                            simp [List.map_const', List.sum_replicate_nat]
                          rw [hs]
                          have h1 : (t.keys.take i).length ≤ 3 := by rw [List.length_take]; omega
                          have h2 : (cols.take j).length ≤ 3 := by rw [List.length_take]; omega
                          have h4 : (t.keys.take i).length * cols.length ≤ 3 * 3 := Nat.mul_le_mul h1 hc3
                          omega
                        · rw [upd_upd]
                          congr 2
                          have st : cols.take (j + 1) = cols.take j ++ [cc] := by rw [List.take_add_one, hcc]; rfl
                          rw [st, List.map_append, ← List.append_assoc]
                          congr 2
                          show V.bl (inV (sv cc) (svs key)) = _
                          rw [inV_svs]
                      · rw [e]
                        congr 2
                        have st : t.keys.take (i + 1) = t.keys.take i ++ [key] := by rw [List.take_add_one, hkey]; rfl
                        rw [svs_len, List.take_length, st, List.flatMap_append]
                        simp
                    · rw [hks8.1, List.take_length] at e
                      refine ⟨D2, t.keys.flatMap fun q => cols.map fun x => q.contains x, rfl, .inl (.inl ?_), _, rfl, p, d, r, L, n, _, rfl, ?_, ?_⟩
                      · rw [e, upd_same]
                        congr 2
                        rw [List.map_flatMap]
                        congr 1; funext q
                        rw [List.map_map]; rfl
                      · rw [e]; exact R8.keep0 (newB hD2)
                      · have eb : (!(t.keys.flatMap fun q => cols.map fun x => q.contains x).any id) = !barred false t cols := by
                          unfold barred
                          rw [List.any_flatMap]
                          simp [List.any_map, Function.comp_def]
                        rw [eb]
                        have bH : But [] H8 H' := by rw [e]; exact newB hD2
                        refine ite2n (fun hb => ?_) (fun hb => ?_)
                        · have hb' : barred false t cols = true := by rw [Bool.not_eq_true, Bool.not_eq_false'] at hb; exact hb
                          rw [hb'] at k
                          exact ErrE.later k (bp8.trans (But.of bH))
                        · have hb' : barred false t cols = false := by rw [Bool.not_eq_true'] at hb; exact hb
                          exact ⟨_, rfl, _, rfl, 1, rfl, a, svs ws, _, _, rfl, rfl, SqL.of (bH.at (b8.at ha7)), at1, _, rfl, (by show 3 ≤ sizeLine; decide), fun v hv => fin H' v bH hv hb'⟩
end
end Cn
set_option Elab.async false
set_option linter.all false
set_option maxRecDepth 100000
set_option maxHeartbeats 4000000
/-! references, tables -/
namespace Cn
open PySem L2
section
variable {P : Program} {w : World} {K : PySem.W.Frag} {mg : Str → Option Value} {base : Heap} {CR CT CS CI : Addr} {f : Addr} {fd : FuncData}
def sp_read_references (CR CT CI : Addr) : Sp := fun vs H Q E => ∃ p d r tb ab L n t va above, vs = [.ref p, .ref tb, .ref ab] ∧ RowsAt CR H p d r L n ∧ n ≤ L.length ∧ TblR CT H (.ref tb) t ∧ H ab = some (.lst va) ∧ Each (TblR CT H) va above ∧
  above.length ≤ 5 ∧ (∀ a ∈ above, WfT a) ∧ t.keys ≠ [] ∧ (∀ k ∈ t.keys, k.length ≤ 3) ∧ t.keys.length ≤ 3 ∧ t.cols.length ≤ 5 ∧ t.name.length ≤ 8 ∧ match refsLoop L t above 3 n [] with
  | .error e => ErrE CI p H E e
  | .ok (refs, n') => ∀ H' l vr, But [p] H H' → RowsAt CR H' p d r L n' → n' ≤ L.length → H l = none → H' l = some (.lst vr) → Each (RefR H') vr refs → Q (.ref l) H'
theorem readRef_lt {L : List Cn.T} {n : Nat} {t : Tbl} {above : List Tbl} {q : List Cn.T × Cn.T × Bool} (h : readRef L n t above = .ok q) : n < L.length := by
  unfold readRef at h
  split at h
  · cases h
  · rename_i ws hw
    exact words_lt hw
theorem or_go2 {A B : Bool} {X Y : Prop} (hx : (A || B) = true → X) (hy : (A || B) = false → Y) {G : Prop} (hb : (if B = true then X else Y) → G) : if A = true then (if true = true then X else Y) else G := or_go hx hy hb
theorem ok_read_references (F : Fun K "read_references" "read_references" s_read_references f fd) (T : Txt K mg CR CT CS) (c_Rows_begins : Met P w K mg base 2 CR "begins" (sp_begins CR)) (c_Rows_need : Met P w K mg base 3 CR "need" (sp_need CR CI))
    (c_read_reference : Cal P w K mg base 4 "read_reference" (sp_read_reference CR CT CI)) : FnOk P w K mg base (L2.CX P w) 5 f fd ["rows", "table", "above"] (sp_read_references CR CT CI) := by
  refine F.okX sc_read_references (fun vs H Q E h => ?_) (fun cdv A outer s H vs Q E hr h => ?_)
  · obtain ⟨p, d, r, tb, ab, L, n, t, va, above, rfl, _⟩ := h
    rfl
  · obtain ⟨p, d, r, tb, ab, L, n, t, va, above, rfl, R, hn, ht, hab, hva, h5, hwf, hk0, hk3, hkl, hcl, hnl, k⟩ := h
    refine ⟨_, (pss_cons (ps_set (i := 3) sc_read_references.nd rfl (Or.inl rfl) (pe_lst pa_nil))
  (pss_cons (ps_while (passes_of rfl) (PW.pt (pw_or (pt_val (p_meth E c_Rows_begins hr (by decide) (passX rfl rfl rfl (takes_of rfl rfl rfl rfl)) (pv 0) (pa_cons pe_str pa_nil))) (pw_or1 (pt_val (p_meth E c_Rows_begins hr (by decide) (passX rfl rfl rfl (takes_of rfl rfl rfl rfl)) (pv 0) (pa_cons pe_str pa_nil))))))
  (pss_cons (ps_set (i := 4) sc_read_references.nd rfl (Or.inl rfl) (p_call E c_read_reference hr (by decide) (by rfl) (passX rfl rfl rfl (takes_of rfl rfl rfl rfl)) (pa_cons (pv 0) (pa_cons (pv 1) (pa_cons (pv 2) pa_nil)))))
  (pss_cons (ps_set (i := 5) sc_read_references.nd rfl (Or.inr rfl) (pe_lc2 (own := [("other", 6), ("column", 7)]) (vs1 := [7]) (g := gName 6) (g1 := gName 7) (tt := tYes) (tt1 := tYes) (by rfl) sc_read_references.nd (pi_listK K rfl (pv 3)) (blkOk_by (own := [("other", 6), ("column", 7)]) (N := ["rows", "table", "above", "refers", "refer", "taken", "other", "column"]) (sc := (defScope s_read_references)) (by decide +kernel)) (by decide) (fun _ _ _ _ _ => (pg_name (i := 6) sc_read_references.nd rfl (Or.inl rfl))) (fun _ _ _ _ _ => pts_nil) (fun _ _ _ _ _ => (pi_tupK K rfl (pe_ix (ix_tupK K rfl) (pv 6) pe_int (fun _ _ => rfl)))) (fun _ _ _ _ _ => (pg_name (i := 7) sc_read_references.nd rfl (Or.inl rfl))) (fun _ _ _ _ _ => pts_nil) (fun _ _ _ _ _ => (pv 7))))
  (pss_cons (ps_expr (p_meth E c_Rows_need hr (by decide) (passX rfl rfl rfl (takes_of rfl rfl rfl rfl)) (pv 0) (pa_cons (pe_not (pe_callB (cr_anyK K rfl (by rfl)) (by rfl) T.b_any (by decide +kernel) (pa_cons (pe_lc (own := [("column", 7)]) (g := gName 7) (tt := tYes) (by rfl) sc_read_references.nd (pi_tupK K rfl (pe_ix (ix_tupK K rfl) (pv 4) pe_int (fun _ _ => rfl))) (blkOk_by (own := [("column", 7)]) (N := ["rows", "table", "above", "refers", "refer", "taken", "other", "column"]) (sc := (defScope s_read_references)) (by decide +kernel)) (fun _ _ _ _ _ => (pg_name (i := 7) sc_read_references.nd rfl (Or.inl rfl))) (fun _ _ _ _ _ => pts_nil) (fun _ _ _ _ _ => (pe_cmpR (op_in_seqK K rfl) (pv 7) (pv 5) (by rfl)))) pa_nil))) pa_nil)))
  (pss_cons (ps_expr (pe_bm PySem.F.plainAttrs_list PySem.F.slot_list_append PySem.F.type_list_append mt_append (pv 3) (pa_cons (pv 4) pa_nil)))
  (pss_one (ps_expr (p_meth E c_Rows_need hr (by decide) (passX rfl rfl rfl (takes_of rfl rfl rfl rfl)) (pv 0) (pa_cons (pe_cmpR op_le (pe_callB (call_len_seqK K rfl) (by rfl) T.b_len (by decide +kernel) (pa_cons (pv 3) pa_nil)) (p_gint T.g_MOST_REFERENCES) (nomark _)) pa_nil)))))))))
  (pss_one (ps_ret (pv 3))))), ?_⟩
    refine ⟨Nat.zero_le _, fun l hl => ?_⟩
    have npl : p ≠ l := ne_of_none R.at_ hl
    have nrl : r ≠ l := ne_of_none R.rows hl
    have nabl : ab ≠ l := ne_of_none hab hl
    have habp : ab ≠ p := ne_of hab R.at_ (by intro z; cases z)
    refine ⟨fun m σ H' => ∃ refs vr n' v4 v5 v6 v7, σ = [some (.ref p), some (.ref tb), some (.ref ab), some (.ref l), v4, v5, v6, v7] ∧ But [p] H H' ∧ Fix CR H H' ∧ H' l = some (.lst vr) ∧ Each (RefR H') vr refs ∧ RowsAt CR H' p d r L n' ∧ n' ≤ L.length ∧ refs.length ≤ 2 ∧ (∀ q ∈ refs, q.1.length ≤ 3) ∧
      m + refs.length = 3 ∧ refsLoop L t above m n' refs = refsLoop L t above 3 n [],
      ⟨3, [], [], n, none, none, none, none, rfl, But.refl.new hl, Fix.refl.new hl, upd_same, Each.nil, R.keep0 (newB hl), hn, by simp, by simp, rfl, rfl⟩, ?_⟩
    rintro m σ H1 ⟨refs, vr, n1, v4, v5, v6, v7, rfl, b1, f1, hl1, hr1, R1, hn1, h2, hq3, hm, he⟩
    obtain ⟨m, rfl⟩ : ∃ m', m = m' + 1 := ⟨m - 1, by omega⟩
    refine ⟨_, rfl, p, d, _, rfl, R1.at_, rfl, p, d, r, L, n1, kRef, rfl, R1, hn1, _, rfl, or_go (B := begins L n1 kOpt) (fun ht0 => ⟨_, fun _ _ z => z, ?_⟩) (fun ht0 => ?_) (fun g => ⟨_, rfl, p, d, _, rfl, R1.at_, rfl, p, d, r, L, n1, kOpt, rfl, R1, hn1, _, rfl, g⟩)⟩
    · have e0 : refsLoop L t above (m + 1) n1 refs = (match readRef L n1 t above with
        | .error e => .error e
        | .ok r => if r.1.any fun c => (refs.flatMap (·.1)).contains c then .error n1 else if refs.length + 1 ≤ 2 then refsLoop L t above m (n1 + 1) (refs ++ [r]) else .error n1) := by
        show (if (begins L n1 kRef || begins L n1 kOpt) = true then _ else _) = _
        rw [ht0]; rfl
      have hab1 : H1 ab = some (.lst va) := b1.at1 hab habp
      refine ⟨_, rfl, _, rfl, _, rfl, p, d, r, tb, ab, L, n1, t, va, above, rfl, R1, hn1, ht.fix T.nT f1, hab1, hva.mono fun _ _ q => q.fix T.nT f1, h5, hwf, hk0, hk3, hkl, hcl, ?_⟩
      cases hw : readRef L n1 t above with
      | error e =>
        rw [hw] at e0
        have e0 : refsLoop L t above (m + 1) n1 refs = .error e := e0
        rw [← he, e0] at k
        exact k.later b1
      | ok q =>
        rw [hw] at e0
        have e0 : refsLoop L t above (m + 1) n1 refs = if q.1.any fun c => (refs.flatMap (·.1)).contains c then .error n1 else if refs.length + 1 ≤ 2 then refsLoop L t above m (n1 + 1) (refs ++ [q]) else .error n1 := e0
        have lt := readRef_lt hw
        have hqok := readRef_ok hw hnl hwf hk3 hk0
        intro H2 v b2 R2 hv
        obtain ⟨qa, qc, rfl, hqa, hqc⟩ := hv
        have f2 : Fix CR H1 H2 := R1.fix b2
        have hl2 := b2.at1 hl1 npl.symm
        have hr2 : Each (RefR H2) vr refs := hr1.mono fun _ _ z => z.fix f2
        -- taken
        refine ⟨_, rfl, l, rfl, ⟨_, SqL.of hl2⟩, fun D hD => ?_⟩
        have hz3 : ∀ i, ((refs.take i).flatMap (·.1)).length ≤ 6 := fun i => by
          have : ∀ (xs : List (List Cn.T × Cn.T × Bool)), (∀ q ∈ xs, q.1.length ≤ 3) → (xs.flatMap (·.1)).length ≤ 3 * xs.length := fun xs => by
            induction xs with
            | nil => intro _; simp
            | cons x r ih => intro h; have h1 := h x List.mem_cons_self; have h4 := ih fun q hq => h q (List.mem_cons_of_mem _ hq); rw [List.flatMap_cons, List.length_append, List.length_cons]; omega
          have h1 := this (refs.take i) fun q hq => hq3 q (List.mem_of_mem_take hq)
          have h4 : (refs.take i).length ≤ refs.length := by rw [List.length_take]; omega
          omega
        refine turns (walk_list (K := K) (a := l) (xs := vr)) (fun i H' => H' = upd H2 D (.lst (svs ((refs.take i).flatMap (·.1))))) rfl (fun i H' _ e => by rw [e]; exact SqL.of ((newB hD).at hl2)) (fun i x H6 H6' hi e y => ?_) (fun H' e => ?_)
        · obtain ⟨rfl, hx⟩ := y
          obtain ⟨o, ho, oa, oc, rfl, hoa, hoc⟩ := hr2.at hx
          subst e
          have bD := newB (o := .lst (svs ((refs.take i).flatMap (·.1)))) hD
          refine ⟨rfl, _, rfl, oa, _, 0, .ref oc, rfl, rfl, SqT.of (bD.at hoa), rfl, oc, rfl, ⟨_, SqT.of (bD.at hoc)⟩, ?_⟩
          refine turns (walk_tup (K := K) (a := oc) (xs := svs o.1)) (fun j H' => H' = upd H2 D (.lst (svs ((refs.take i).flatMap (·.1) ++ o.1.take j)))) (by simp) (fun j H' _ e => by rw [e]; exact SqT.of ((newB hD).at hoc)) (fun j x H5 H5' hj e y => ?_) (fun H' e => ?_)
          · obtain ⟨rfl, hx⟩ := y
            obtain ⟨cc, hcc, rfl⟩ := svs_get hx
            subst e
            have ho3 := hq3 o (List.mem_of_getElem? ho)
            refine ⟨rfl, _, rfl, _, upd_same, szt ?_, ?_⟩
            · rw [svs_len, List.length_append, List.length_take]
              have := hz3 i
              omega
            · rw [upd_upd]
              congr 2
              have st : o.1.take (j + 1) = o.1.take j ++ [cc] := by rw [List.take_add_one, hcc]; rfl
              rw [st, ← List.append_assoc, svs_app (_ ++ _)]; rfl
          · rw [e]
            congr 2
            have st : refs.take (i + 1) = refs.take i ++ [o] := by rw [List.take_add_one, ho]; rfl
            rw [svs_len, List.take_length, st, List.flatMap_append]
            simp
        · rw [hr2.1, List.take_length] at e
          have bH : But [] H2 H' := by rw [e]; exact newB hD
          have hD' : H' D = some (.lst (svs (refs.flatMap (·.1)))) := by rw [e, upd_same]
          have R3 := R2.keep0 bH
          have b3 : But [p] H1 H' := b2.trans (But.of bH)
          -- need(not any([column in taken for column in refer[0]]))
          refine ⟨_, rfl, p, d, _, rfl, R3.at_, rfl, _, rfl, qa, _, 0, .ref qc, rfl, rfl, SqT.of (bH.at hqa), rfl, qc, rfl, ⟨_, SqT.of (bH.at hqc)⟩, fun D2 hD2 => ?_⟩
          refine lc_pure (svs q.1) (fun v => some (.bl (inV v (svs (refs.flatMap (·.1)))))) (walk_tup (K := K) (a := qc)) rfl yat (fun acc => SqT.of ((newB hD2).at (bH.at hqc))) (fun i x acc N hx hlen hy _ => ?_) ?_
          · obtain ⟨cc, hcc, rfl⟩ := svs_get hx
            exact ⟨rfl, _, rfl, _, rfl, D, _, rfl, .inl (SqL.of ((newB hD2).at hD')), rfl, flat_svs _, lc_put (szt (by have := (List.getElem?_eq_some_iff.mp hcc).1; have := hqok.1; omega)) (hy _ rfl)⟩
          · refine ⟨D2, q.1.map fun c => (refs.flatMap (·.1)).contains c, rfl, .inl (.inl (by rw [upd_same, in_all])), _, rfl, p, d, r, L, n1, _, rfl, R3.keep0 (newB hD2), ?_⟩
            have eb : (!(q.1.map fun c => (refs.flatMap (·.1)).contains c).any id) = !(q.1.any fun c => (refs.flatMap (·.1)).contains c) := by rw [List.any_map]; rfl
            rw [eb]
            have b4 := b3.trans (But.of (newB (o := .lst ((svs q.1).filterMap fun v => some (.bl (inV v (svs (refs.flatMap (·.1))))))) hD2))
            generalize hH4 : upd H' D2 (.lst ((svs q.1).filterMap fun v => some (.bl (inV v (svs (refs.flatMap (·.1))))))) = H4 at b4
            have bD2 : But [] H' H4 := by rw [← hH4]; exact newB hD2
            refine ite2n (fun ha => ?_) (fun ha => ?_)
            · have ha' : (q.1.any fun c => (refs.flatMap (·.1)).contains c) = true := by rw [Bool.not_eq_true, Bool.not_eq_false'] at ha; exact ha
              rw [ha'] at e0
              have e0 : refsLoop L t above (m + 1) n1 refs = .error n1 := e0
              rw [← he, e0] at k
              exact ErrE.later k (b1.trans b4)
            · have ha' : (q.1.any fun c => (refs.flatMap (·.1)).contains c) = false := by rw [Bool.not_eq_true'] at ha; exact ha
              rw [ha'] at e0
              have e0 : refsLoop L t above (m + 1) n1 refs = if refs.length + 1 ≤ 2 then refsLoop L t above m (n1 + 1) (refs ++ [q]) else .error n1 := e0
              have hl4 : H4 l = some (.lst vr) := bD2.at (bH.at hl2)
              have hqa4 := bD2.at (bH.at hqa)
              have hqc4 := bD2.at (bH.at hqc)
              refine ⟨_, rfl, tyList hl4, _, rfl, l, vr, .ref qa, rfl, rfl, hl4, szt (by have := hr1.1; omega), ?_⟩
              have b9 : But [p] H (upd H4 l (.lst (vr ++ [.ref qa]))) := (b1.trans b4).put0 hl
              have R9 := (R3.keep0 bD2).put (o := .lst (vr ++ [.ref qa])) npl nrl
              have f9 : Fix CR H1 (upd H4 l (.lst (vr ++ [.ref qa]))) := fun x o hx i => by
                rw [upd_ne (fun z => by rw [z, hl1] at hx; cases hx; exact i)]
                exact (R1.fix b4) x o hx i
              refine ⟨_, rfl, p, d, _, rfl, R9.at_, rfl, _, rfl, l, _, rfl, .inl (SqL.of upd_same), _, 2, rfl, rfl, p, d, r, L, n1, _, rfl, R9, ?_⟩
              have el : decide (((vr ++ [V.ref qa]).length : Int) ≤ 2) = decide (refs.length + 1 ≤ 2) := by
                rw [List.length_append, hr1.1]
                exact le_lit (n := refs.length + 1) (k := 2)
              rw [el]
              refine ite2 (fun h => ?_) (fun h => ?_)
              · have h' : refs.length + 1 ≤ 2 := of_decide_eq_true h
                rw [if_pos h'] at e0
                refine ⟨m, by omega, refs ++ [q], vr ++ [.ref qa], n1 + 1, _, _, _, _, rfl, b9, f1.trans f9, upd_same, ?_, R9, lt, by simpa using h', fun x hx => ?_, by simp; omega, by rw [← e0]; exact he⟩
                · exact (hr1.mono fun _ _ z => z.fix f9).snoc ⟨qa, qc, rfl, by rw [upd_ne (ne_of hqa4 hl4 (by intro z; cases z))]; exact hqa4, by rw [upd_ne (ne_of hqc4 hl4 (by intro z; cases z))]; exact hqc4⟩
                · rcases List.mem_append.mp hx with z | z
                  · exact hq3 x z
                  · rw [List.mem_singleton.mp z]; exact hqok.1
              · have h' : ¬ refs.length + 1 ≤ 2 := fun z => h (decide_eq_true z)
                rw [if_neg h'] at e0
                rw [← he, e0] at k
                exact k.later b9
    · have e0 : refsLoop L t above (m + 1) n1 refs = .ok (refs, n1) := by
        show (if (begins L n1 kRef || begins L n1 kOpt) = true then _ else _) = _
        rw [ht0]; rfl
      rw [← he, e0] at k
      exact ⟨_, rfl, k H1 l vr b1 R1 hn1 hl hl1 hr1⟩
end
end Cn
set_option Elab.async false
set_option linter.all false
set_option maxRecDepth 100000
set_option maxHeartbeats 4000000
/-! tables and their rows -/
namespace Cn
open PySem L2
section
variable {P : Program} {w : World} {K : PySem.W.Frag} {mg : Str → Option Value} {base : Heap} {CR CT CS CI : Addr} {f : Addr} {fd : FuncData}
/-! ### Table.__init__ -/
theorem sc_Table_init : FnScope ["self", "name", "columns", "unique", "refers"] ["self", "name", "columns", "unique", "refers"] (defScope s_Table_init) := ⟨rfl, rfl, rfl, by decide +kernel, rfl, by decide +kernel, by decide +kernel⟩
theorem sc_read_table : FnScope ["rows", "above", "name", "columns", "keys", "refers", "table"] ["rows", "above"] (defScope s_read_table) := ⟨rfl, rfl, rfl, by decide +kernel, rfl, by decide +kernel, by decide +kernel⟩
theorem sc_read_tables : FnScope ["rows", "tables"] ["rows"] (defScope s_read_tables) := ⟨rfl, rfl, rfl, by decide +kernel, rfl, by decide +kernel, by decide +kernel⟩
theorem sc_table_rows : FnScope ["table", "rows", "column", "key", "names", "columns", "target", "required", "word"] ["table"] (defScope s_table_rows) := ⟨rfl, rfl, rfl, by decide +kernel, rfl, by decide +kernel, by decide +kernel⟩
def sp_Table_init (CT : Addr) : Sp := fun vs H Q _ => ∃ (x dx c u q : Addr) (n : Cn.T) (vc vu vq : List V), vs = [.ref x, sv n, .ref c, .ref u, .ref q] ∧ H x = some (.ins CT dx []) ∧ H c = some (.lst vc) ∧ H u = some (.lst vu) ∧ H q = some (.lst vq) ∧
  ∀ H' ca ua ra, But [x] H H' → H' x = some (.ins CT dx (tf n ca ua ra)) → H' ca = some (.tup vc) → H' ua = some (.tup vu) → H' ra = some (.tup vq) → Q .non H'
theorem ok_Table_init (F : Fun K "__init__" "Table.__init__" s_Table_init f fd) (T : Txt K mg CR CT CS) : FnOk P w K mg base (L2.CX P w) 1 f fd ["self", "name", "columns", "unique", "refers"] (sp_Table_init CT) := by
  refine F.okX sc_Table_init (fun vs H Q E h => ?_) (fun cdv A outer s H vs Q E hr h => ?_)
  · obtain ⟨x, dx, c, u, q, n, vc, vu, vq, rfl, _⟩ := h
    rfl
  · obtain ⟨x, dx, c, u, q, n, vc, vu, vq, rfl, hx, hc, hu, hq, k⟩ := h
    have ncx : c ≠ x := ne_of hc hx (by intro z; cases z)
    have nux : u ≠ x := ne_of hu hx (by intro z; cases z)
    have nqx : q ≠ x := ne_of hq hx (by intro z; cases z)
    refine ⟨_, (pss_cons (ps_fldK K rfl (pv 0) (pv 1) rfl)
  (pss_cons (ps_fldK K rfl (pv 0) (pe_callTy (call_tuple_ofK K rfl) (by rfl) T.b_tuple (by decide +kernel) (pa_cons (pv 2) pa_nil)) rfl)
  (pss_cons (ps_fldK K rfl (pv 0) (pe_callTy (call_tuple_ofK K rfl) (by rfl) T.b_tuple (by decide +kernel) (pa_cons (pv 3) pa_nil)) rfl)
  (pss_one (ps_fldK K rfl (pv 0) (pe_callTy (call_tuple_ofK K rfl) (by rfl) T.b_tuple (by decide +kernel) (pa_cons (pv 4) pa_nil)) rfl))))), ?_⟩
    refine ⟨_, rfl, _, rfl, x, CT, dx, _, rfl, hx, T.clT, T.naT1, (by show 0 < 1000; decide), ?_⟩
    refine ⟨_, rfl, c, vc, rfl, .inl ⟨SqL.of (by rw [upd_ne ncx]; exact hc), fun ca hca => ?_⟩⟩
    have nca : ca ≠ x := fun z => by rw [z, upd_same] at hca; cases hca
    refine ⟨_, rfl, x, CT, dx, _, rfl, (by rw [upd_ne nca.symm, upd_same]), T.clT, T.naT2, (by show 1 < 1000; decide), ?_⟩
    have ncau : u ≠ ca := fun z => by rw [← z, upd_ne nux, hu] at hca; cases hca
    have ncaq : q ≠ ca := fun z => by rw [← z, upd_ne nqx, hq] at hca; cases hca
    refine ⟨_, rfl, u, vu, rfl, .inl ⟨SqL.of (by rw [upd_ne nux, upd_ne ncau, upd_ne nux]; exact hu), fun ua hua => ?_⟩⟩
    have nua : ua ≠ x := fun z => by rw [z, upd_same] at hua; cases hua
    have nuaca : ca ≠ ua := fun z => by rw [← z, upd_ne nca, upd_same] at hua; cases hua
    have nuaq : q ≠ ua := fun z => by rw [← z, upd_ne nqx, upd_ne ncaq, upd_ne nqx, hq] at hua; cases hua
    refine ⟨_, rfl, x, CT, dx, _, rfl, (by rw [upd_ne nua.symm, upd_same]), T.clT, T.naT3, (by show 2 < 1000; decide), ?_⟩
    refine ⟨_, rfl, q, vq, rfl, .inl ⟨SqL.of (by rw [upd_ne nqx, upd_ne nuaq, upd_ne nqx, upd_ne ncaq, upd_ne nqx]; exact hq), fun ra hra => ?_⟩⟩
    have nra : ra ≠ x := fun z => by rw [z, upd_same] at hra; cases hra
    have nraua : ua ≠ ra := fun z => by rw [← z, upd_ne nua, upd_same] at hra; cases hra
    have nraca : ca ≠ ra := fun z => by rw [← z, upd_ne nca, upd_ne nuaca, upd_ne nca, upd_same] at hra; cases hra
    refine ⟨_, rfl, x, CT, dx, _, rfl, (by rw [upd_ne nra.symm, upd_same]), T.clT, T.naT4, (by show 3 < 1000; decide), ?_⟩
    have hca0 : H ca = none := by rw [upd_ne nca] at hca; exact hca
    have hua0 : H ua = none := by rw [upd_ne nua, upd_ne nuaca.symm, upd_ne nua] at hua; exact hua
    have hra0 : H ra = none := by rw [upd_ne nra, upd_ne nraua.symm, upd_ne nra, upd_ne nraca.symm, upd_ne nra] at hra; exact hra
    refine k _ ca ua ra ?_ ?_ ?_ ?_ ?_
    · exact ((((((But.refl.put (by simp)).put0 hca0).put (by simp)).put0 hua0).put (by simp)).put0 hra0).put (by simp)
    · rw [upd_same]; rfl
    · rw [upd_ne nca, upd_ne nraca, upd_ne nca, upd_ne nuaca, upd_ne nca, upd_same]
    · rw [upd_ne nua, upd_ne nraua, upd_ne nua, upd_same]
    · rw [upd_ne nra, upd_same]

/-- what Table(..) leaves -/
theorem made_tbl {CR CT : Addr} {H H' : Hp} {x dx ca ua ra : Addr} {n : Cn.T} {cols : List Cn.T} {keys : List (List Cn.T)} {refs : List (List Cn.T × Cn.T × Bool)} {vu vq : List V} (hx : H x = none) (hdx : H dx = none) (f : But [x] (upd (upd H dx (.own x)) x (.ins CT dx [])) H') (hi : H' x = some (.ins CT dx (tf n ca ua ra)))
    (h1 : H' ca = some (.tup (svs cols))) (h2 : H' ua = some (.tup vu)) (h3 : H' ra = some (.tup vq)) (e2 : Each (KeyR H) vu keys) (e3 : Each (RefR H) vq refs) : But [] H H' ∧ TblR CT H' (.ref x) ⟨n, cols, keys, refs⟩ := by
  have b : But [] H H' := (((But.refl (l := [x])).new hdx).put (by simp) |>.trans f).drop hx
  exact ⟨b, x, dx, ca, ua, ra, vu, vq, rfl, hi, h1, h2, e2.mono fun _ _ z => z.fix (b.fix0 (CR := CR)), h3, e3.mono fun _ _ z => z.fix (b.fix0 (CR := CR))⟩

/-! ### read_table -/
theorem names_of {CT : Addr} {H : Hp} {va : List V} {above : List Tbl} (h : Each (TblR CT H) va above) : (List.range va.length).filterMap (fun i => (above[i]?).map fun t => sv t.name) = svs (above.map (·.name)) := by
  rw [h.1, range_map]
  show above.map _ = (above.map _).map sv
  rw [List.map_map]; rfl
def sp_read_table (CR CT CI : Addr) : Sp := fun vs H Q E => ∃ p d r ab L n va above, vs = [.ref p, .ref ab] ∧ RowsAt CR H p d r L n ∧ n ≤ L.length ∧ H ab = some (.lst va) ∧ Each (TblR CT H) va above ∧ above.length ≤ 5 ∧ (∀ a ∈ above, WfT a) ∧ match readTable L n above with
  | .error e => ErrE CI p H E e
  | .ok (t, n') => ∀ H' v, But [p] H H' → RowsAt CR H' p d r L n' → n' ≤ L.length → TblR CT H' v t → Q v H'
theorem exactly_lt {L : List Cn.T} {n : Nat} {r : Cn.T} (h : exactly L n r = true) : n < L.length := by
  unfold exactly at h
  have := eq_of_beq h
  exact (List.getElem?_eq_some_iff.mp this).1
theorem ok_read_table (F : Fun K "read_table" "read_table" s_read_table f fd) (T : Txt K mg CR CT CS) (c_Rows_need : Met P w K mg base 3 CR "need" (sp_need CR CI)) (c_Rows_new_name : Met P w K mg base 4 CR "new_name" (sp_new_name K CR CI))
    (c_Rows_exactly : Met P w K mg base 3 CR "exactly" (sp_exactly CR CI)) (c_read_columns : Cal P w K mg base 5 "read_columns" (sp_read_columns CR CI)) (c_read_keys : Cal P w K mg base 4 "read_keys" (sp_read_keys CR CI))
    (c_read_references : Cal P w K mg base 5 "read_references" (sp_read_references CR CT CI)) (m_Table : Mak P w K mg base 1 "Table" CT (sp_Table_init CT)) : FnOk P w K mg base (L2.CX P w) 6 f fd ["rows", "above"] (sp_read_table CR CT CI) := by
  refine F.okX sc_read_table (fun vs H Q E h => ?_) (fun cdv A outer s H vs Q E hr h => ?_)
  · obtain ⟨p, d, r, ab, L, n, va, above, rfl, _⟩ := h
    rfl
  · obtain ⟨p, d, r, ab, L, n, va, above, rfl, R, hn, hab, hva, h5, hwf, k⟩ := h
    have habp : ab ≠ p := ne_of hab R.at_ (by intro z; cases z)
    refine ⟨_, (pss_cons (ps_set (i := 2) sc_read_table.nd rfl (Or.inl rfl) (p_meth E c_Rows_new_name hr (by decide) (passX rfl rfl rfl (takes_of rfl rfl rfl rfl)) (pv 0) (pa_cons pe_str (pa_cons (pe_lc (own := [("table", 6)]) (g := gName 6) (tt := tYes) (by rfl) sc_read_table.nd (pi_listK K rfl (pv 1)) (blkOk_by (own := [("table", 6)]) (N := ["rows", "above", "name", "columns", "keys", "refers", "table"]) (sc := (defScope s_read_table)) (by decide +kernel)) (fun _ _ _ _ _ => (pg_name (i := 6) sc_read_table.nd rfl (Or.inl rfl))) (fun _ _ _ _ _ => pts_nil) (fun _ _ _ _ _ => (pe_fldK K rfl (pv 6) rfl))) pa_nil))))
  (pss_cons (ps_expr (p_meth E c_Rows_need hr (by decide) (passX rfl rfl rfl (takes_of rfl rfl rfl rfl)) (pv 0) (pa_cons (pe_cmpR op_lt (pe_callB (call_len_seqK K rfl) (by rfl) T.b_len (by decide +kernel) (pa_cons (pv 1) pa_nil)) (p_gint T.g_MOST_TABLES) (nomark _)) pa_nil)))
  (pss_cons (ps_set (i := 3) sc_read_table.nd rfl (Or.inl rfl) (p_call E c_read_columns hr (by decide) (by rfl) (passX rfl rfl rfl (takes_of rfl rfl rfl rfl)) (pa_cons (pv 0) pa_nil)))
  (pss_cons (ps_set (i := 4) sc_read_table.nd rfl (Or.inl rfl) (p_call E c_read_keys hr (by decide) (by rfl) (passX rfl rfl rfl (takes_of rfl rfl rfl rfl)) (pa_cons (pv 0) (pa_cons (pv 3) pa_nil))))
  (pss_cons (ps_set (i := 5) sc_read_table.nd rfl (Or.inl rfl) (p_call E c_read_references hr (by decide) (by rfl) (passX rfl rfl rfl (takes_of rfl rfl rfl rfl)) (pa_cons (pv 0) (pa_cons (p_make E m_Table hr (by decide) (by rfl) (passX rfl rfl rfl (takes_of rfl rfl rfl rfl)) (pa_cons (pv 2) (pa_cons (pv 3) (pa_cons (pv 4) (pa_cons (pe_lst pa_nil) pa_nil))))) (pa_cons (pv 1) pa_nil)))))
  (pss_cons (ps_expr (p_meth E c_Rows_exactly hr (by decide) (passX rfl rfl rfl (takes_of rfl rfl rfl rfl)) (pv 0) (pa_cons pe_str pa_nil)))
  (pss_one (ps_ret (p_make E m_Table hr (by decide) (by rfl) (passX rfl rfl rfl (takes_of rfl rfl rfl rfl)) (pa_cons (pv 2) (pa_cons (pv 3) (pa_cons (pv 4) (pa_cons (pv 5) pa_nil))))))))))))), ?_⟩
    -- name
    refine ⟨_, rfl, p, d, _, rfl, R.at_, rfl, _, rfl, ab, rfl, ⟨_, SqL.of hab⟩, fun D hD => ?_⟩
    refine lc_grow (fun i => (above[i]?).map fun t => sv t.name) (walk_list (K := K) (a := ab) (xs := va)) hD (fun H' b => SqL.of (b.at hab)) (fun i x acc H6 H7 N hi hz b6 hD6 y hy _ => ?_) (fun H1 b1 hD1 => ?_)
    · obtain ⟨rfl, hx⟩ := y
      obtain ⟨o, ho, q, dq, ca, ua, ra, kss, rss, rfl, hq, _⟩ := hva.at hx
      exact ⟨rfl, _, rfl, q, CT, dq, _, _, rfl, b6.at hq, T.clT, T.naT1, tf_name, lc_putG b6 hD hD6 (by have := hva.1; omega) fun H'' bb hh => hy _ H'' (by rw [ho]; rfl) bb hh⟩
    · rw [names_of hva] at hD1
      have R1 := R.keep0 b1
      refine ⟨p, d, r, D, L, n, kTable, _, rfl, R1, hn, by decide, hD1, ?_⟩
      unfold readTable at k
      cases hnm : newName L n kTable (above.map (·.name)) with
      | error e =>
        rw [hnm] at k
        exact ErrE.later k (But.of b1)
      | ok nm =>
        rw [hnm] at k
        have lt := newName_lt hnm
        have nm8 := isName_len (newName_ok hnm).1
        intro H2 b2 R2
        have bp2 : But [p] H H2 := (But.of b1).trans b2
        have hab2 : H2 ab = some (.lst va) := bp2.at1 hab habp
        -- need(len(above) < 5)
        refine ⟨_, rfl, p, d, _, rfl, R2.at_, rfl, _, rfl, ab, _, rfl, .inl (SqL.of hab2), _, 5, rfl, rfl, p, d, r, L, n, _, rfl, R2, ?_⟩
        have e5 : decide (((va.length : Nat) : Int) < 5) = decide (above.length < 5) := by
          rw [hva.1]
          by_cases z : above.length < 5
          · rw [decide_eq_true z, decide_eq_true (by omega)]
          · rw [decide_eq_false z, decide_eq_false (by omega)]
        rw [e5]
        refine ite2n (fun h => ?_) (fun h => ?_)
        · have h' : ¬ above.length < 5 := fun z => h (decide_eq_true z)
          have k : ErrE CI p H E n := by simpa [h'] using k
          exact k.later bp2
        · have h' : above.length < 5 := of_decide_eq_true h
          have k : (match colsLoop L 6 (n + 1) [] with
            | .error e => ErrE CI p H E e
            | .ok (cols, n1) => match (match keysLoop L cols 4 n1 [] with
              | .error e => (.error e : Except Nat (Tbl × Nat))
              | .ok (keys, n2) => match refsLoop L ⟨nm, cols, keys, []⟩ above 3 n2 [] with
                | .error e => .error e
                | .ok (refs, n3) => if exactly L n3 kEnd then .ok (⟨nm, cols, keys, refs⟩, n3 + 1) else .error n3) with
              | .error e => ErrE CI p H E e
              | .ok (t, n') => ∀ H' v, But [p] H H' → RowsAt CR H' p d r L n' → n' ≤ L.length → TblR CT H' v t → Q v H') := by
            have k2 := k
            simp only [h', if_true] at k2
            cases hc : colsLoop L 6 (n + 1) [] with
            | error e => rw [hc] at k2; exact k2
            | ok cn => rw [hc] at k2; exact k2
          -- columns
          refine ⟨_, rfl, p, d, r, L, n + 1, rfl, R2, lt, ?_⟩
          cases hc : colsLoop L 6 (n + 1) [] with
          | error e =>
            rw [hc] at k
            exact ErrE.later k bp2
          | ok cn =>
            obtain ⟨cols, n1⟩ := cn
            rw [hc] at k
            have ck := colsLoop_ok hc (by simp) (by simp) (by simp)
            intro H3 c b3 R3 hn3 hc0 hc3
            have bp3 := bp2.trans b3
            have k : (match (match keysLoop L cols 4 n1 [] with
              | .error e => (.error e : Except Nat (Tbl × Nat))
              | .ok (keys, n2) => match refsLoop L ⟨nm, cols, keys, []⟩ above 3 n2 [] with
                | .error e => .error e
                | .ok (refs, n3) => if exactly L n3 kEnd then .ok (⟨nm, cols, keys, refs⟩, n3 + 1) else .error n3) with
              | .error e => ErrE CI p H E e
              | .ok (t, n') => ∀ H' v, But [p] H H' → RowsAt CR H' p d r L n' → n' ≤ L.length → TblR CT H' v t → Q v H') := k
            have hcp : c ≠ p := ne_of hc3 R3.at_ (by intro z; cases z)
            -- keys
            refine ⟨_, rfl, _, rfl, p, d, r, c, L, n1, cols, rfl, R3, hn3, hc3, ?_⟩
            cases hkk : keysLoop L cols 4 n1 [] with
            | error e =>
              rw [hkk] at k
              exact ErrE.later k bp3
            | ok kn =>
              obtain ⟨keys, n2⟩ := kn
              rw [hkk] at k
              have kk := keysLoop_ok hkk (by simp) (by simp) (by simp)
              intro H4 u ks b4 R4 hn4 hu0 hu4 hks4
              have bp4 := bp3.trans b4
              have hc4 : H4 c = some (.lst (svs cols)) := b4.at1 hc3 hcp
              have k : (match (match refsLoop L ⟨nm, cols, keys, []⟩ above 3 n2 [] with
                | .error e => (.error e : Except Nat (Tbl × Nat))
                | .ok (refs, n3) => if exactly L n3 kEnd then .ok (⟨nm, cols, keys, refs⟩, n3 + 1) else .error n3) with
                | .error e => ErrE CI p H E e
                | .ok (t, n') => ∀ H' v, But [p] H H' → RowsAt CR H' p d r L n' → n' ≤ L.length → TblR CT H' v t → Q v H') := k
              -- read_references(rows, Table(name, columns, keys, []), above)
              refine ⟨_, rfl, _, rfl, _, rfl, _, rfl, Nat.zero_le _, fun q hq0 => ?_⟩
              intro x dx hx hdx ndx
              have b41 : But [] H4 (upd H4 q (.lst [])) := newB hq0
              have ncq : c ≠ q := ne_of_none hc4 hq0
              have nuq : u ≠ q := ne_of_none hu4 hq0
              generalize hHa : upd H4 q (.lst []) = Ha at hx hdx b41
              have hqa : Ha q = some (.lst []) := by rw [← hHa, upd_same]
              have stay : ∀ {y : Addr} {o : HO}, Ha y = some o → (upd (upd Ha dx (.own x)) x (.ins CT dx [])) y = some o := fun {y o} e => by
                rw [upd_ne (ne_of_none e hx), upd_ne (ne_of_none e hdx)]; exact e
              refine ⟨x, dx, c, u, q, nm, svs cols, ks, [], rfl, upd_same, stay (b41.at hc4), stay (b41.at hu4), stay hqa, fun H5 ca ua ra f5 hi5 h51 h52 h53 => ⟨rfl, ?_⟩⟩
              obtain ⟨b5, ht5⟩ := made_tbl (CR := CR) (keys := keys) (refs := []) hx hdx f5 hi5 h51 h52 h53 (hks4.mono fun _ _ z => z.fix (b41.fix0 (CR := CR))) Each.nil
              have b45 := b41.trans b5
              have bp5 := bp4.trans (But.of b45)
              have R5 := R4.keep0 b45
              have hab5 : H5 ab = some (.lst va) := bp5.at1 hab habp
              have hva5 := hva.mono fun _ _ z => z.fix T.nT (R.fix bp5)
              refine ⟨_, rfl, p, d, r, x, ab, L, n2, ⟨nm, cols, keys, []⟩, va, above, rfl, R5, hn4, ht5, hab5, hva5, h5, hwf, kk.1, fun z hz => (kk.2.2 z hz).1, kk.2.1, ck.2.1, nm8, ?_⟩
              cases hrr : refsLoop L ⟨nm, cols, keys, []⟩ above 3 n2 [] with
              | error e =>
                rw [hrr] at k
                exact ErrE.later k bp5
              | ok rn =>
                obtain ⟨refs, n3⟩ := rn
                rw [hrr] at k
                have k : (match (if exactly L n3 kEnd then (.ok (⟨nm, cols, keys, refs⟩, n3 + 1) : Except Nat (Tbl × Nat)) else .error n3) with
                  | .error e => ErrE CI p H E e
                  | .ok (t, n') => ∀ H' v, But [p] H H' → RowsAt CR H' p d r L n' → n' ≤ L.length → TblR CT H' v t → Q v H') := k
                intro H6 lr vr b6 R6 hn6 hlr0 hlr6 hrs6
                have bp6 := bp5.trans b6
                have hc6 : H6 c = some (.lst (svs cols)) := b6.at1 (b45.at hc4) hcp
                have hup : u ≠ p := ne_of hu4 R4.at_ (by intro z; cases z)
                have hu6 : H6 u = some (.lst ks) := b6.at1 (b45.at hu4) hup
                have hks6 : Each (KeyR H6) ks keys := hks4.mono fun _ _ z => (z.fix (b45.fix0 (CR := CR))).fix (R5.fix b6)
                -- rows.exactly("end")
                refine ⟨_, rfl, p, d, _, rfl, R6.at_, rfl, p, d, r, L, n3, kEnd, rfl, R6, hn6, ?_⟩
                cases hex : exactly L n3 kEnd with
                | false =>
                  rw [hex] at k
                  exact iteF (ErrE.later k bp6)
                | true =>
                  rw [hex] at k
                  have k : ∀ H' v, But [p] H H' → RowsAt CR H' p d r L (n3 + 1) → n3 + 1 ≤ L.length → TblR CT H' v ⟨nm, cols, keys, refs⟩ → Q v H' := k
                  refine iteT fun H7 b7 R7 => ?_
                  have hlrp : lr ≠ p := ne_of hlr6 R6.at_ (by intro z; cases z)
                  have hc7 := b7.at1 hc6 hcp
                  have hu7 := b7.at1 hu6 hup
                  have hl7 := b7.at1 hlr6 hlrp
                  have f7 : Fix CR H6 H7 := R6.fix b7
                  refine ⟨_, rfl, _, rfl, _, rfl, _, rfl, fun x2 dx2 hx2 hdx2 ndx2 => ?_⟩
                  have stay : ∀ {y : Addr} {o : HO}, H7 y = some o → (upd (upd H7 dx2 (.own x2)) x2 (.ins CT dx2 [])) y = some o := fun {y o} e => by
                    rw [upd_ne (ne_of_none e hx2), upd_ne (ne_of_none e hdx2)]; exact e
                  refine ⟨x2, dx2, c, u, lr, nm, svs cols, ks, vr, rfl, upd_same, stay hc7, stay hu7, stay hl7, fun H8 ca ua ra f8 hi8 h81 h82 h83 => ⟨rfl, ?_⟩⟩
                  obtain ⟨b8, ht8⟩ := made_tbl (CR := CR) (keys := keys) (refs := refs) hx2 hdx2 f8 hi8 h81 h82 h83 (hks6.mono fun _ _ z => z.fix f7) (hrs6.mono fun _ _ z => z.fix f7)
                  exact k H8 _ ((bp6.trans b7).trans (But.of b8)) (R7.keep0 b8) (exactly_lt hex) ht8

/-! ### read_tables -/
def sp_read_tables (CR CT CI : Addr) : Sp := fun vs H Q E => ∃ p d r L n, vs = [.ref p] ∧ RowsAt CR H p d r L n ∧ n ≤ L.length ∧ match tablesLoop L 6 n [] with
  | .error e => ErrE CI p H E e
  | .ok (ts, _) => ∀ H' l vt, But [p] H H' → H' l = some (.lst vt) → Each (TblR CT H') vt ts → Q (.ref l) H'
theorem ok_read_tables (F : Fun K "read_tables" "read_tables" s_read_tables f fd) (T : Txt K mg CR CT CS) (c_Rows_all_read : Met P w K mg base 1 CR "all_read" (sp_all_read CR)) (c_read_table : Cal P w K mg base 6 "read_table" (sp_read_table CR CT CI)) :
    FnOk P w K mg base (L2.CX P w) 7 f fd ["rows"] (sp_read_tables CR CT CI) := by
  refine F.okX sc_read_tables (fun vs H Q E h => ?_) (fun cdv A outer s H vs Q E hr h => ?_)
  · obtain ⟨p, d, r, L, n, rfl, _⟩ := h
    rfl
  · obtain ⟨p, d, r, L, n, rfl, R, hn, k⟩ := h
    refine ⟨_, (pss_cons (ps_set (i := 1) sc_read_tables.nd rfl (Or.inl rfl) (pe_lst pa_nil))
  (pss_cons (ps_while (passes_of rfl) (PW.pt (pw_or (pt_not (pt_truthK K rfl (pv 1) (by intro _; rfl))) (pw_or1 (pt_not (pt_val (p_meth0 E c_Rows_all_read hr (by decide) (passX rfl rfl rfl (takes_of rfl rfl rfl rfl)) (pv 0)))))))
  (pss_one (ps_expr (pe_bm PySem.F.plainAttrs_list PySem.F.slot_list_append PySem.F.type_list_append mt_append (pv 1) (pa_cons (p_call E c_read_table hr (by decide) (by rfl) (passX rfl rfl rfl (takes_of rfl rfl rfl rfl)) (pa_cons (pv 0) (pa_cons (pv 1) pa_nil))) pa_nil)))))
  (pss_one (ps_ret (pv 1))))), ?_⟩
    refine ⟨Nat.zero_le _, fun l hl => ?_⟩
    have npl : p ≠ l := ne_of_none R.at_ hl
    have nrl : r ≠ l := ne_of_none R.rows hl
    refine ⟨fun m σ H' => ∃ ts vt n', σ = [some (.ref p), some (.ref l)] ∧ But [p] H H' ∧ H' l = some (.lst vt) ∧ Each (TblR CT H') vt ts ∧ RowsAt CR H' p d r L n' ∧ n' ≤ L.length ∧ ts.length ≤ 5 ∧ (∀ t ∈ ts, WfT t) ∧ m + ts.length = 6 ∧ tablesLoop L m n' ts = tablesLoop L 6 n [],
      ⟨6, [], [], n, rfl, But.refl.new hl, upd_same, Each.nil, R.keep0 (newB hl), hn, by simp, by simp, rfl, rfl⟩, ?_⟩
    rintro m σ H1 ⟨ts, vt, n1, rfl, b1, hl1, ht1, R1, hn1, h5, hwf, hm, he⟩
    obtain ⟨m, rfl⟩ : ∃ m', m = m' + 1 := ⟨m - 1, by omega⟩
    have hvt : vt.isEmpty = ts.isEmpty := by
      have := ht1.1
      cases vt <;> cases ts <;> simp_all
    refine ⟨_, rfl, _, truL hl1, or_go (B := !(n1 == L.length)) (fun ht => ⟨_, fun _ _ z => z, ?_⟩) (fun ht => ?_) (fun g => ⟨_, rfl, p, d, _, rfl, R1.at_, rfl, p, d, r, L, n1, rfl, R1, _, rfl, g⟩)⟩
    · rw [Bool.not_not, hvt] at ht
      have e0 : tablesLoop L (m + 1) n1 ts = (match readTable L n1 ts with
        | .error e => .error e
        | .ok (t, n1) => tablesLoop L m n1 (ts ++ [t])) := by
        show (if (ts.isEmpty || !(n1 == L.length)) = true then _ else _) = _
        rw [ht]; rfl
      refine ⟨_, rfl, tyList hl1, _, rfl, _, rfl, p, d, r, l, L, n1, vt, ts, rfl, R1, hn1, hl1, ht1, h5, hwf, ?_⟩
      cases hw : readTable L n1 ts with
      | error e =>
        rw [hw] at e0
        have e0 : tablesLoop L (m + 1) n1 ts = .error e := e0
        rw [← he, e0] at k
        exact ErrE.later k b1
      | ok tn =>
        obtain ⟨t, n2⟩ := tn
        rw [hw] at e0
        have e0 : tablesLoop L (m + 1) n1 ts = tablesLoop L m n2 (ts ++ [t]) := e0
        have rt := readTable_ok hw hwf
        intro H2 v b2 R2 hn2 hv
        have hl2 := b2.at1 hl1 npl.symm
        have f2 : Fix CR H1 H2 := R1.fix b2
        have b3 : But [p] H (upd H2 l (.lst (vt ++ [v]))) := (b1.trans b2).put0 hl
        have f3 : Fix CR H2 (upd H2 l (.lst (vt ++ [v]))) := fun x o hx i => by
          rw [upd_ne (fun z => by rw [z, hl2] at hx; cases hx; exact i)]; exact hx
        refine ⟨l, vt, v, rfl, rfl, hl2, szt (by have := ht1.1; omega), m, by omega, ts ++ [t], vt ++ [v], n2, rfl, b3, upd_same, ?_, R2.put npl nrl, hn2, by simp; omega, fun x hx => ?_, by simp; omega, by rw [← e0]; exact he⟩
        · exact (ht1.mono fun _ _ z => (z.fix T.nT f2).fix T.nT f3).snoc (hv.fix T.nT f3)
        · rcases List.mem_append.mp hx with z | z
          · exact hwf x z
          · rw [List.mem_singleton.mp z]; exact rt.1
    · rw [Bool.not_not, hvt] at ht
      have e0 : tablesLoop L (m + 1) n1 ts = .ok (ts, n1) := by
        show (if (ts.isEmpty || !(n1 == L.length)) = true then _ else _) = _
        rw [ht]; rfl
      rw [← he, e0] at k
      exact ⟨_, rfl, k H1 l vt b1 hl1 ht1⟩
end
end Cn
set_option Elab.async false
set_option linter.all false
set_option maxRecDepth 100000
set_option maxHeartbeats 4000000
/-! the rows of a table -/
namespace Cn
open PySem L2
section
variable {P : Program} {w : World} {K : PySem.W.Frag} {mg : Str → Option Value} {base : Heap} {CR CT CS CI : Addr} {f : Addr} {fd : FuncData}
theorem empty_app (a : Cn.T) : Str.empty ++ S a = S a := TL.ext_tl (by rw [TL.tl_append]; rfl)
theorem S_lit {a b c : Cn.T} (h : a ++ b = c) : S a ++ S b = S c := by rw [S_app, h]
theorem svs_one {α : Type} (A : List Cn.T) (g : α → Cn.T) (c : α) : svs A ++ [sv (g c)] = svs (A ++ [c].map g) := by rw [svs_app]; rfl
def sp_table_rows (CT : Addr) : Sp := fun vs H Q _ => ∃ tb t, vs = [.ref tb] ∧ TblR CT H (.ref tb) t ∧ WfT t ∧ ∀ H' l, But [] H H' → H l = none → H' l = some (.lst (svs (tableRows t))) → Q (.ref l) H'
theorem joinT_len : ∀ ks : List Cn.T, (∀ k ∈ ks, k.length ≤ 8) → (joinT [32] ks).length ≤ 9 * ks.length
  | [], _ => by simp [joinT]
  | [p], h => by have := h p (by simp); simp [joinT]; omega
  | p :: q :: r, h => by
    have h1 := h p (by simp)
    have h2 := joinT_len (q :: r) fun k hk => h k (List.mem_cons_of_mem _ hk)
    simp [joinT] at h2 ⊢
    omega
theorem join_room {ks : List Cn.T} (h : ∀ k ∈ ks, k.length ≤ 8) (h3 : ks.length ≤ 5) : ((ks.map S).map (·.length)).sum + (ks.map S).length * (S [32]).length ≤ 16777216 := by
  have : ∀ xs : List Cn.T, (∀ k ∈ xs, k.length ≤ 8) → ((xs.map S).map (·.length)).sum ≤ 8 * xs.length := fun xs => by
    induction xs with
    | nil => intro _; simp
    | cons x r ih =>
      intro h
      have h1 := h x List.mem_cons_self
      have h4 := ih fun k hk => h k (List.mem_cons_of_mem _ hk)
      rw [List.map_cons, List.map_cons, List.sum_cons, S_len, List.length_cons]
      omega
  have h1 := this ks h
  rw [List.length_map, S_len]
  simp at h1 ⊢
  omega
theorem ok_table_rows (F : Fun K "table_rows" "table_rows" s_table_rows f fd) (T : Txt K mg CR CT CS) : FnOk P w K mg base (L2.CX P w) 1 f fd ["table"] (sp_table_rows CT) := by
  refine F.okX sc_table_rows (fun vs H Q E h => ?_) (fun cdv A outer s H vs Q E hr h => ?_)
  · obtain ⟨tb, t, rfl, _⟩ := h
    rfl
  · obtain ⟨tb, t, rfl, ht, wf, k⟩ := h
    obtain ⟨_, dx, ca, ua, ra, ks, rs, etb, htb, hca, hua, hks, hra, hrs⟩ := ht
    cases etb
    refine ⟨_, (pss_cons (ps_set (i := 1) sc_table_rows.nd rfl (Or.inl rfl) (pe_lst (pa_cons (pe_joined (.cons pe_str (.cons (pe_fmt (pe_fldK K rfl (pv 0) rfl)) .nil))) pa_nil)))
  (pss_cons (ps_for (passes_of rfl) (by rfl) (pi_tupK K rfl (pe_fldK K rfl (pv 0) rfl)) (pg_name (i := 2) sc_table_rows.nd rfl (Or.inl rfl))
  (pss_one (ps_expr (pe_bm PySem.F.plainAttrs_list PySem.F.slot_list_append PySem.F.type_list_append mt_append (pv 1) (pa_cons (pe_joined (.cons pe_str (.cons (pe_fmt (pv 2)) .nil))) pa_nil)))))
  (pss_cons (ps_for (passes_of rfl) (by rfl) (pi_tupK K rfl (pe_fldK K rfl (pv 0) rfl)) (pg_name (i := 3) sc_table_rows.nd rfl (Or.inl rfl))
  (pss_cons (ps_set (i := 4) sc_table_rows.nd rfl (Or.inl rfl) (pe_joinK K rfl pe_str (pv 3)))
  (pss_one (ps_expr (pe_bm PySem.F.plainAttrs_list PySem.F.slot_list_append PySem.F.type_list_append mt_append (pv 1) (pa_cons (pe_joined (.cons pe_str (.cons (pe_fmt (pv 4)) .nil))) pa_nil))))))
  (pss_cons (ps_for (passes_of rfl) (by rfl) (pi_tupK K rfl (pe_fldK K rfl (pv 0) rfl)) (pg_tup (by rfl) (pgs_cons (pg_name (i := 5) sc_table_rows.nd rfl (Or.inl rfl)) (pgs_cons (pg_name (i := 6) sc_table_rows.nd rfl (Or.inl rfl)) (pgs_cons (pg_name (i := 7) sc_table_rows.nd rfl (Or.inl rfl)) pgs_nil))))
  (pss_cons (ps_set (i := 8) sc_table_rows.nd rfl (Or.inl rfl) (pe_ifExp (pt_val (pv 7)) pe_str pe_str))
  (pss_cons (ps_set (i := 4) sc_table_rows.nd rfl (Or.inl rfl) (pe_joinK K rfl pe_str (pv 5)))
  (pss_one (ps_expr (pe_bm PySem.F.plainAttrs_list PySem.F.slot_list_append PySem.F.type_list_append mt_append (pv 1) (pa_cons (pe_joined (.cons pe_str (.cons (pe_fmt (pv 8)) (.cons pe_str (.cons (pe_fmt (pv 4)) (.cons pe_str (.cons (pe_fmt (pv 6)) .nil))))))) pa_nil)))))))
  (pss_cons (ps_expr (pe_bm PySem.F.plainAttrs_list PySem.F.slot_list_append PySem.F.type_list_append mt_append (pv 1) (pa_cons pe_str pa_nil)))
  (pss_one (ps_ret (pv 1)))))))), ?_⟩
    -- rows = [f"table {table.name}"]
    have z8 := wf.name
    refine ⟨S kTable, rfl, szl (by rw [empty_app, S_len]; decide), _, rfl, tb, CT, dx, _, _, rfl, htb, T.clT, T.naT1, tf_name, .inl ⟨S t.name, rfl, szl (by rw [S_len]; omega), S t.name, rfl, szl ?_, ?_⟩⟩
    · rw [empty_app, S_app, S_len, List.length_append]
      show kTable.length + _ ≤ _
      have : kTable.length = 6 := rfl
      omega
    rw [empty_app, S_app]
    refine ⟨by show 1 ≤ sizeLine; decide, fun l hl => ?_⟩
    have bl : ∀ {H' : Hp} {o : HO}, But [] H H' → But [] H (upd H' l o) := fun b => b.put0 hl
    have nl : ∀ {a : Addr} {o : HO}, H a = some o → a ≠ l := fun e => ne_of_none e hl
    -- columns
    refine ⟨_, rfl, tb, CT, dx, _, _, rfl, (newB hl).at htb, T.clT, T.naT2, tf_columns, ca, rfl, ⟨_, SqT.of ((newB hl).at hca)⟩, ?_⟩
    refine for_it (walk_tup (K := K) (a := ca) (xs := svs t.cols)) (fun i σ H' => ∃ v2 v3 v4 v5 v6 v7 v8, σ = [some (.ref tb), some (.ref l), v2, v3, v4, v5, v6, v7, v8] ∧ But [] H H' ∧ H' l = some (.lst (svs ([kTable ++ t.name] ++ (t.cols.take i).map fun c => kColumn ++ c))))
      ⟨_, _, _, _, _, _, _, rfl, newB hl, by rw [upd_same]; rfl⟩ (fun i σ H' _ ⟨_, _, _, _, _, _, _, _, b, _⟩ => SqT.of (b.at hca)) (fun i x σ H1 H1' hi ⟨v2, v3, v4, v5, v6, v7, v8, es, b, hl1⟩ y => ?_) (fun σ H1 ⟨v2, v3, v4, v5, v6, v7, v8, es, b, hl1⟩ => ?_)
    · obtain ⟨rfl, hx⟩ := y
      obtain ⟨c, hc, rfl⟩ := svs_get hx
      subst es
      have c8 := wf.col c (List.mem_of_getElem? hc)
      have hi5 : i < 5 := by have := (List.getElem?_eq_some_iff.mp hc).1; have := wf.cols; omega
      refine ⟨_, rfl, tyList hl1, S kColumn, rfl, szl (by rw [empty_app, S_len]; decide), _, rfl, .inl ⟨S c, rfl, szl (by rw [S_len]; omega), S c, rfl, szl ?_, ?_⟩⟩
      · rw [empty_app, S_app, S_len, List.length_append]
        have : kColumn.length = 9 := rfl
        omega
      rw [empty_app, S_app]
      refine ⟨l, _, _, rfl, rfl, hl1, szt (by rw [svs_len, List.length_append, List.length_map, List.length_take]; simp; omega), _, _, _, _, _, _, _, rfl, bl b, ?_⟩
      rw [upd_same]
      congr 2
      have st : t.cols.take (i + 1) = t.cols.take i ++ [c] := by rw [List.take_add_one, hc]; rfl
      rw [st, List.map_append, ← List.append_assoc]; exact svs_one _ _ _
    subst es
    rw [svs_len, List.take_length] at hl1
    -- keys
    refine ⟨_, rfl, tb, CT, dx, _, _, rfl, b.at htb, T.clT, T.naT3, tf_unique, ua, rfl, ⟨_, SqT.of (b.at hua)⟩, ?_⟩
    refine for_it (walk_tup (K := K) (a := ua) (xs := ks)) (fun i σ H' => ∃ v2 v3 v4 v5 v6 v7 v8, σ = [some (.ref tb), some (.ref l), v2, v3, v4, v5, v6, v7, v8] ∧ But [] H H' ∧ H' l = some (.lst (svs (([kTable ++ t.name] ++ t.cols.map fun c => kColumn ++ c) ++ (t.keys.take i).map fun q => kKey ++ joinT [32] q))))
      ⟨_, _, _, _, _, _, _, rfl, b, by rw [hl1]; simp⟩ (fun i σ H' _ ⟨_, _, _, _, _, _, _, _, b, _⟩ => SqT.of (b.at hua)) (fun i x σ H2 H2' hi ⟨v2, v3, v4, v5, v6, v7, v8, es, b2, hl2⟩ y => ?_) (fun σ H2 ⟨v2, v3, v4, v5, v6, v7, v8, es, b2, hl2⟩ => ?_)
    · obtain ⟨rfl, hx⟩ := y
      obtain ⟨q, hq, qa, rfl, hqa⟩ := hks.at hx
      subst es
      obtain ⟨q3, qc⟩ := wf.key q (List.mem_of_getElem? hq)
      have q8 : ∀ c ∈ q, c.length ≤ 8 := fun c hc => wf.col c (qc c hc)
      have jl := joinT_len q q8
      have hi3 : i < 3 := by have := (List.getElem?_eq_some_iff.mp hq).1; have := wf.keys; omega
      refine ⟨⟨_, rfl⟩, _, rfl, S [32], qa, q.map S, rfl, rfl, .inr (by rw [← svs_str]; exact SqT.of (b2.at hqa)), join_room q8 (by omega), ?_⟩
      rw [join_S]
      refine ⟨_, rfl, tyList hl2, S kKey, rfl, szl (by rw [empty_app, S_len]; decide), _, rfl, .inl ⟨S (joinT [32] q), rfl, szl (by rw [S_len]; omega), S (joinT [32] q), rfl, szl ?_, ?_⟩⟩
      · rw [empty_app, S_app, S_len, List.length_append]
        have : kKey.length = 6 := rfl
        omega
      rw [empty_app, S_app]
      refine ⟨l, _, _, rfl, rfl, hl2, szt (by rw [svs_len]; simp [wf.cols]; have := wf.cols; omega), _, _, _, _, _, _, _, rfl, bl b2, ?_⟩
      rw [upd_same]
      congr 2
      have st : t.keys.take (i + 1) = t.keys.take i ++ [q] := by rw [List.take_add_one, hq]; rfl
      rw [st, List.map_append, ← List.append_assoc]; exact svs_one _ _ _
    subst es
    rw [hks.1, List.take_length] at hl2
    -- references
    refine ⟨_, rfl, tb, CT, dx, _, _, rfl, b2.at htb, T.clT, T.naT4, tf_refers, ra, rfl, ⟨_, SqT.of (b2.at hra)⟩, ?_⟩
    refine for_it (walk_tup (K := K) (a := ra) (xs := rs)) (fun i σ H' => ∃ v2 v3 v4 v5 v6 v7 v8, σ = [some (.ref tb), some (.ref l), v2, v3, v4, v5, v6, v7, v8] ∧ But [] H H' ∧ H' l = some (.lst (svs ((([kTable ++ t.name] ++ t.cols.map fun c => kColumn ++ c) ++ t.keys.map fun q => kKey ++ joinT [32] q) ++ (t.refs.take i).map refRow))))
      ⟨_, _, _, _, _, _, _, rfl, b2, by rw [hl2]; simp⟩ (fun i σ H' _ ⟨_, _, _, _, _, _, _, _, b, _⟩ => SqT.of (b.at hra)) (fun i x σ H3 H3' hi ⟨v2, v3, v4, v5, v6, v7, v8, es, b3, hl3⟩ y => ?_) (fun σ H3 ⟨v2, v3, v4, v5, v6, v7, v8, es, b3, hl3⟩ => ?_)
    · obtain ⟨rfl, hx⟩ := y
      obtain ⟨q, hq, qa, qc, rfl, hqa, hqc⟩ := hrs.at hx
      subst es
      obtain ⟨q3, q28, qcc⟩ := wf.ref q (List.mem_of_getElem? hq)
      have q8 : ∀ c ∈ q.1, c.length ≤ 8 := fun c hc => wf.col c (qcc c hc)
      have jl := joinT_len q.1 q8
      have hi2 : i < 2 := by have := (List.getElem?_eq_some_iff.mp hq).1; have := wf.refs; omega
      refine ⟨qa, _, rfl, SqT.of (b3.at hqa), rfl, _, _, rfl, _, _, rfl, _, _, rfl, rfl, ?_⟩
      refine ⟨_, rfl, _, rfl, str_go ?_⟩
      refine ⟨⟨_, rfl⟩, _, rfl, S [32], qc, q.1.map S, rfl, rfl, .inr (by rw [← svs_str]; exact SqT.of (b3.at hqc)), join_room q8 (by omega), ?_⟩
      rw [join_S]
      have ew : (if q.2.2 = true then ("ref" : Str) else ("optional" : Str)) = S (if q.2.2 then [114, 101, 102] else [111, 112, 116, 105, 111, 110, 97, 108]) := by cases q.2.2 <;> rfl
      have wl : (if q.2.2 = true then ([114, 101, 102] : Cn.T) else [111, 112, 116, 105, 111, 110, 97, 108]).length ≤ 8 := by cases q.2.2 <;> decide
      rw [ew]
      have er : refRow q = [32, 32] ++ ((if q.2.2 then [114, 101, 102] else [111, 112, 116, 105, 111, 110, 97, 108]) ++ ([32] ++ (joinT [32] q.1 ++ ([32, 45, 62, 32] ++ q.2.1)))) := rfl
      generalize (if q.2.2 = true then ([114, 101, 102] : Cn.T) else [111, 112, 116, 105, 111, 110, 97, 108]) = wd at wl er ⊢
      generalize hj : joinT [32] q.1 = jn at jl er ⊢
      have sz : ∀ a : Cn.T, a.length ≤ 100 → (S a).length ≤ sizeLine := fun a h => szl (by rw [S_len]; omega)
      refine ⟨_, rfl, tyList hl3, S [32, 32], rfl, by rw [empty_app]; exact sz _ (by decide), ?_⟩
      rw [empty_app]
      refine ⟨_, rfl, .inl ⟨S wd, rfl, sz _ (by omega), S wd, rfl, by rw [S_app]; exact sz _ (by simp; omega), ?_⟩⟩
      rw [S_app]
      refine ⟨S [32], rfl, by rw [S_app]; exact sz _ (by simp; omega), ?_⟩
      rw [S_app]
      refine ⟨_, rfl, .inl ⟨S jn, rfl, sz _ (by omega), S jn, rfl, by rw [S_app]; exact sz _ (by simp; omega), ?_⟩⟩
      rw [S_app]
      refine ⟨S [32, 45, 62, 32], rfl, by rw [S_app]; exact sz _ (by simp; omega), ?_⟩
      rw [S_app]
      refine ⟨_, rfl, .inl ⟨S q.2.1, rfl, sz _ (by omega), S q.2.1, rfl, by rw [S_app]; exact sz _ (by simp; omega), ?_⟩⟩
      rw [S_app]
      refine ⟨l, _, _, rfl, rfl, hl3, szt (by rw [svs_len]; simp; have := wf.cols; have := wf.keys; omega), _, _, _, _, _, _, _, rfl, bl b3, ?_⟩
      rw [upd_same]
      congr 2
      have st : t.refs.take (i + 1) = t.refs.take i ++ [q] := by rw [List.take_add_one, hq]; rfl
      rw [st, List.map_append, ← List.append_assoc, ← svs_one]
      show _ ++ [sv _] = _ ++ [sv _]
      rw [er]
      simp only [List.append_assoc]
    subst es
    rw [hrs.1, List.take_length] at hl3
    refine ⟨_, rfl, tyList hl3, l, _, sv kEnd, rfl, rfl, hl3, szt (by rw [svs_len]; simp; have := wf.cols; have := wf.keys; have := wf.refs; omega), _, rfl, k _ l (bl b3) hl ?_⟩
    rw [upd_same]
    congr 2
    have et : tableRows t = ((([kTable ++ t.name] ++ t.cols.map fun c => kColumn ++ c) ++ t.keys.map fun q => kKey ++ joinT [32] q) ++ t.refs.map refRow) ++ [kEnd] := by
      unfold tableRows; simp only [List.append_assoc]
    rw [et, svs_app _ [kEnd]]; rfl
end
end Cn
set_option Elab.async false
set_option linter.all false
set_option maxRecDepth 100000
set_option maxHeartbeats 4000000
/-! schemas -/
namespace Cn
open PySem L2
section
variable {P : Program} {w : World} {K : PySem.W.Frag} {mg : Str → Option Value} {base : Heap} {CR CT CS CI : Addr} {f : Addr} {fd : FuncData}
theorem sc_Schema_init : FnScope ["self", "tables", "table", "row"] ["self", "tables"] (defScope s_Schema_init) := ⟨rfl, rfl, rfl, by decide +kernel, rfl, by decide +kernel, by decide +kernel⟩
theorem sc_Schema_parse : FnScope ["cls", "text", "rows"] ["cls", "text"] (defScope s_Schema_parse) := ⟨rfl, rfl, rfl, by decide +kernel, rfl, by decide +kernel, by decide +kernel⟩
theorem sc_Schema_str : FnScope ["self"] ["self"] (defScope s_Schema_str) := ⟨rfl, rfl, rfl, by decide +kernel, rfl, by decide +kernel, by decide +kernel⟩
def sf (tt : Addr) (x : Cn.T) : List (Str × V) := [("tables", .ref tt), ("_text", sv x)]
theorem sf_tables {tt : Addr} {x : Cn.T} : (sf tt x).lookup ("tables" : Str) = some (.ref tt) := by rfl
theorem sf_text {tt : Addr} {x : Cn.T} : (sf tt x).lookup ("_text" : Str) = some (sv x) := by rfl
def SchR (CS CT : Addr) (H : Hp) (v : V) (ts : List Tbl) : Prop := ∃ a dx tt vt, v = .ref a ∧ H a = some (.ins CS dx (sf tt (schemaText ts))) ∧ H tt = some (.tup vt) ∧ Each (TblR CT H) vt ts
def sp_Schema_init (CS CT : Addr) : Sp := fun vs H Q _ => ∃ x dx l vt ts, vs = [.ref x, .ref l] ∧ H x = some (.ins CS dx []) ∧ H l = some (.lst vt) ∧ Each (TblR CT H) vt ts ∧ ts.length ≤ 5 ∧ (∀ t ∈ ts, WfT t) ∧
  ∀ H' tt, But [x] H H' → H' x = some (.ins CS dx (sf tt (schemaText ts))) → H' tt = some (.tup vt) → Q .non H'
theorem rows_room {t : Tbl} (wf : WfT t) : (tableRows t).length ≤ 12 ∧ ∀ r ∈ tableRows t, r.length ≤ 100 := by
  have h1 := wf.cols; have h2 := wf.keys; have h3 := wf.refs; have h4 := wf.name
  refine ⟨by unfold tableRows; simp; omega, fun r hr => ?_⟩
  unfold tableRows at hr
  simp only [List.mem_append, List.mem_cons, List.not_mem_nil, or_false, List.mem_map] at hr
  rcases hr with rfl | ⟨c, hc, rfl⟩ | ⟨k, hk, rfl⟩ | ⟨q, hq, rfl⟩ | rfl
  · have : kTable.length = 6 := rfl
    rw [List.length_append]; omega
  · have := wf.col c hc
    have : kColumn.length = 9 := rfl
    rw [List.length_append]; omega
  · obtain ⟨k3, kc⟩ := wf.key k hk
    have := joinT_len k fun c hc => wf.col c (kc c hc)
    have : kKey.length = 6 := rfl
    rw [List.length_append]; omega
  · obtain ⟨q3, q8, qc⟩ := wf.ref q hq
    have := joinT_len q.1 fun c hc => wf.col c (qc c hc)
    have : (if q.2.2 = true then ([114, 101, 102] : Cn.T) else [111, 112, 116, 105, 111, 110, 97, 108]).length ≤ 8 := by cases q.2.2 <;> decide
    unfold refRow
    simp only [List.length_append, List.length_cons, List.length_nil]
    omega
  · decide
theorem all_room {ts : List Tbl} (h5 : ts.length ≤ 5) (wf : ∀ t ∈ ts, WfT t) : (ts.flatMap tableRows).length ≤ 60 ∧ ∀ r ∈ ts.flatMap tableRows, r.length ≤ 100 := by
  refine ⟨?_, fun r hr => ?_⟩
  · have : ∀ xs : List Tbl, (∀ t ∈ xs, WfT t) → (xs.flatMap tableRows).length ≤ 12 * xs.length := fun xs => by
      induction xs with
      | nil => intro _; simp
      | cons x r ih =>
        intro h
        have h1 := (rows_room (h x List.mem_cons_self)).1
        have h2 := ih fun k hk => h k (List.mem_cons_of_mem _ hk)
        rw [List.flatMap_cons, List.length_append, List.length_cons]; omega
    have := this ts wf
    omega
  · obtain ⟨t, ht, h⟩ := List.mem_flatMap.mp hr
    exact (rows_room (wf t ht)).2 r h
theorem join_room2 {ks : List Cn.T} {m n : Nat} (h : ∀ k ∈ ks, k.length ≤ m) (h3 : ks.length ≤ n) (hz : n * (m + 1) ≤ 16777216) : ((ks.map S).map (·.length)).sum + (ks.map S).length * (S [10]).length ≤ 16777216 := by
  have : ∀ xs : List Cn.T, (∀ k ∈ xs, k.length ≤ m) → ((xs.map S).map (·.length)).sum ≤ m * xs.length := fun xs => by
    induction xs with
    | nil => intro _; simp
    | cons x r ih =>
      intro h
      have h1 := h x List.mem_cons_self
      have h4 := ih fun k hk => h k (List.mem_cons_of_mem _ hk)
      rw [List.map_cons, List.map_cons, List.sum_cons, S_len, List.length_cons, Nat.mul_add, Nat.mul_one]
      omega
  have h1 := this ks h
  rw [List.length_map, S_len]
  have h2 : m * ks.length ≤ m * n := Nat.mul_le_mul_left m h3
  have h4 : n * (m + 1) = m * n + n := by rw [Nat.mul_add, Nat.mul_one, Nat.mul_comm]
  simp at h1 ⊢
  omega
theorem ok_Schema_init (F : Fun K "__init__" "Schema.__init__" s_Schema_init f fd) (T : Txt K mg CR CT CS) (c_table_rows : Cal P w K mg base 1 "table_rows" (sp_table_rows CT)) : FnOk P w K mg base (L2.CX P w) 2 f fd ["self", "tables"] (sp_Schema_init CS CT) := by
  refine F.okX sc_Schema_init (fun vs H Q E h => ?_) (fun cdv A outer s H vs Q E hr h => ?_)
  · obtain ⟨x, dx, l, vt, ts, rfl, _⟩ := h
    rfl
  · obtain ⟨x, dx, l, vt, ts, rfl, hx, hl, hvt, h5, wf, k⟩ := h
    have nlx : l ≠ x := ne_of hl hx (by intro z; cases z)
    refine ⟨_, (pss_cons (ps_fldK K rfl (pv 0) (pe_callTy (call_tuple_ofK K rfl) (by rfl) T.b_tuple (by decide +kernel) (pa_cons (pv 1) pa_nil)) rfl)
  (pss_one (ps_fldK K rfl (pv 0) (pe_joinK K rfl pe_str (pe_lc2 (own := [("table", 2), ("row", 3)]) (vs1 := [3]) (g := gName 2) (g1 := gName 3) (tt := tYes) (tt1 := tYes) (by rfl) sc_Schema_init.nd (pi_tupK K rfl (pe_fldK K rfl (pv 0) rfl)) (blkOk_by (own := [("table", 2), ("row", 3)]) (N := ["self", "tables", "table", "row"]) (sc := (defScope s_Schema_init)) (by decide +kernel)) (by decide) (fun _ _ _ _ _ => (pg_name (i := 2) sc_Schema_init.nd rfl (Or.inl rfl))) (fun _ _ _ _ _ => pts_nil) (fun _ _ _ _ _ => (pi_listK K rfl (p_call E0 c_table_rows hr (by decide) (by rfl) passL (pa_cons (pv 2) pa_nil)))) (fun _ _ _ _ _ => (pg_name (i := 3) sc_Schema_init.nd rfl (Or.inl rfl))) (fun _ _ _ _ _ => pts_nil) (fun _ _ _ _ _ => (pv 3)))) rfl))), ?_⟩
    refine ⟨_, rfl, l, vt, rfl, .inl ⟨SqL.of hl, fun tt htt => ?_⟩⟩
    have ntx : tt ≠ x := fun z => by rw [z, hx] at htt; cases htt
    refine ⟨_, rfl, x, CS, dx, _, rfl, (by rw [upd_ne ntx.symm]; exact hx), T.clS, T.naS1, (by show 0 < 1000; decide), ?_⟩
    have b0 : But [x] H (upd (upd H tt (.tup vt)) x (.ins CS dx (putF "tables" (.ref tt) []))) := ((newB htt).of).put (by simp)
    have hx1 : (upd (upd H tt (.tup vt)) x (.ins CS dx (putF "tables" (.ref tt) []))) x = some (.ins CS dx [("tables", .ref tt)]) := by rw [upd_same]; rfl
    have ht1 : (upd (upd H tt (.tup vt)) x (.ins CS dx (putF "tables" (.ref tt) []))) tt = some (.tup vt) := by rw [upd_ne ntx, upd_same]
    generalize upd (upd H tt (.tup vt)) x (.ins CS dx (putF "tables" (.ref tt) [])) = H1 at b0 hx1 ht1
    have f0 : ∀ {v : V} {t : Tbl}, TblR CT H v t → TblR CT H1 v t := fun {v t} ⟨a, d2, ca, ua, ra, ks, rs, e, h1, h2, h3, h4, h6, h7⟩ => by
      have ne : ∀ {y : Addr} {o : HO}, H y = some o → (∀ C d fs, o = .ins C d fs → C ≠ CS) → H1 y = some o := fun {y o} e hc => b0.at1 e (ne_of e hx (by
        intro z
        exact hc CS dx [] z rfl))
      exact ⟨a, d2, ca, ua, ra, ks, rs, e, ne h1 (fun C d fs z => by cases z; exact T.nTS), ne h2 (fun _ _ _ z => by cases z), ne h3 (fun _ _ _ z => by cases z), h4.mono (fun _ _ ⟨q, e, z⟩ => ⟨q, e, ne z (fun _ _ _ z => by cases z)⟩), ne h6 (fun _ _ _ z => by cases z),
        h7.mono fun _ _ ⟨q, c, e, z, y⟩ => ⟨q, c, e, ne z (fun _ _ _ z => by cases z), ne y (fun _ _ _ z => by cases z)⟩⟩
    have hvt1 : Each (TblR CT H1) vt ts := hvt.mono fun _ _ z => f0 z
    have room := all_room h5 wf
    refine ⟨⟨_, rfl⟩, _, rfl, x, CS, dx, _, _, rfl, hx1, T.clS, T.naS1, rfl, tt, rfl, ⟨_, SqT.of ht1⟩, fun D hD => ?_⟩
    refine turns (walk_tup (K := K) (a := tt) (xs := vt)) (fun i H' => But [] H1 H' ∧ H' D = some (.lst (svs ((ts.take i).flatMap tableRows)))) ⟨newB hD, upd_same⟩ (fun i H' _ e => SqT.of (e.1.at ht1)) (fun i v H2 H2' hi e y => ?_) (fun H2 e => ?_)
    · obtain ⟨rfl, hv⟩ := y
      obtain ⟨t, ht, htr⟩ := hvt1.at hv
      obtain ⟨a, _, _, _, _, _, _, rfl, _⟩ := id htr
      have wt := wf t (List.mem_of_getElem? ht)
      have st : ts.take (i + 1) = ts.take i ++ [t] := by rw [List.take_add_one, ht]; rfl
      refine ⟨rfl, _, rfl, a, t, rfl, htr.fix T.nT (e.1.fix0 (CR := CR)), wt, fun H3 lr b3 hlr0 hlr => ⟨lr, rfl, ⟨_, SqL.of hlr⟩, ?_⟩⟩
      have nDl : D ≠ lr := ne_of_none e.2 hlr0
      refine turns (walk_list (K := K) (a := lr) (xs := svs (tableRows t))) (fun j H' => But [] H1 H' ∧ H' lr = some (.lst (svs (tableRows t))) ∧ H' D = some (.lst (svs ((ts.take i).flatMap tableRows ++ (tableRows t).take j)))) ⟨e.1.trans b3, hlr, by rw [b3.at e.2]; simp⟩ (fun j H' _ e => SqL.of e.2.1) (fun j v H4 H4' hj e4 y => ?_) (fun H4 e4 => ?_)
      · obtain ⟨rfl, hv2⟩ := y
        obtain ⟨row, hrow, rfl⟩ := svs_get hv2
        refine ⟨rfl, _, rfl, _, e4.2.2, szt ?_, ?_, ?_, ?_⟩
        · rw [svs_len, List.length_append, List.length_take]
          have h1 := (all_room (ts := ts.take i) (by rw [List.length_take]; omega) fun q hq => wf q (List.mem_of_mem_take hq)).1
          have h2 := (rows_room wt).1
          omega
        · exact e4.1.put0 hD
        · rw [upd_ne nDl.symm]; exact e4.2.1
        · rw [upd_same]
          congr 2
          have st2 : (tableRows t).take (j + 1) = (tableRows t).take j ++ [row] := by rw [List.take_add_one, hrow]; rfl
          rw [st2, ← List.append_assoc, svs_app (_ ++ _)]; rfl
      · refine ⟨e4.1, ?_⟩
        rw [e4.2.2, svs_len, List.take_length, st, List.flatMap_append]
        simp
    · obtain ⟨b2, hD2⟩ := e
      rw [hvt1.1, List.take_length] at hD2
      refine ⟨S [10], D, (ts.flatMap tableRows).map S, rfl, rfl, .inl (by rw [← svs_str]; exact SqL.of hD2), join_room2 (m := 100) (n := 60) room.2 room.1 (by decide), ?_⟩
      rw [join_S]
      refine ⟨_, rfl, x, CS, dx, _, rfl, b2.at hx1, T.clS, T.naS2, (by show 1 < 1000; decide), ?_⟩
      refine k _ tt ((b0.trans b2.of).put (by simp)) (by rw [upd_same]; rfl) (by rw [upd_ne ntx]; exact b2.at ht1)
end
end Cn
set_option Elab.async false
set_option linter.all false
set_option maxRecDepth 100000
set_option maxHeartbeats 4000000
/-! Schema.parse, Schema.__str__ -/
namespace Cn
open PySem L2
section
variable {P : Program} {w : World} {K : PySem.W.Frag} {mg : Str → Option Value} {base : Heap} {CR CT CS CI : Addr} {f : Addr} {fd : FuncData}
def sp_parse (CT CS CI : Addr) : Sp := fun vs H Q E => ∃ t : Cn.T, vs = [.ref CS, sv t] ∧ t.length ≤ 900000 ∧ match parseRows (splitC 10 t) with
  | .error e => ∀ H' d, But [] H H' → H' d = some (.xd [("row", .int (e : Nat))]) → E (.ref CI) (some d) H'
  | .ok ts => ∀ H' v, But [] H H' → SchR CS CT H' v ts → Q v H'
theorem ok_parse (F : Fun K "parse" "Schema.parse" s_Schema_parse f fd) (T : Txt K mg CR CT CS) (m_Rows : Mak P w K mg base 1 "Rows" CR (sp_Rows_init CR)) (m_Schema : Mak P w K mg base 2 "Schema" CS (sp_Schema_init CS CT))
    (c_read_tables : Cal P w K mg base 7 "read_tables" (sp_read_tables CR CT CI)) : FnOk P w K mg base (L2.CX P w) 8 f fd ["cls", "text"] (sp_parse CT CS CI) := by
  refine F.okX sc_Schema_parse (fun vs H Q E h => ?_) (fun cdv A outer s H vs Q E hr h => ?_)
  · obtain ⟨t, rfl, _⟩ := h
    rfl
  · obtain ⟨t, rfl, hz, k⟩ := h
    refine ⟨_, (pss_cons (ps_set (i := 2) sc_Schema_parse.nd rfl (Or.inl rfl) (p_make E m_Rows hr (by decide) (by rfl) (passX rfl rfl rfl (takes_of rfl rfl rfl rfl)) (pa_cons (pv 1) pa_nil)))
  (pss_one (ps_ret (p_cls E m_Schema hr (by decide) (i := 0) (passX rfl rfl rfl (takes_of rfl rfl rfl rfl)) (pa_cons (p_call E c_read_tables hr (by decide) (by rfl) (passX rfl rfl rfl (takes_of rfl rfl rfl rfl)) (pa_cons (pv 2) pa_nil)) pa_nil))))), ?_⟩
    refine ⟨_, rfl, fun p dx hp hdx ndx => ?_⟩
    refine ⟨p, dx, t, rfl, upd_same, hz, fun H1 b1 hR => ⟨rfl, ?_⟩⟩
    obtain ⟨r, R⟩ := hR
    have b0 : But [] H H1 := (((But.refl (l := [p])).new hdx).put (by simp) |>.trans b1).drop hp
    refine ⟨rfl, _, rfl, p, dx, r, _, 0, rfl, R, Nat.zero_le _, ?_⟩
    unfold parseRows at k
    have db : ∀ {H'}, But [p] H1 H' → But [] H H' := fun b => ((But.of b0).trans b).drop hp
    cases ht : tablesLoop (splitC 10 t) 6 0 [] with
    | error e =>
      rw [ht] at k
      exact fun H' d b hd => k H' d (db b) hd
    | ok tn =>
      obtain ⟨ts, n'⟩ := tn
      have ok := parseRows_ok (L := splitC 10 t) (ts := ts) (by unfold parseRows; rw [ht])
      rw [ht] at k
      intro H2 l vt b2 hl hts x dx2 hx hdx2 ndx2
      have stay : ∀ {y : Addr} {o : HO}, H2 y = some o → (upd (upd H2 dx2 (.own x)) x (.ins CS dx2 [])) y = some o := fun {y o} e => by
        rw [upd_ne (ne_of_none e hx), upd_ne (ne_of_none e hdx2)]; exact e
      have b3 : But [] H2 (upd (upd H2 dx2 (.own x)) x (.ins CS dx2 [])) := fun y o _ e => stay e
      refine ⟨x, dx2, l, vt, ts, rfl, upd_same, stay hl, hts.mono fun _ _ z => z.fix T.nT (b3.fix0 (CR := CR)), ok.2.1, ok.2.2, fun H3 tt b4 hx3 htt => ⟨rfl, ?_⟩⟩
      have b5 : But [] H2 H3 := ((But.of b3).trans b4).drop hx
      refine k H3 _ ((db b2).trans b5) ⟨x, dx2, tt, vt, rfl, hx3, htt, hts.mono fun _ _ z => z.fix T.nT (b5.fix0 (CR := CR))⟩
def sp_str (CT CS : Addr) : Sp := fun vs H Q _ => ∃ a ts, vs = [.ref a] ∧ SchR CS CT H (.ref a) ts ∧ Q (sv (schemaText ts)) H
theorem ok_str (F : Fun K "__str__" "Schema.__str__" s_Schema_str f fd) (T : Txt K mg CR CT CS) : FnOk P w K mg base (L2.CX P w) 1 f fd ["self"] (sp_str CT CS) := by
  refine F.okX sc_Schema_str (fun vs H Q E h => ?_) (fun cdv A outer s H vs Q E hr h => ?_)
  · obtain ⟨a, ts, rfl, _⟩ := h
    rfl
  · obtain ⟨a, ts, rfl, ⟨a', dx, tt, vt, e, ha, htt, hvt⟩, k⟩ := h
    cases e
    refine ⟨_, (pss_one (ps_ret (pe_callTy SkE.call_str_str (by rfl) T.b_str (by decide +kernel) (pa_cons (pe_fldK K rfl (pv 0) rfl) pa_nil)))), ?_⟩
    refine ⟨_, rfl, a, CS, dx, _, _, rfl, ha, T.clS, T.naS2, sf_text, ?_⟩
    exact ⟨_, rfl, k⟩
end
end Cn
set_option Elab.async false
set_option linter.all false
set_option maxRecDepth 100000
set_option maxHeartbeats 4000000
/-! draws, drawn names -/
namespace Cn
open PySem L2
structure LTx (K : PySem.W.Frag) (mg : Str → Option Value) (CR CT CS CI : Addr) : Prop extends Txt K mg CR CT CS where
  b_max : mg "max" = none
  b_min : mg "min" = none
  b_abs : mg "abs" = none
  b_range : mg "range" = none
  b_int : mg "int" = none
  b_dict : mg "dict" = none
  b_sorted : mg "sorted" = none
section
variable {P : Program} {w : World} {K : PySem.W.Frag} {mg : Str → Option Value} {base : Heap} {CR CT CS CI : Addr} {f : Addr} {fd : FuncData}
theorem sc__law_feed : FnScope ["script", "k", "cell", "digits", "state"] ["script", "k"] (defScope s__law_feed) := ⟨rfl, rfl, rfl, by decide +kernel, rfl, by decide +kernel, by decide +kernel⟩
theorem sc__law_take : FnScope ["feed", "many", "digit"] ["feed", "many"] (defScope s__law_take) := ⟨rfl, rfl, rfl, by decide +kernel, rfl, by decide +kernel, by decide +kernel⟩
theorem sc__law_pick : FnScope ["feed", "some"] ["feed", "some"] (defScope s__law_pick) := ⟨rfl, rfl, rfl, by decide +kernel, rfl, by decide +kernel, by decide +kernel⟩
theorem sc__law_words : FnScope ["feed", "size", "letters", "first", "tail", "way", "found", "k", "sign", "name"] ["feed", "size"] (defScope s__law_words) := ⟨rfl, rfl, rfl, by decide +kernel, rfl, by decide +kernel, by decide +kernel⟩
def FeedR (H : Hp) (a : Addr) : Prop := ∃ d s : Int, H a = some (.lst [.int d, .int s])
def sp_take : Sp := fun vs H Q _ => ∃ a many, vs = [.ref a, .int (many : Nat)] ∧ 1 ≤ many ∧ many ≤ 100000 ∧ FeedR H a ∧ ∀ H' (r : Nat), But [a] H H' → FeedR H' a → r < many → Q (.int (r : Nat)) H'
theorem ok_take (F : Fun K "_law_take" "_law_take" s__law_take f fd) (T : LTx K mg CR CT CS CI) : FnOk P w K mg base (L2.CX P w) 1 f fd ["feed", "many"] sp_take := by
  refine F.okX sc__law_take (fun vs H Q E h => ?_) (fun cdv A outer s H vs Q E hr h => ?_)
  · obtain ⟨a, many, rfl, _⟩ := h
    rfl
  · obtain ⟨a, many, rfl, h1, h2, ⟨d, s', ha⟩, k⟩ := h
    refine ⟨_, (pss_cons (ps_if (pt_cmpR op_gt (pe_ix (ix_listK K rfl) (pv 0) pe_int (fun _ _ => rfl)) pe_int (nomark _))
  (pss_cons (ps_set (i := 2) sc__law_take.nd rfl (Or.inl rfl) (pe_op op_mod (pe_ix (ix_listK K rfl) (pv 0) pe_int (fun _ _ => rfl)) (pv 1)))
  (pss_cons (ps_asg (pe_op op_fdiv (pe_ix (ix_listK K rfl) (pv 0) pe_int (fun _ _ => rfl)) (pv 1)) (pg_sub (pv 0) pe_int set_list))
  (pss_one (ps_ret (pv 2)))))
  pss_nil)
  (pss_cons (ps_asg (pe_op op_mod (pe_op op_add (pe_op op_mul (pe_ix (ix_listK K rfl) (pv 0) pe_int (fun _ _ => rfl)) pe_int) pe_int) pe_int) (pg_sub (pv 0) pe_int set_list))
  (pss_one (ps_ret (pe_op op_mod (pe_op op_fdiv (pe_ix (ix_listK K rfl) (pv 0) pe_int (fun _ _ => rfl)) pe_int) (pv 1)))))), ?_⟩
    have pos : (0 : Int) < (many : Nat) := by omega
    have lt : ((many : Nat) : Int) < 1073741824 := by omega
    have md : ∀ z : Int, ∃ r : Nat, r < many ∧ z % ((many : Nat) : Int) = (r : Nat) := fun z => by
      have h3 := Int.emod_nonneg z (b := ((many : Nat) : Int)) (by omega)
      have h4 := Int.emod_lt_of_pos z pos
      exact ⟨(z % ((many : Nat) : Int)).toNat, by omega, by omega⟩
    refine ⟨_, rfl, a, _, 0, _, rfl, rfl, SqL.of ha, rfl, _, _, rfl, rfl, _, rfl, ?_⟩
    refine ite2 (fun hd => ?_) (fun hd => ?_)
    · refine ⟨_, rfl, a, _, 0, _, rfl, rfl, SqL.of ha, rfl, _, rfl, _, _, rfl, rfl, pos, ?_⟩
      refine ⟨_, rfl, a, _, 0, _, rfl, rfl, SqL.of ha, rfl, _, rfl, _, _, rfl, rfl, ⟨pos, lt⟩, ?_⟩
      refine ⟨_, rfl, a, _, 0, 0, rfl, rfl, ha, rfl, ?_⟩
      obtain ⟨r, r1, r2⟩ := md d
      refine ⟨_, rfl, ?_⟩
      show Q (.int (d % ((many : Nat) : Int))) _
      rw [r2]
      exact k _ r (But.refl.put (by simp)) ⟨_, _, upd_same⟩ r1
    · refine ⟨_, rfl, a, _, 1, _, rfl, rfl, SqL.of ha, rfl, _, _, rfl, rfl, .inr (by constructor <;> decide), _, _, rfl, rfl, _, _, rfl, rfl, (by show (0 : Int) < 2305843009213693951; decide), ?_⟩
      refine ⟨_, rfl, a, _, 1, 1, rfl, rfl, ha, rfl, ?_⟩
      refine ⟨_, rfl, a, _, 1, _, rfl, rfl, SqL.of upd_same, rfl, _, _, rfl, rfl, by constructor <;> decide, _, rfl, _, _, rfl, rfl, pos, ?_⟩
      obtain ⟨r, r1, r2⟩ := md ((s' * 6364136223846793005 + 1442695040888963407) % 2305843009213693951 / 65536)
      show Q (.int ((s' * 6364136223846793005 + 1442695040888963407) % 2305843009213693951 / 65536 % ((many : Nat) : Int))) _
      rw [r2]
      exact k _ r (But.refl.put (by simp)) ⟨_, _, upd_same⟩ r1
def sp_feed (K : PySem.W.Frag) : Sp := fun vs H Q _ => ∃ (sc : Addr) (ns : List Int) (j : Nat), vs = [.ref sc, .int (j : Nat)] ∧ j ≤ 3 ∧ SqL K H sc (ns.map V.int) ∧ ∀ H' a, But [] H H' → H a = none → FeedR H' a → Q (.ref a) H'
theorem ok_feed (F : Fun K "_law_feed" "_law_feed" s__law_feed f fd) (T : LTx K mg CR CT CS CI) : FnOk P w K mg base (L2.CX P w) 1 f fd ["script", "k"] (sp_feed K) := by
  refine F.okX sc__law_feed (fun vs H Q E h => ?_) (fun cdv A outer s H vs Q E hr h => ?_)
  · obtain ⟨a, many, _, rfl, _⟩ := h
    rfl
  · obtain ⟨sc, ns, j, rfl, hj, hs, k⟩ := h
    refine ⟨_, (pss_cons (ps_set (i := 2) sc__law_feed.nd rfl (Or.inl rfl) (pe_ifExp (pt_cmpR op_lt (pv 1) (pe_callB (call_len_seqK K rfl) (by rfl) T.b_len (by decide +kernel) (pa_cons (pv 0) pa_nil)) (nomark _)) (pe_ix (ix_listK K rfl) (pv 0) (pv 1) (fun _ _ => rfl)) (pe_op op_add (pe_op op_mul pe_int (pv 1)) pe_int)))
  (pss_cons (ps_set (i := 3) sc__law_feed.nd rfl (Or.inl rfl) (pe_callB (call_max2 (by rfl)) (by rfl) T.b_max (by decide +kernel) (pa_cons pe_int (pa_cons (pe_op op_sub (pe_callB call_abs (by rfl) T.b_abs (by decide +kernel) (pa_cons (pv 2) pa_nil)) (pe_op op_pow pe_int pe_int)) pa_nil))))
  (pss_cons (ps_set (i := 4) sc__law_feed.nd rfl (Or.inl rfl) (pe_op op_mod (pe_op op_add (pe_op op_add (pe_op op_mul (pv 2) pe_int) (pe_op op_mul pe_int (pv 1))) pe_int) pe_int))
  (pss_one (ps_ret (pe_lst (pa_cons (pv 3) (pa_cons (pv 4) pa_nil)))))))), ?_⟩
    have cell : ∀ (Q' : VK), (∀ z : Int, Q' (.int z) H) → tIf (tTest (tOp (rI0 fun i j => V.bl (decide (i < j))) (tVar 1) (tCB (fun xs H Q => ∃ p ys, xs = [V.ref p] ∧ (SqL K H p ys ∨ SqT K H p ys) ∧ Q (V.int ↑ys.length) H) (tCons (tVar 0) tNil))))
        (tOp (rIxL K) (tVar 0) (tVar 1)) (tOp (rI0 fun i j => V.int (i + j)) (tOp (rI CMul fun i j => V.int (i * j)) (tC (V.int 83)) (tVar 1)) (tC (V.int 29)))
        (L2.start [Str.ofString "script", Str.ofString "k", Str.ofString "cell", Str.ofString "digits", Str.ofString "state"] [V.ref sc, V.int ↑j]) H Q' := fun Q' q => by
      refine ⟨_, rfl, _, rfl, sc, _, rfl, .inl hs, _, _, rfl, rfl, _, rfl, ?_⟩
      refine ite2 (fun hd => ?_) (fun hd => ?_)
      · have hl : j < ns.length := by
          have := of_decide_eq_true hd
          rw [List.length_map] at this
          omega
        have e : (ns.map V.int)[j]? = some (V.int ns[j]) := by rw [List.getElem?_map, List.getElem?_eq_getElem hl]; rfl
        exact ⟨_, rfl, _, rfl, sc, _, j, _, rfl, rfl, hs, atI_nat e, q _⟩
      · exact ⟨_, rfl, _, _, rfl, rfl, .inl (by constructor <;> decide), _, _, rfl, rfl, q _⟩
    refine cell _ fun z => ?_
    refine ⟨_, rfl, _, rfl, _, _, rfl, rfl, by refine ⟨by decide, by decide, by decide⟩, _, _, rfl, rfl, _, _, rfl, ?_⟩
    refine ⟨_, rfl, _, _, rfl, rfl, .inr (by constructor <;> decide), _, rfl, _, _, rfl, rfl, .inl (by constructor <;> decide), _, _, rfl, rfl, _, _, rfl, rfl, _, _, rfl, rfl, (by show (0 : Int) < 2305843009213693951; decide), ?_⟩
    refine ⟨_, rfl, _, rfl, szl (by simp), fun a ha => k _ a (newB ha) ha ⟨_, _, upd_same⟩⟩
def sp_pick : Sp := fun vs H Q _ => ∃ (a : Addr) (l : Cn.T), vs = [.ref a, sv l] ∧ 1 ≤ l.length ∧ l.length ≤ 1000 ∧ FeedR H a ∧ ∀ H' c, But [a] H H' → FeedR H' a → c ∈ l → Q (sv [c]) H'
theorem ok_pick (F : Fun K "_law_pick" "_law_pick" s__law_pick f fd) (T : LTx K mg CR CT CS CI) (c__law_take : Cal P w K mg base 1 "_law_take" sp_take) : FnOk P w K mg base (L2.CX P w) 2 f fd ["feed", "some"] sp_pick := by
  refine F.okX sc__law_pick (fun vs H Q E h => ?_) (fun cdv A outer s H vs Q E hr h => ?_)
  · obtain ⟨a, l, rfl, _⟩ := h
    rfl
  · obtain ⟨a, l, rfl, h1, h2, hf, k⟩ := h
    refine ⟨_, (pss_one (ps_ret (pe_ix ix_str (pv 1) (p_call E c__law_take hr (by decide) (by rfl) (passX rfl rfl rfl (takes_of rfl rfl rfl rfl)) (pa_cons (pv 0) (pa_cons (pe_callB call_len_str (by rfl) T.b_len (by decide +kernel) (pa_cons (pv 1) pa_nil)) pa_nil))) (fun _ _ => rfl)))), ?_⟩
    refine ⟨_, rfl, _, rfl, _, rfl, S l, rfl, szl (by rw [S_len]; omega), ?_⟩
    refine ⟨a, l.length, by rw [S_len]; rfl, h1, by omega, hf, fun H' r b fr hr' => ?_⟩
    have e : l[r]? = some (l[r]'hr') := List.getElem?_eq_getElem hr'
    exact ⟨S l, r, _, rfl, rfl, szl (by rw [S_len]; omega), atI_nat e, k H' _ b fr (List.getElem_mem hr')⟩
def azT : Cn.T := [97, 98, 99, 100, 101, 102, 103, 104, 105, 106, 107, 108, 109, 110, 111, 112, 113, 114, 115, 116, 117, 118, 119, 120, 121, 122]
theorem az_at : ∀ j, j < 26 → azT[j]? = some (97 + j) := by decide
def sp_words2 : Sp := fun vs H Q _ => ∃ a, vs = [.ref a, .int (12 : Nat)] ∧ FeedR H a ∧ ∀ H' b ws, But [a] H H' → FeedR H' a → H b = none → H' b = some (.lst (svs ws)) → Names ws → Q (.ref b) H'
theorem ok_words2 (F : Fun K "_law_words" "_law_words" s__law_words f fd) (T : LTx K mg CR CT CS CI) (c__law_take : Cal P w K mg base 1 "_law_take" sp_take) : FnOk P w K mg base (L2.CX P w) 2 f fd ["feed", "size"] sp_words2 := by
  refine F.okX sc__law_words (fun vs H Q E h => ?_) (fun cdv A outer s H vs Q E hr h => ?_)
  · obtain ⟨a, rfl, _⟩ := h
    rfl
  · obtain ⟨a, rfl, hf, k⟩ := h
    refine ⟨_, (pss_cons (ps_set (i := 2) sc__law_words.nd rfl (Or.inl rfl) pe_str)
  (pss_cons (ps_par (i := 3) (j := 4) (by rfl) sc__law_words.nd rfl rfl (by decide) rfl rfl (pa_cons (p_call E c__law_take hr (by decide) (by rfl) (passX rfl rfl rfl (takes_of rfl rfl rfl rfl)) (pa_cons (pv 0) (pa_cons pe_int pa_nil))) (pa_cons (pe_op op_repZ (pe_ix ix_str (pv 2) (p_call E c__law_take hr (by decide) (by rfl) (passX rfl rfl rfl (takes_of rfl rfl rfl rfl)) (pa_cons (pv 0) (pa_cons pe_int pa_nil))) (fun _ _ => rfl)) (p_call E c__law_take hr (by decide) (by rfl) (passX rfl rfl rfl (takes_of rfl rfl rfl rfl)) (pa_cons (pv 0) (pa_cons pe_int pa_nil)))) pa_nil)) (by rfl))
  (pss_cons (ps_set (i := 5) sc__law_words.nd rfl (Or.inl rfl) (p_call E c__law_take hr (by decide) (by rfl) (passX rfl rfl rfl (takes_of rfl rfl rfl rfl)) (pa_cons (pv 0) (pa_cons pe_int pa_nil))))
  (pss_cons (ps_if (pt_cmpR op_eq (pv 5) pe_int (nomark _))
  (pss_cons (ps_set (i := 6) sc__law_words.nd rfl (Or.inl rfl) (pe_op op_cat (pe_lst (pa_cons pe_str (pa_cons pe_str (pa_cons pe_str (pa_cons pe_str (pa_cons pe_str (pa_cons pe_str pa_nil))))))) (pe_lc (own := [("sign", 8)]) (g := gName 8) (tt := tYes) (by rfl) sc__law_words.nd (pi_str (pv 2)) (blkOk_by (own := [("sign", 8)]) (N := ["feed", "size", "letters", "first", "tail", "way", "found", "k", "sign", "name"]) (sc := (defScope s__law_words)) (by decide +kernel)) (fun _ _ _ _ _ => (pg_name (i := 8) sc__law_words.nd rfl (Or.inl rfl))) (fun _ _ _ _ _ => pts_nil) (fun _ _ _ _ _ => (pe_op op_add_str pe_str (pv 8))))))
  (pss_one (ps_ret (pe_slice (sl_listK K rfl) (pv 6) po_none (po_some (pv 1))))))
  pss_nil)
  (pss_cons (ps_set (i := 6) sc__law_words.nd rfl (Or.inl rfl) (pe_lst pa_nil))
  (pss_cons (ps_for (passes_of rfl) (by rfl) (pi_range1 (by rfl) T.b_range (pa_cons (pv 1) pa_nil)) (pg_name (i := 7) sc__law_words.nd rfl (Or.inl rfl))
  (pss_cons (ps_set (i := 8) sc__law_words.nd rfl (Or.inl rfl) (pe_ix ix_str (pv 2) (pe_op op_mod (pe_op op_add (pv 3) (pe_op op_mul pe_int (pv 7))) pe_int) (fun _ _ => rfl)))
  (pss_cons (ps_set (i := 9) sc__law_words.nd rfl (Or.inl rfl) (pe_ix (ix_listK K rfl) (pe_lst (pa_cons (pe_op op_add_str (pv 8) (pv 4)) (pa_cons (pe_op op_add_str (pv 4) (pv 8)) (pa_cons (pe_op op_add_str (pe_op op_repZ pe_str (pe_op op_add pe_int (pe_op op_fdiv (pv 7) pe_int))) (pv 8)) pa_nil)))) (pv 5) (fun _ _ => rfl)))
  (pss_one (ps_expr (pe_bm PySem.F.plainAttrs_list PySem.F.slot_list_append PySem.F.type_list_append mt_append (pv 6) (pa_cons (pv 9) pa_nil)))))))
  (pss_one (ps_ret (pv 6))))))))), ?_⟩
    refine sq_txt (i := 2) (Pt.lit (l := azT) (n := 26)) ?_
    refine ⟨_, rfl, a, 26, rfl, by decide, by decide, hf, fun H1 first b1 f1 h1 => ?_⟩
    refine ⟨_, rfl, _, rfl, a, 26, rfl, by decide, by decide, f1, fun H2 r2 b2 f2 h2 => ?_⟩
    refine ⟨S azT, r2, _, rfl, rfl, szl (by decide), atI_nat (az_at r2 h2), ?_⟩
    refine ⟨_, rfl, a, 8, rfl, by decide, by decide, f2, fun H3 r3 b3 f3 h3 => ?_⟩
    refine ⟨[97 + r2], r3, rfl, rfl, by omega, by simp, by simp, ?_⟩
    refine ⟨_, _, rfl, ?_⟩
    have ht : (repT r3 [97 + r2]).length ≤ 7 := by rw [repT_len]; simp; omega
    have hc : ∀ c ∈ repT r3 [97 + r2], 97 ≤ c ∧ c ≤ 122 := fun c hc => by
      unfold repT at hc
      obtain ⟨x, hx, hc⟩ := List.mem_flatten.mp hc
      rw [(List.mem_replicate.mp hx).2] at hc
      rw [List.mem_singleton.mp hc]; omega
    have he : ∃ c, ∀ x ∈ repT r3 [97 + r2], x = c := ⟨97 + r2, fun x hx => by
      unfold repT at hx
      obtain ⟨l, hl, hx⟩ := List.mem_flatten.mp hx
      rw [(List.mem_replicate.mp hl).2] at hx
      exact List.mem_singleton.mp hx⟩
    generalize repT r3 [97 + r2] = tail at ht hc he
    refine ⟨_, rfl, a, 4, rfl, by decide, by decide, f3, fun H4 way b4 f4 h4 => ?_⟩
    have b04 : But [a] H H4 := ((b1.trans b2).trans b3).trans b4
    have fr : ∀ {H' : Hp} {x : Addr}, But [a] H H' → FeedR H' a → H' x = none → H x = none := fun {H' x} b ⟨d, s, e⟩ h => b.free h (not1 fun z => by rw [z, e] at h; cases h)
    refine ⟨_, rfl, rfl, _, rfl, ?_⟩
    refine ite2 (fun h => ?_) (fun h => ?_)
    · refine sq_mk (i := 6) (MkL.cat (MkL.gv (MkL.dsp (PtL.cons (Pt.lit (l := [116, 97, 98, 108, 101]) (n := 5)) (PtL.cons (Pt.lit (l := [99, 111, 108, 117, 109, 110]) (n := 6)) (PtL.cons (Pt.lit (l := [107, 101, 121]) (n := 3)) (PtL.cons (Pt.lit (l := [101, 110, 100]) (n := 3)) (PtL.cons (Pt.lit (l := [114, 101, 102]) (n := 3)) (PtL.cons (Pt.lit (l := [111, 112, 116, 105, 111, 110, 97, 108]) (n := 8)) PtL.nil)))))))) (fun H_ b_ => MkL.gv (MkL.lcS (i := 8) (w := azT) (f := fun x => [119] ++ x) (n := 2) (Pt.var (i := 2) (l := azT) (n := 26) rfl (by decide)) (fun x hx => Pt.add (Pt.lit (l := [119]) (n := 1)) (Pt.var (i := 8) (l := x) (n := 1) rfl ((by decide : ∀ x ∈ (azT.map fun c => [c]), List.length x ≤ 1) x hx))) (fun _ => rfl)))) fun H5 x b5 n5 e5 => ?_
      have f5 : FeedR H5 a := by obtain ⟨d, s, e⟩ := f4; exact ⟨d, s, b5.at e⟩
      have b05 := b04.trans (But.of b5)
      refine ⟨_, rfl, _, rfl, _, rfl, x, _, rfl, SqL.of e5, fun p hp => ?_⟩
      have ec : cutV (svs (([[116, 97, 98, 108, 101], [99, 111, 108, 117, 109, 110], [107, 101, 121], [101, 110, 100], [114, 101, 102], [111, 112, 116, 105, 111, 110, 97, 108]] : List Cn.T) ++ ((azT.map fun c => [c]).map fun x => [119] ++ x))) none (some ((12 : Nat) : Int)) = svs oddT := by rfl
      rw [ec]
      exact k _ p _ (b05.put0 (fr b05 f5 hp)) (by obtain ⟨d, s, e⟩ := f5; exact ⟨d, s, (newB hp).at e⟩) (fr b05 f5 hp) upd_same odd_ok
    · have w3 : way < 3 := by
        have : way ≠ 3 := fun z => h (by rw [z]; rfl)
        omega
      refine ⟨szl (by simp), fun l hl => ?_⟩
      have la : a ≠ l := fun z => by obtain ⟨d, s, e⟩ := f4; rw [z, hl] at e; cases e
      have hl0 := fr b04 f4 hl
      refine ⟨_, rfl, _, rfl, by decide, by decide, ?_⟩
      refine for_it (walk_range (lo := 0) (n := 12)) (fun i σ H' => (∃ v7 v8 v9, σ = [some (.ref a), some (.int (12 : Nat)), some (sv azT), some (.int (first : Nat)), some (sv tail), some (.int (way : Nat)), some (.ref l), v7, v8, v9]) ∧ But [l] H4 H' ∧ H' l = some (.lst (svs ((List.range i).map (wordN way first tail)))))
        ⟨⟨_, _, _, rfl⟩, (But.refl.put (by simp)), upd_same⟩ (fun _ σ H' _ _ => trivial) (fun i x σ H5 H5' hi ⟨⟨v7, v8, v9, es⟩, b5, e5⟩ y => ?_) (fun σ H5 ⟨⟨v7, v8, v9, es⟩, b5, e5⟩ => ?_)
      · obtain ⟨rfl, rfl⟩ := y
        subst es
        have ez : ((first : Nat) + 5 * (0 + (i : Int))) % 26 = (((first + 5 * i) % 26 : Nat) : Int) := by omega
        have ea : atI azT (((first : Nat) + 5 * (0 + (i : Int))) % 26) = some (signN first i) := by
          rw [ez]
          exact atI_nat (az_at _ (Nat.mod_lt _ (by decide)))
        refine ⟨_, rfl, _, rfl, _, rfl, _, _, rfl, rfl, .inl (by constructor <;> decide), _, _, rfl, rfl, _, _, rfl, rfl, (by show (0 : Int) < 26; decide), ?_⟩
        refine ⟨S azT, _, _, rfl, rfl, szl (by decide), ea, ?_⟩
        have p8 : Pt (tVar 8) _ [signN first i] 1 := Pt.var (σ := [some (.ref a), some (.int (12 : Nat)), some (sv azT), some (.int (first : Nat)), some (sv tail), some (.int (way : Nat)), some (.ref l), some (.int (0 + (i : Int))), some (sv [signN first i]), v9]) rfl (by simp)
        have p4 : Pt (tVar 4) _ tail 7 := Pt.var (σ := [some (.ref a), some (.int (12 : Nat)), some (sv azT), some (.int (first : Nat)), some (sv tail), some (.int (way : Nat)), some (.ref l), some (.int (0 + (i : Int))), some (sv [signN first i]), v9]) rfl ht
        have er : (1 : Int) + (0 + (i : Int)) / 6 = ((1 + i / 6 : Nat) : Int) := by omega
        refine sq_ixl (i := 9) (j := 5) (n := way) (ls := [[signN first i] ++ tail, tail ++ [signN first i], repT (1 + i / 6) [113] ++ [signN first i]]) (l := wordN way first tail i) (MkL.dsp (PtL.cons (Pt.add p8 p4) (PtL.cons (Pt.add p4 p8) (PtL.cons (Pt.add (Pt.repk (m := 3) (n := 1 + i / 6) (Pt.lit (l := [113]) (n := 1)) (fun H Q q => ⟨_, rfl, _, _, rfl, rfl, (by constructor <;> decide), _, _, rfl, rfl, (by show Q (V.int ((1 : Int) + (0 + (i : Int)) / 6)) H; rw [er]; exact q)⟩) (by omega)) p8) PtL.nil)))) rfl ?_ fun H6 b6 => ?_
        · have e3 : repT (1 + i / 6) [113] = List.replicate (1 + i / 6) 113 := by
            unfold repT
            generalize 1 + i / 6 = n
            induction n with
            | zero => rfl
            | succ n ih => rw [List.replicate_succ, List.flatten_cons, ih]; rfl
          rw [e3]
          unfold wordN
          rcases (by omega : way = 0 ∨ way = 1 ∨ way = 2) with z | z | z <;> subst z <;> rfl
        · refine st_app (fi := 6) (F := l) rfl (b6.at e5) (Pt.gv (Pt.var (i := 9) (l := wordN way first tail i) (n := 8) rfl ?_)) (by simp; omega) fun H7 b7 e7 => ⟨⟨_, _, _, rfl⟩, (b5.trans (But.of b6)).trans b7, ?_⟩
          · have := word_name (way := way) (first := first) (k := i) ht hc hi
            exact isName_len this
          · rw [e7, List.range_succ, List.map_append]; rfl
      · subst es
        have f5 : FeedR H5 a := by obtain ⟨d, s, e⟩ := f4; exact ⟨d, s, b5.at1 e la⟩
        have b05 : But [a] H H5 := fun x o hx e => b5 x o (fun z => by rw [List.mem_singleton.mp z, hl0] at e; cases e) (b04 x o hx e)
        exact ⟨_, rfl, k H5 l _ b05 f5 hl0 e5 (words_ok ht hc he)⟩
end
end Cn
set_option Elab.async false
set_option linter.all false
set_option maxRecDepth 100000
set_option maxHeartbeats 4000000
/-! another order -/
namespace Cn
open PySem L2
theorem svs_erase : ∀ (ls : List Cn.T) (k : Nat), (svs ls).eraseIdx k = svs (ls.eraseIdx k)
  | [], k => rfl
  | a :: r, 0 => rfl
  | a :: r, k + 1 => by
    have ih := svs_erase r k
    show sv a :: (svs r).eraseIdx k = sv a :: svs (r.eraseIdx k)
    rw [ih]
theorem dpAll_svs {K : PySem.W.Frag} {H : Hp} : ∀ ls : List Cn.T, DpAll K H (svs ls) (ls.map fun l => .str (S l))
  | [] => .nil
  | a :: r => .cons (.str _) (dpAll_svs r)
theorem name_cps {w : Cn.T} (h : isName w = true) : PyData.strOk (S w) = true := by
  unfold isName at h
  simp only [Bool.and_eq_true, decide_eq_true_eq, List.all_eq_true] at h
  unfold PyData.strOk S
  simp only [List.all_toArray, List.all_eq_true, decide_eq_true_eq]
  intro c hc
  have := h.2.2 c hc
  omega
theorem lay_strs : ∀ xs : List Cn.T, (∀ w ∈ xs, isName w = true) → PyData.canLayAll0 (xs.map fun l => PyData.str (S l)) = true ∧ PyData.depthAll (xs.map fun l => PyData.str (S l)) ≤ 1
  | [], _ => ⟨by simp [PyData.canLayAll0], by simp [PyData.depthAll]⟩
  | a :: r, hn => by
    obtain ⟨h1, h2⟩ := lay_strs r fun w hw => hn w (List.mem_cons_of_mem _ hw)
    have h0 := name_cps (hn a List.mem_cons_self)
    rw [List.map_cons]
    refine ⟨by simp [PyData.canLayAll0, PyData.canLay0, h1, h0], ?_⟩
    simp only [PyData.depthAll, PyData.depth]
    omega
theorem shaped_strs (ls : List Cn.T) (hn : ∀ w ∈ ls, isName w = true) : SeqAt.shaped (.list (ls.map fun l => PyData.str (S l))) = true := by
  obtain ⟨h1, h2⟩ := lay_strs ls hn
  unfold SeqAt.shaped
  simp only [PyData.canLay0, PyData.depth, h1, Bool.true_and]
  exact decide_eq_true (by omega)
theorem erase_perm {α : Type} : ∀ (l : List α) (i : Nat) (h : i < l.length), (l[i] :: l.eraseIdx i).Perm l
  | x :: r, 0, _ => List.Perm.refl _
  | x :: r, i + 1, h => by
    have ih := erase_perm r i (by simpa using h)
    exact (List.Perm.swap x (r[i]'(by simpa using h)) (r.eraseIdx i)).trans (List.Perm.cons x ih)
/-- a list of texts is not equal to [] exactly if it has one -/
theorem ne_nil {K : PySem.W.Frag} {H : Hp} {a : Addr} {ls : List Cn.T} {σ : L2.St} {i : Nat} {Q : Bool → Hp → Prop} (hσ : σ[i]? = some (some (.ref a))) (e : H a = some (.lst (svs ls))) (hn : ∀ w ∈ ls, isName w = true) (k : ∀ H', But [] H H' → Q (!ls.isEmpty) H') :
    tTest (tOp (rNeD K) (tVar i) (tLst tNil)) σ H Q := by
  refine ⟨_, hσ, szl (by simp), fun p hp => ?_⟩
  refine ⟨.list (ls.map fun l => .str (S l)), .list [], .lst (SqL.of ((newB hp).at e)) (dpAll_svs ls), .lst (SqL.of upd_same) .nil, shaped_strs ls hn, rfl, !ls.isEmpty, ?_, k _ (newB hp)⟩
  cases ls with
  | nil => rfl
  | cons a r => rfl
section
variable {P : Program} {w : World} {K : PySem.W.Frag} {mg : Str → Option Value} {base : Heap} {CR CT CS CI : Addr} {f : Addr} {fd : FuncData}
theorem sc__law_mixed : FnScope ["feed", "some", "left", "found"] ["feed", "some"] (defScope s__law_mixed) := ⟨rfl, rfl, rfl, by decide +kernel, rfl, by decide +kernel, by decide +kernel⟩
def sp_mixed (K : PySem.W.Frag) : Sp := fun vs H Q _ => ∃ (a b : Addr) (ls : List Cn.T), vs = [.ref a, .ref b] ∧ FeedR H a ∧ H b = some (.lst (svs ls)) ∧ ls.length ≤ 12 ∧ (∀ w ∈ ls, isName w = true) ∧ ∀ H' r ws, But [a] H H' → FeedR H' a → H r = none → H' r = some (.lst (svs ws)) → ws.Perm ls → Q (.ref r) H'
theorem ok_mixed (F : Fun K "_law_mixed" "_law_mixed" s__law_mixed f fd) (T : LTx K mg CR CT CS CI) (c__law_take : Cal P w K mg base 1 "_law_take" sp_take) : FnOk P w K mg base (L2.CX P w) 2 f fd ["feed", "some"] (sp_mixed K) := by
  refine F.okX sc__law_mixed (fun vs H Q E h => ?_) (fun cdv A outer s H vs Q E hr h => ?_)
  · obtain ⟨a, b, _, rfl, _⟩ := h
    rfl
  · obtain ⟨a, b, ls, rfl, hf, hb, hz, hn, k⟩ := h
    refine ⟨_, (pss_cons (ps_par (i := 2) (j := 3) (by rfl) sc__law_mixed.nd rfl rfl (by decide) rfl rfl (pa_cons (pe_callTy (call_list_ofK K rfl) (by rfl) T.b_list (by decide +kernel) (pa_cons (pv 1) pa_nil)) (pa_cons (pe_lst pa_nil) pa_nil)) (by rfl))
  (pss_cons (ps_while (passes_of rfl) (pt_cmpR (op_neDK K rfl hr.units) (pv 2) (pe_lst pa_nil) (nomark _))
  (pss_one (ps_expr (pe_bm PySem.F.plainAttrs_list PySem.F.slot_list_append PySem.F.type_list_append mt_append (pv 3) (pa_cons (pe_bm PySem.F.plainAttrs_list PySem.F.slot_list_pop PySem.F.type_list_pop mt_popAt (pv 2) (pa_cons (p_call E c__law_take hr (by decide) (by rfl) (passX rfl rfl rfl (takes_of rfl rfl rfl rfl)) (pa_cons (pv 0) (pa_cons (pe_callB (call_len_seqK K rfl) (by rfl) T.b_len (by decide +kernel) (pa_cons (pv 2) pa_nil)) pa_nil))) pa_nil)) pa_nil)))))
  (pss_one (ps_ret (pv 3))))), ?_⟩
    obtain ⟨d0, s0, ha⟩ := id hf
    refine ⟨_, rfl, b, _, rfl, .inl (SqL.of hb), fun l1 hl1 => ?_⟩
    refine ⟨szl (by simp), fun l2 hl2 => ?_⟩
    refine ⟨_, _, rfl, ?_⟩
    have n12 : l1 ≠ l2 := ne_of_none upd_same hl2
    have na1 : a ≠ l1 := ne_of_none ha hl1
    have b01 : But [] H (upd H l1 (.lst (svs ls))) := newB hl1
    have na2 : a ≠ l2 := ne_of_none (b01.at ha) hl2
    have hl20 : H l2 = none := b01.free hl2 (by simp)
    refine ⟨fun m σ H' => ∃ lf fo, σ = [some (.ref a), some (.ref b), some (.ref l1), some (.ref l2)] ∧ But [a] H H' ∧ FeedR H' a ∧ H' l1 = some (.lst (svs lf)) ∧ H' l2 = some (.lst (svs fo)) ∧ (fo ++ lf).Perm ls ∧ lf.length = m,
      ⟨_, ls, [], rfl, But.of (b01.put0 hl20), ⟨d0, s0, by rw [upd_ne na2, upd_ne na1]; exact ha⟩, by rw [upd_ne n12, upd_same], by rw [upd_same]; rfl, List.Perm.refl _, rfl⟩, ?_⟩
    rintro m σ H1 ⟨lf, fo, rfl, b1, f1, e1, e2, pm, rfl⟩
    have ltot : fo.length + lf.length ≤ 12 := by have := pm.length_eq; rw [List.length_append] at this; omega
    refine ne_nil (K := K) rfl e1 (fun w hw => hn w (pm.mem_iff.mp (List.mem_append_right _ hw))) fun H2 b2 => ?_
    cases lf with
    | nil =>
      refine iteF ?_
      rw [List.append_nil] at pm
      obtain ⟨d, s1, f1⟩ := f1
      exact ⟨_, rfl, k H2 l2 fo (b1.trans (But.of b2)) ⟨d, s1, b2.at f1⟩ hl20 (b2.at e2) pm⟩
    | cons x lf =>
      refine iteT ?_
      obtain ⟨d, s1, f1⟩ := f1
      refine ⟨_, fun _ _ z => z, ?_⟩
      refine ⟨_, rfl, tyList (b2.at e2), _, rfl, tyList (b2.at e1), _, rfl, _, rfl, l1, _, rfl, .inl (SqL.of (b2.at e1)), ?_⟩
      refine ⟨a, (x :: lf).length, by rw [svs_len]; rfl, by simp, by have := ltot; omega, ⟨d, s1, b2.at f1⟩, fun H3 r b3 f3 hr3 => ?_⟩
      have e13 : H3 l1 = some (.lst (svs (x :: lf))) := b3.at1 (b2.at e1) na1.symm
      have e23 : H3 l2 = some (.lst (svs fo)) := b3.at1 (b2.at e2) na2.symm
      have hx : (x :: lf)[r]? = some ((x :: lf)[r]'hr3) := List.getElem?_eq_getElem hr3
      have ix : ixN (svs (x :: lf)).length (r : Int) = some r := by
        unfold ixN
        rw [svs_len, if_pos (by omega), if_pos (by omega)]; rfl
      refine ⟨l1, svs (x :: lf), r, r, _, rfl, rfl, e13, by omega, by omega, (ixN_seq ix).1, svs_at hx, ?_⟩
      refine ⟨l2, svs fo, _, rfl, rfl, by rw [upd_ne n12.symm]; exact e23, szt (by rw [svs_len]; omega), lf.length, by simp, (x :: lf).eraseIdx r, fo ++ [(x :: lf)[r]'hr3], rfl, ?_, ?_, ?_, ?_, ?_, ?_⟩
      · have b13 : But [a] H H3 := (b1.trans (But.of b2)).trans b3
        exact (b13.put0 hl1).put0 hl20
      · obtain ⟨d3, s3, f3⟩ := f3
        exact ⟨d3, s3, by rw [upd_ne na2, upd_ne na1]; exact f3⟩
      · rw [upd_ne n12, upd_same, svs_erase]
      · rw [upd_same, svs_app]; rfl
      · rw [List.append_assoc]
        refine (List.Perm.append_left fo ?_).trans pm
        exact erase_perm _ r hr3
      · rw [List.length_eraseIdx, if_pos hr3]; rfl
end
end Cn
set_option Elab.async false
set_option linter.all false
set_option maxRecDepth 100000
set_option maxHeartbeats 4000000
/-! drawn keys -/
namespace Cn
open PySem L2
theorem fixL {x : Addr} {xs : List V} {H H' : Hp} (b : But [x] H H') (e : H x = some (.lst xs)) : Fix 0 H H' := b.fix fun a z o e' i => by
  rw [List.mem_singleton.mp z, e] at e'
  cases e'
  exact i
theorem fixO {H H' : Hp} (b : But [] H H') : Fix 0 H H' := b.fix0
theorem dpAll_keys {K : PySem.W.Frag} {H : Hp} : ∀ {vk : List V} {ks : List (List Cn.T)}, Each (KeyR H) vk ks → DpAll K H vk (ks.map fun k => .tuple (k.map fun l => .str (S l)))
  | [], [], _ => .nil
  | [], _ :: _, h => by have := h.1; simp at this
  | _ :: _, [], h => by have := h.1; simp at this
  | v :: vk, k :: ks, h => by
    obtain ⟨a, rfl, e⟩ := h.2 0 v k rfl rfl
    have ht : Each (KeyR H) vk ks := ⟨by have := h.1; simpa using this, fun i x y p q => h.2 (i + 1) x y (by simpa using p) (by simpa using q)⟩
    exact .cons (.tup (SqT.of e) (dpAll_svs k)) (dpAll_keys ht)
theorem lay_keys : ∀ ks : List (List Cn.T), (∀ k ∈ ks, ∀ w ∈ k, isName w = true) → PyData.canLayAll0 (ks.map fun k => PyData.tuple (k.map fun l => .str (S l))) = true ∧ PyData.depthAll (ks.map fun k => PyData.tuple (k.map fun l => .str (S l))) ≤ 2
  | [], _ => ⟨by simp [PyData.canLayAll0], by simp [PyData.depthAll]⟩
  | k :: r, hn => by
    obtain ⟨h1, h2⟩ := lay_keys r fun w hw => hn w (List.mem_cons_of_mem _ hw)
    obtain ⟨g1, g2⟩ := lay_strs k (hn k List.mem_cons_self)
    rw [List.map_cons]
    refine ⟨by simp [PyData.canLayAll0, PyData.canLay0, h1, g1], ?_⟩
    simp only [PyData.depthAll, PyData.depth]
    omega
theorem shaped_keys (ks : List (List Cn.T)) (hn : ∀ k ∈ ks, ∀ w ∈ k, isName w = true) : SeqAt.shaped (.list (ks.map fun k => PyData.tuple (k.map fun l => .str (S l)))) = true := by
  obtain ⟨h1, h2⟩ := lay_keys ks hn
  unfold SeqAt.shaped
  simp only [PyData.canLay0, PyData.depth, h1, Bool.true_and]
  exact decide_eq_true (by omega)
theorem filter_svs (key : List Cn.T) : ∀ o : List Cn.T, (svs o).filterMap (fun v => if inV v (svs key) then some v else none) = svs (o.filter fun c => key.contains c)
  | [] => rfl
  | c :: r => by
    have ih := filter_svs key r
    show ((sv c :: svs r).filterMap fun v => if inV v (svs key) then some v else none) = _
    rw [List.filterMap_cons, inV_svs, List.filter_cons]
    cases key.contains c with
    | true =>
      show sv c :: _ = _
      rw [ih]; rfl
    | false => exact ih
theorem eq_nilK {K : PySem.W.Frag} {H : Hp} {a : Addr} {vk : List V} {ks : List (List Cn.T)} {σ : L2.St} {i : Nat} {Q : Bool → Hp → Prop} (hσ : σ[i]? = some (some (.ref a))) (e : H a = some (.lst vk)) (he : Each (KeyR H) vk ks) (hn : ∀ k ∈ ks, ∀ w ∈ k, isName w = true) (k : ∀ H', But [] H H' → Q ks.isEmpty H') :
    tTest (tOp (rEqD K) (tVar i) (tLst tNil)) σ H Q := by
  refine ⟨_, hσ, szl (by simp), fun p hp => ?_⟩
  have b := newB (o := .lst []) hp
  refine ⟨.list (ks.map fun k => .tuple (k.map fun l => .str (S l))), .list [], .lst (SqL.of (b.at e)) (dpAll_keys (he.mono fun _ _ z => z.fix (fixO b))), .lst (SqL.of upd_same) .nil, shaped_keys ks hn, rfl, ks.isEmpty, ?_, k _ b⟩
  cases ks with
  | nil => rfl
  | cons a r => rfl
section
variable {P : Program} {w : World} {K : PySem.W.Frag} {mg : Str → Option Value} {base : Heap} {CR CT CS CI : Addr} {f : Addr} {fd : FuncData}
theorem sc__law_keys : FnScope ["feed", "columns", "keys", "turn", "key", "bad", "one", "shared", "column"] ["feed", "columns"] (defScope s__law_keys) := ⟨rfl, rfl, rfl, by decide +kernel, rfl, by decide +kernel, by decide +kernel⟩
structure KeysOk (cols : List Cn.T) (ks : List (List Cn.T)) : Prop where
  len : ks.length ≤ 3
  each : ∀ k ∈ ks, k ≠ [] ∧ k.length ≤ 3 ∧ areDiff k cols = true
  apart : ks.Pairwise (fun o k => hasAll k o = false ∧ hasAll o k = false)
def sp_keys : Sp := fun vs H Q _ => ∃ (a b : Addr) (cols : List Cn.T), vs = [.ref a, .ref b] ∧ FeedR H a ∧ H b = some (.lst (svs cols)) ∧ cols ≠ [] ∧ cols.length ≤ 5 ∧ cols.Nodup ∧ (∀ w ∈ cols, isName w = true) ∧
  ∀ H' r vk ks, But [a] H H' → FeedR H' a → H r = none → H' r = some (.lst vk) → Each (KeyR H') vk ks → KeysOk cols ks → ks ≠ [] → Q (.ref r) H'
theorem ok_keys (F : Fun K "_law_keys" "_law_keys" s__law_keys f fd) (T : LTx K mg CR CT CS CI) (c__law_take : Cal P w K mg base 1 "_law_take" sp_take) (c__law_mixed : Cal P w K mg base 2 "_law_mixed" (sp_mixed K)) : FnOk P w K mg base (L2.CX P w) 3 f fd ["feed", "columns"] sp_keys := by
  refine F.okX sc__law_keys (fun vs H Q E h => ?_) (fun cdv A outer s H vs Q E hr h => ?_)
  · obtain ⟨a, b, _, rfl, _⟩ := h
    rfl
  · obtain ⟨a, b, cols, rfl, hf, hb, h0, h5, hd, hn, k⟩ := h
    refine ⟨_, (pss_cons (ps_set (i := 2) sc__law_keys.nd rfl (Or.inl rfl) (pe_lst pa_nil))
  (pss_cons (ps_for (passes_of rfl) (by rfl) (pi_range1 (by rfl) T.b_range (pa_cons (pe_op op_add pe_int (p_call E c__law_take hr (by decide) (by rfl) (passX rfl rfl rfl (takes_of rfl rfl rfl rfl)) (pa_cons (pv 0) (pa_cons pe_int pa_nil)))) pa_nil)) (pg_name (i := 3) sc__law_keys.nd rfl (Or.inl rfl))
  (pss_cons (ps_set (i := 4) sc__law_keys.nd rfl (Or.inr rfl) (pe_slice (sl_listK K rfl) (p_call E c__law_mixed hr (by decide) (by rfl) (passX rfl rfl rfl (takes_of rfl rfl rfl rfl)) (pa_cons (pv 0) (pa_cons (pv 1) pa_nil))) po_none (po_some (pe_op op_add pe_int (p_call E c__law_take hr (by decide) (by rfl) (passX rfl rfl rfl (takes_of rfl rfl rfl rfl)) (pa_cons (pv 0) (pa_cons pe_int pa_nil)))))))
  (pss_cons (ps_set (i := 5) sc__law_keys.nd rfl (Or.inl rfl) (pe_lst pa_nil))
  (pss_cons (ps_for (passes_of rfl) (by rfl) (pi_listK K rfl (pv 2)) (pg_name (i := 6) sc__law_keys.nd rfl (Or.inl rfl))
  (pss_cons (ps_setLc (i := 7) (own := [("column", 8)]) (g := gName 8) (by rfl) sc__law_keys.nd rfl rfl (sw_true rfl rfl rfl (by decide +kernel)) (pi_tupK K rfl (pv 6)) (blkOk_by (own := [("column", 8)]) (N := ["feed", "columns", "keys", "turn", "key", "bad", "one", "shared", "column"]) (sc := (defScope s__law_keys)) (by decide +kernel)) (fun _ _ _ _ _ => (pg_name (i := 8) sc__law_keys.nd rfl (Or.inl rfl))) (fun _ _ _ _ _ => (pts_one (pt_cmpR (op_in_seqK K rfl) (pv 8) (pv 4) (by rfl)))) (fun _ _ _ _ _ => (pv 8)))
  (pss_one (ps_if (pt_cmpR (op_in_seqK K rfl) (pe_callB (call_len_seqK K rfl) (by rfl) T.b_len (by decide +kernel) (pa_cons (pv 7) pa_nil)) (pe_lst (pa_cons (pe_callB (call_len_seqK K rfl) (by rfl) T.b_len (by decide +kernel) (pa_cons (pv 4) pa_nil)) (pa_cons (pe_callB (call_len_seqK K rfl) (by rfl) T.b_len (by decide +kernel) (pa_cons (pv 6) pa_nil)) pa_nil))) (by rfl))
  (pss_one (ps_expr (pe_bm PySem.F.plainAttrs_list PySem.F.slot_list_append PySem.F.type_list_append mt_append (pv 5) (pa_cons (pv 6) pa_nil))))
  pss_nil))))
  (pss_one (ps_if (PW.pt (pw_and (pt_cmpR (op_eqDK K rfl hr.units) (pv 5) (pe_lst pa_nil) (nomark _)) (pw_and1 (pt_cmpR op_lt (pe_callB (call_len_seqK K rfl) (by rfl) T.b_len (by decide +kernel) (pa_cons (pv 2) pa_nil)) pe_int (nomark _)))))
  (pss_one (ps_expr (pe_bm PySem.F.plainAttrs_list PySem.F.slot_list_append PySem.F.type_list_append mt_append (pv 2) (pa_cons (pe_callTy (call_tuple_ofK K rfl) (by rfl) T.b_tuple (by decide +kernel) (pa_cons (pv 4) pa_nil)) pa_nil))))
  pss_nil))))))
  (pss_one (ps_ret (pv 2))))), ?_⟩
    obtain ⟨c0, cs, ec⟩ : ∃ c0 cs, cols = c0 :: cs := by cases cols with
      | nil => exact absurd rfl h0
      | cons x y => exact ⟨x, y, rfl⟩
    have nba : b ≠ a := fun z => by
      obtain ⟨d, s0, e⟩ := hf
      rw [z, e, ec] at hb
      cases hb
    refine ⟨szl (by simp), fun l hl => ?_⟩
    have fresh : ∀ {H' : Hp} {x : Addr}, But [a] H H' → FeedR H' a → H' x = none → H x = none := fun {H' x} b ⟨d, s, e⟩ h => b.free h (not1 fun z => by rw [z, e] at h; cases h)
    have nla : l ≠ a := fun z => by obtain ⟨d, s0, e⟩ := hf; rw [z, e] at hl; cases hl
    have hf1 : FeedR (upd H l (.lst [])) a := by obtain ⟨d, s0, e⟩ := hf; exact ⟨d, s0, (newB hl).at e⟩
    refine ⟨_, rfl, a, 4, rfl, by decide, by decide, hf1, fun H1 r1 b1 f1 h1 => ?_⟩
    have er : (1 : Int) + (r1 : Int) = ((r1 + 1 : Nat) : Int) := by omega
    refine ⟨_, _, rfl, rfl, _, rfl, ?_, ?_, ?_⟩
    · show -(2 ^ 62) ≤ (1 : Int) + (r1 : Int); omega
    · show (1 : Int) + (r1 : Int) < 2 ^ 62; omega
    have et : ((1 : Int) + (r1 : Int)).toNat = r1 + 1 := by omega
    rw [et]
    have b01 : But [a] H H1 := ((But.refl.new hl) : But [a] H _).trans b1
    have el1 : H1 l = some (.lst []) := b1.at1 upd_same nla
    refine for_it (walk_range (lo := 0) (n := r1 + 1)) (fun i σ H' => ∃ vk ks, (∃ v3 v4 v5 v6 v7, σ = [some (.ref a), some (.ref b), some (.ref l), v3, v4, v5, v6, v7, none]) ∧ But [a] H H' ∧ FeedR H' a ∧ H' l = some (.lst vk) ∧ Each (KeyR H') vk ks ∧ KeysOk cols ks ∧ (1 ≤ i → ks ≠ []))
      ⟨[], [], ⟨_, _, _, _, _, rfl⟩, b01, f1, el1, Each.nil, ⟨by simp, by simp, List.Pairwise.nil⟩, by omega⟩ (fun _ σ H' _ _ => trivial) (fun i x σ H2 H2' hi ⟨vk, ks, ⟨v3, v4, v5, v6, v7, es⟩, b2, f2, el2, ek, ok, hne⟩ y => ?_) (fun σ H2 ⟨vk, ks, ⟨v3, v4, v5, v6, v7, es⟩, b2, f2, el2, ek, ok, hne⟩ => ?_)
    · obtain ⟨rfl, rfl⟩ := y
      subst es
      -- key
      refine ⟨_, rfl, _, rfl, a, b, cols, rfl, f2, b2.at1 hb nba, by omega, hn, fun H3 kr ws b3 f3 nkr e3 pm => ?_⟩
      refine ⟨_, rfl, a, 3, rfl, by decide, by decide, f3, fun H4 r4 b4 f4 h4 => ?_⟩
      have nkra : kr ≠ a := fun z => by obtain ⟨d, s0, e⟩ := f2; rw [z, e] at nkr; cases nkr
      have e4 : H4 kr = some (.lst (svs ws)) := b4.at1 e3 nkra
      have er4 : (1 : Int) + (r4 : Int) = ((r4 + 1 : Nat) : Int) := by omega
      refine ⟨_, _, rfl, rfl, _, rfl, kr, svs ws, rfl, SqL.of e4, fun ka hka => ?_⟩
      have ecut : cutV (svs ws) none (some ((1 : Int) + (r4 : Int))) = svs (ws.take (r4 + 1)) := by rw [er4, cutV_to, svs_take]
      show gName 4 _ _ (upd H4 ka (.lst (cutV (svs ws) none (some ((1 : Int) + (r4 : Int)))))) _
      rw [ecut]
      obtain ⟨knd, ksub⟩ := sub_perm (n := r4 + 1) pm hd
      have klen : (ws.take (r4 + 1)).length ≤ 3 := by rw [List.length_take]; omega
      have kne : ws.take (r4 + 1) ≠ [] := fun z => by
        have hw := pm.length_eq
        have : 0 < cols.length := List.length_pos_iff.mpr h0
        have z2 := congrArg List.length z
        rw [List.length_take, List.length_nil] at z2
        omega
      generalize ws.take (r4 + 1) = key at knd ksub klen kne
      have b5 : But [] H4 (upd H4 ka (.lst (svs key))) := newB hka
      have eka : (upd H4 ka (.lst (svs key))) ka = some (.lst (svs key)) := upd_same
      generalize upd H4 ka (.lst (svs key)) = H5 at b5 eka
      refine ⟨szl (by simp), fun ba hba => ?_⟩
      have b6 : But [] H5 (upd H5 ba (.lst [])) := newB hba
      have eba : (upd H5 ba (.lst [])) ba = some (.lst []) := upd_same
      have nkb : ka ≠ ba := ne_of_none eka hba
      have b26 : But [a] H2' (upd H5 ba (.lst [])) := (b3.trans b4).trans (But.of (b5.trans b6))
      have f26 : Fix 0 H2' (upd H5 ba (.lst [])) := by obtain ⟨d, s0, e⟩ := f2; exact fixL b26 e
      have f6 : FeedR (upd H5 ba (.lst [])) a := by obtain ⟨d, s0, e⟩ := f4; exact ⟨d, s0, b6.at (b5.at e)⟩
      have el6 : (upd H5 ba (.lst [])) l = some (.lst vk) := b26.at1 el2 nla
      have eka6 := b6.at eka
      have ek6 := ek.mono fun _ _ z => z.fix f26
      have nbl : l ≠ ba := ne_of_none (b5.at (b4.at1 (b3.at1 el2 nla) nla)) hba
      have nab : a ≠ ba := fun z => by obtain ⟨d, s0, e⟩ := f4; rw [← z, b5.at e] at hba; cases hba
      generalize upd H5 ba (.lst []) = H6 at b6 eba b26 f26 f6 el6 eka6 ek6
      -- for one in keys
      refine ⟨_, rfl, l, rfl, ⟨_, SqL.of el6⟩, ?_⟩
      refine for_it (walk_list (K := K) (a := l) (xs := vk)) (fun j σ H' => ∃ vb bs, (∃ v6 v7, σ = [some (.ref a), some (.ref b), some (.ref l), some (.int (0 + (i : Int))), some (.ref ka), some (.ref ba), v6, v7, none]) ∧ But [ba] H6 H' ∧ H' ba = some (.lst vb) ∧ Each (KeyR H') vb bs ∧ bs.length ≤ j ∧ (∀ o ∈ bs, o ∈ ks) ∧ (bs = [] ↔ ∀ o ∈ ks.take j, hasAll key o = false ∧ hasAll o key = false))
        ⟨[], [], ⟨_, _, rfl⟩, But.refl, eba, Each.nil, by simp, by simp, by simp⟩ (fun j σ H' _ ⟨_, _, _, z, _⟩ => SqL.of (z.at1 el6 nbl)) (fun j x σ H7 H7' hj ⟨vb, bs, ⟨v6, v7, es⟩, b7, e7, eb7, bl, bsub, biff⟩ y => ?_) (fun σ H7 ⟨vb, bs, ⟨v6, v7, es⟩, b7, e7, eb7, bl, bsub, biff⟩ => ?_)
      · obtain ⟨rfl, hx⟩ := y
        subst es
        obtain ⟨o, ho, oa, rfl, eo⟩ := ek6.at hx
        have noa : oa ≠ ba := fun z => by rw [z, eba] at eo; cases eo
        have eo7 := b7.at1 eo noa
        have eka7 := b7.at1 eka6 nkb
        have om := List.mem_of_getElem? ho
        have ond := areDiff_nd (ok.each o om).2.2
        have ol := (ok.each o om).2.1
        refine ⟨_, rfl, oa, rfl, ⟨_, SqT.of eo7⟩, fun D hD => ?_⟩
        refine lc_pure (svs o) (fun v => if inV v (svs key) then some v else none) (walk_tup (K := K) (a := oa)) rfl yat (fun acc => SqT.of ((newB hD).at eo7)) (fun m x acc N hx2 hl2 hy1 hy2 => ?_) ?_
        · obtain ⟨c, hc, rfl⟩ := svs_get hx2
          refine ⟨rfl, _, rfl, _, rfl, ka, svs key, rfl, .inl (SqL.of ((newB hD).at eka7)), rfl, flat_svs _, _, rfl, ?_⟩
          have hm : m < o.length := (List.getElem?_eq_some_iff.mp hc).1
          refine ite2 (fun h => ?_) (fun h => ?_)
          · exact ⟨_, rfl, lc_put (szt (by omega)) (hy1 _ (if_pos h))⟩
          · exact hy2 (if_neg h)
        · rw [filter_svs]
          have b8 : But [] H7' (upd H7' D (.lst (svs (o.filter fun c => key.contains c)))) := newB hD
          have eD : (upd H7' D (.lst (svs (o.filter fun c => key.contains c)))) D = some (.lst (svs (o.filter fun c => key.contains c))) := upd_same
          generalize upd H7' D (.lst (svs (o.filter fun c => key.contains c))) = H8 at b8 eD
          refine ⟨_, rfl, D, _, rfl, .inl (SqL.of eD), _, rfl, ka, _, rfl, .inl (SqL.of (b8.at eka7)), _, rfl, oa, _, rfl, .inr (SqT.of (b8.at eo7)), szl (by simp), fun q hq => ?_⟩
          refine ⟨q, _, rfl, .inl (SqL.of upd_same), rfl, rfl, _, rfl, ?_⟩
          have bq : But [] H8 (upd H8 q (.lst [V.int ((svs key).length : Nat), V.int ((svs o).length : Nat)])) := newB hq
          generalize upd H8 q (.lst [V.int ((svs key).length : Nat), V.int ((svs o).length : Nat)]) = H9 at bq
          have bb := b8.trans bq
          have e9 := bb.at e7
          have ein : inV (V.int ((svs (o.filter fun c => key.contains c)).length : Nat)) [V.int ((svs key).length : Nat), V.int ((svs o).length : Nat)] = !(!(hasAll key o) && !(hasAll o key)) := by
            rw [inV_two, svs_len, svs_len, svs_len]; exact shares ond knd
          have tk : ks.take (j + 1) = ks.take j ++ [o] := by rw [List.take_add_one, ho]; rfl
          refine ite2 (fun h => ?_) (fun h => ?_)
          · have hh : (!(!(hasAll key o) && !(hasAll o key))) = true := by rw [← ein]; exact h
            have jl : j < vk.length := hj
            have b9 : But [ba] H9 (upd H9 ba (.lst (vb ++ [V.ref oa]))) := But.refl.put (by simp)
            refine ⟨_, rfl, tyList e9, _, rfl, ba, vb, .ref oa, rfl, rfl, e9, szt ?_, vb ++ [.ref oa], bs ++ [o], ⟨_, _, rfl⟩, (b7.trans (But.of bb)).trans b9, upd_same, ?_, by simp; omega, ?_, ?_⟩
            · have := eb7.1
              have h3 := ek6.1
              have := ok.len
              omega
            · exact ((eb7.mono fun _ _ z => z.fix (fixO bb)).mono fun _ _ z => z.fix (fixL b9 e9)).snoc ⟨oa, rfl, b9.at1 (bb.at eo7) noa⟩
            · intro q hq
              rcases List.mem_append.mp hq with z | z
              · exact bsub q z
              · rw [List.mem_singleton.mp z]; exact om
            · rw [tk]
              refine ⟨fun z => by simp at z, fun z => ?_⟩
              have := z o (by simp)
              rw [this.1, this.2] at hh
              cases hh
          · have hh : (!(!(hasAll key o) && !(hasAll o key))) = false := by
              rw [← ein]
              exact Bool.eq_false_iff.mpr h
            have h2 : hasAll key o = false ∧ hasAll o key = false := by
              revert hh
              cases hasAll key o <;> cases hasAll o key <;> simp
            refine ⟨vb, bs, ⟨_, _, rfl⟩, b7.trans (But.of bb), e9, eb7.mono fun _ _ z => z.fix (fixO bb), by omega, bsub, ?_⟩
            rw [tk, biff]
            refine ⟨fun z q hq => ?_, fun z q hq => z q (List.mem_append_left _ hq)⟩
            rcases List.mem_append.mp hq with y | y
            · exact z q y
            · rw [List.mem_singleton.mp y]; exact h2
      · subst es
        have jl : vk.length = ks.length := ek6.1
        rw [jl, List.take_length] at biff
        have hba2 : H2' ba = none := by
          have q : H4 ba = none := b5.free hba (by simp)
          have q3 : H3 ba = none := b4.free q (not1 nab.symm)
          exact b3.free q3 (not1 nab.symm)
        have b27 : But [a] H2' H7 := fun x o hx e => b7 x o (not1 fun z => by rw [z, hba2] at e; cases e) (b26 x o hx e)
        have f27 : Fix 0 H2' H7 := by obtain ⟨d, s0, e⟩ := f2; exact fixL b27 e
        have b07 : But [a] H H7 := b2.trans b27
        have f7 : FeedR H7 a := by obtain ⟨d, s0, e⟩ := f6; exact ⟨d, s0, b7.at1 e nab⟩
        have el7 : H7 l = some (.lst vk) := b7.at1 el6 nbl
        have eka7 := b7.at1 eka6 nkb
        have ek7 := ek.mono fun _ _ z => z.fix f27
        have wn : ∀ q ∈ ks, ∀ c ∈ q, isName c = true := fun q hq c hc => hn c (hasAll_iff.mp (by have := (ok.each q hq).2.2; unfold areDiff at this; exact (Bool.and_eq_true_iff.mp this).2) c hc)
        refine eq_nilK (K := K) rfl e7 eb7 (fun q hq => wn q (bsub q hq)) fun H8 b8 => ?_
        have b08 := b07.trans (But.of b8)
        have f8 : FeedR H8 a := by obtain ⟨d, s0, e⟩ := f7; exact ⟨d, s0, b8.at e⟩
        have el8 := b8.at el7
        have ek8 := ek7.mono fun _ _ z => z.fix (fixO b8)
        cases bs with
        | cons q0 qs =>
          refine iteF ?_
          refine ⟨vk, ks, ⟨_, _, _, _, _, rfl⟩, b08, f8, el8, ek8, ok, fun _ z => ?_⟩
          have := bsub q0 (by simp)
          rw [z] at this
          cases this
        | nil =>
          refine iteT ?_
          refine ⟨_, rfl, l, _, rfl, .inl (SqL.of el8), _, _, rfl, rfl, _, rfl, ?_⟩
          refine ite2 (fun h => ?_) (fun h => ?_)
          · have l3 : ks.length < 3 := by
              have := of_decide_eq_true h
              rw [jl] at this
              omega
            refine ⟨_, rfl, tyList el8, _, rfl, ka, svs key, rfl, .inl ⟨SqL.of (b8.at eka7), fun t ht => ?_⟩⟩
            have bt : But [] H8 (upd H8 t (.tup (svs key))) := newB ht
            have elt := bt.at el8
            have bl : But [l] (upd H8 t (.tup (svs key))) (upd (upd H8 t (.tup (svs key))) l (.lst (vk ++ [V.ref t]))) := But.refl.put (by simp)
            have ntl : t ≠ l := fun z => by rw [z, el8] at ht; cases ht
            refine ⟨l, vk, .ref t, rfl, rfl, elt, szt (by omega), vk ++ [.ref t], ks ++ [key], ⟨_, _, _, _, _, rfl⟩, (b08.trans (But.of bt)).put0 hl, ?_, upd_same, ?_, ?_, fun _ => by simp⟩
            · obtain ⟨d, s0, e⟩ := f8
              exact ⟨d, s0, bl.at1 (bt.at e) nla.symm⟩
            · exact ((ek8.mono fun _ _ z => z.fix (fixO bt)).mono fun _ _ z => z.fix (fixL bl elt)).snoc ⟨t, rfl, bl.at1 upd_same ntl⟩
            · refine ⟨by simp; omega, fun q hq => ?_, ?_⟩
              · rcases List.mem_append.mp hq with z | z
                · exact ok.each q z
                · rw [List.mem_singleton.mp z]; exact ⟨kne, klen, areDiff_of knd ksub⟩
              · refine List.pairwise_append.mpr ⟨ok.apart, by simp, fun q hq q2 hq2 => ?_⟩
                rw [List.mem_singleton.mp hq2]
                exact biff.mp rfl q hq
          · refine ⟨vk, ks, ⟨_, _, _, _, _, rfl⟩, b08, f8, el8, ek8, ok, fun _ z => ?_⟩
            refine h (decide_eq_true ?_)
            rw [jl, z]; decide
    · subst es
      exact ⟨_, rfl, k H2 l vk ks b2 f2 hl el2 ek ok (hne (by omega))⟩
end
end Cn
set_option Elab.async false
set_option linter.all false
set_option maxRecDepth 100000
set_option maxHeartbeats 4000000
/-! the rows of drawn tables -/
namespace Cn
open PySem L2
/-- a table as the law keeps it: a tuple of a name, columns, keys, references -/
def TabR (H : Hp) (v : V) (t : Tbl) : Prop := ∃ a ca ua ra uk rk, v = .ref a ∧ H a = some (.tup [sv t.name, .ref ca, .ref ua, .ref ra]) ∧ H ca = some (.tup (svs t.cols)) ∧ H ua = some (.tup uk) ∧ Each (KeyR H) uk t.keys ∧ H ra = some (.tup rk) ∧ Each (RefR H) rk t.refs
theorem TabR.fix {CR : Addr} {H H' : Hp} (f : Fix CR H H') {v : V} {t : Tbl} (h : TabR H v t) : TabR H' v t := by
  obtain ⟨a, ca, ua, ra, uk, rk, e, h1, h2, h3, h4, h5, h6⟩ := h
  exact ⟨a, ca, ua, ra, uk, rk, e, f a _ h1 trivial, f ca _ h2 trivial, f ua _ h3 trivial, h4.mono fun _ _ z => z.fix f, f ra _ h5 trivial, h6.mono fun _ _ z => z.fix f⟩
section
variable {K : PySem.W.Frag} {σ : L2.St} {H : Hp} {te : TE} {n i j : Nat} {a : Addr}
theorem MkL.lcT {xs : List Cn.T} {f : Cn.T → Cn.T} (hσ : σ[j]? = some (some (.ref a))) (e : H a = some (.tup (svs xs))) (he : ∀ x ∈ xs, Pt te ((wipe σ [i]).set i (some (sv x))) (f x) n) (hw : ∀ v, wipe ((wipe σ [i]).set i v) [i] = wipe σ [i]) (hz : xs.length ≤ 1000) :
    MkL (tLc (iTup K (tVar j)) (gName i) tYes te [i]) σ H (xs.map f) := fun Q q =>
  ⟨_, hσ, a, rfl, ⟨_, SqT.of e⟩, fun D hD => lcG But.refl (walk_tup (K := K) (a := a) (xs := svs xs)) (fun H' b => SqT.of (b.at e)) hw he hz q D hD⟩
theorem MkL.lcK {vk : List V} {ks : List (List Cn.T)} {f : List Cn.T → Cn.T} (hσ : σ[j]? = some (some (.ref a))) (e : H a = some (.tup vk)) (hk : Each (KeyR H) vk ks) (he : ∀ x ∈ ks, ∀ H' b, H' b = some (.tup (svs x)) → ∀ Q : VK, (∀ H'', But [] H' H'' → Q (sv (f x)) H'') → te ((wipe σ [i]).set i (some (.ref b))) H' Q) (hw : ∀ v, wipe ((wipe σ [i]).set i v) [i] = wipe σ [i]) (hz : ks.length ≤ 1000) :
    MkL (tLc (iTup K (tVar j)) (gName i) tYes te [i]) σ H (ks.map f) := fun Q q =>
  ⟨_, hσ, a, rfl, ⟨_, SqT.of e⟩, fun D hD => lc_grow (fun m => (ks[m]?).map fun x => sv (f x)) (walk_tup (K := K) (a := a) (xs := vk)) hD (fun H' b => SqT.of (b.at e)) (fun m x acc H2 H' N hm hl b hD2 y hy _ => by
      obtain ⟨rfl, hx⟩ := y
      obtain ⟨k, hk2, ka, rfl, ek⟩ := hk.at hx
      refine ⟨hw _, ?_⟩
      refine he k (List.mem_of_getElem? hk2) _ ka (b.at ek) _ fun H'' b2 => ?_
      refine lc_putG (b.trans b2) hD (b2.at hD2) ?_ fun H3 b3 h3 => hy _ H3 (by rw [hk2]; rfl) b3 h3
      have := hk.1
      have : m < vk.length := hm
      omega) fun H' b hd => by
        have e2 : (List.range vk.length).filterMap (fun m => (ks[m]?).map fun x => sv (f x)) = svs (ks.map f) := by
          rw [hk.1, range_map]
          unfold svs
          rw [List.map_map]; rfl
        rw [e2] at hd
        exact q H' D b hD hd⟩
end
theorem tableRows_le {t : Tbl} (wf : WfT t) : (tableRows t).length ≤ 12 := (rows_room wf).1
section
variable {P : Program} {w : World} {K : PySem.W.Frag} {mg : Str → Option Value} {base : Heap} {CR CT CS CI : Addr} {f : Addr} {fd : FuncData}
theorem sc__law_rows : FnScope ["tables", "rows", "name", "columns", "keys", "refers", "part", "target", "required", "column", "key"] ["tables"] (defScope s__law_rows) := ⟨rfl, rfl, rfl, by decide +kernel, rfl, by decide +kernel, by decide +kernel⟩
def sp_rows : Sp := fun vs H Q _ => ∃ t vt ts, vs = [.ref t] ∧ H t = some (.lst vt) ∧ Each (TabR H) vt ts ∧ ts.length ≤ 5 ∧ (∀ t ∈ ts, WfT t) ∧ ∀ H' r, But [] H H' → H r = none → H' r = some (.lst (svs (ts.flatMap tableRows))) → Q (.ref r) H'
theorem ok_rows (F : Fun K "_law_rows" "_law_rows" s__law_rows f fd) (T : LTx K mg CR CT CS CI) : FnOk P w K mg base (L2.CX P w) 1 f fd ["tables"] sp_rows := by
  refine F.okX sc__law_rows (fun vs H Q E h => ?_) (fun cdv A outer s H vs Q E hr h => ?_)
  · obtain ⟨t, _, _, rfl, _⟩ := h
    rfl
  · obtain ⟨tl, vt, ts, rfl, htl, ht, h5, wf, k⟩ := h
    refine ⟨_, (pss_cons (ps_set (i := 1) sc__law_rows.nd rfl (Or.inl rfl) (pe_lst pa_nil))
  (pss_cons (ps_for (passes_of rfl) (by rfl) (pi_listK K rfl (pv 0)) (pg_tup (by rfl) (pgs_cons (pg_name (i := 2) sc__law_rows.nd rfl (Or.inl rfl)) (pgs_cons (pg_name (i := 3) sc__law_rows.nd rfl (Or.inl rfl)) (pgs_cons (pg_name (i := 4) sc__law_rows.nd rfl (Or.inl rfl)) (pgs_cons (pg_name (i := 5) sc__law_rows.nd rfl (Or.inl rfl)) pgs_nil)))))
  (pss_cons (ps_expr (pe_bm PySem.F.plainAttrs_list PySem.F.slot_list_append PySem.F.type_list_append mt_append (pv 1) (pa_cons (pe_op op_add_str pe_str (pv 2)) pa_nil)))
  (pss_cons (ps_set (i := 1) sc__law_rows.nd rfl (Or.inl rfl) (pe_op op_cat (pv 1) (pe_lc (own := [("column", 9)]) (g := gName 9) (tt := tYes) (by rfl) sc__law_rows.nd (pi_tupK K rfl (pv 3)) (blkOk_by (own := [("column", 9)]) (N := ["tables", "rows", "name", "columns", "keys", "refers", "part", "target", "required", "column", "key"]) (sc := (defScope s__law_rows)) (by decide +kernel)) (fun _ _ _ _ _ => (pg_name (i := 9) sc__law_rows.nd rfl (Or.inl rfl))) (fun _ _ _ _ _ => pts_nil) (fun _ _ _ _ _ => (pe_op op_add_str pe_str (pv 9))))))
  (pss_cons (ps_set (i := 1) sc__law_rows.nd rfl (Or.inl rfl) (pe_op op_cat (pv 1) (pe_lc (own := [("key", 10)]) (g := gName 10) (tt := tYes) (by rfl) sc__law_rows.nd (pi_tupK K rfl (pv 4)) (blkOk_by (own := [("key", 10)]) (N := ["tables", "rows", "name", "columns", "keys", "refers", "part", "target", "required", "column", "key"]) (sc := (defScope s__law_rows)) (by decide +kernel)) (fun _ _ _ _ _ => (pg_name (i := 10) sc__law_rows.nd rfl (Or.inl rfl))) (fun _ _ _ _ _ => pts_nil) (fun _ _ _ _ _ => (pe_op op_add_str pe_str (pe_joinK K rfl pe_str (pv 10)))))))
  (pss_cons (ps_for (passes_of rfl) (by rfl) (pi_tupK K rfl (pv 5)) (pg_tup (by rfl) (pgs_cons (pg_name (i := 6) sc__law_rows.nd rfl (Or.inl rfl)) (pgs_cons (pg_name (i := 7) sc__law_rows.nd rfl (Or.inl rfl)) (pgs_cons (pg_name (i := 8) sc__law_rows.nd rfl (Or.inl rfl)) pgs_nil))))
  (pss_one (ps_expr (pe_bm PySem.F.plainAttrs_list PySem.F.slot_list_append PySem.F.type_list_append mt_append (pv 1) (pa_cons (pe_op op_add_str (pe_op op_add_str (pe_op op_add_str (pe_op op_add_str pe_str (pe_ix (ix_listK K rfl) (pe_lst (pa_cons pe_str (pa_cons pe_str pa_nil))) (pe_callTy call_int1 (by rfl) T.b_int (by decide +kernel) (pa_cons (pv 8) pa_nil)) (fun _ _ => rfl))) (pe_joinK K rfl pe_str (pv 6))) pe_str) (pv 7)) pa_nil)))))
  (pss_one (ps_expr (pe_bm PySem.F.plainAttrs_list PySem.F.slot_list_append PySem.F.type_list_append mt_append (pv 1) (pa_cons pe_str pa_nil)))))))))
  (pss_one (ps_ret (pv 1))))), ?_⟩
    refine ⟨szl (by simp), fun l0 hl0 => ?_⟩
    refine ⟨_, rfl, tl, rfl, ⟨_, SqL.of ((newB hl0).at htl)⟩, ?_⟩
    refine for_it (walk_list (K := K) (a := tl) (xs := vt)) (fun i σ H' => ∃ la, (∃ v2 v3 v4 v5 v6 v7 v8, σ = [some (.ref tl), some (.ref la), v2, v3, v4, v5, v6, v7, v8, none, none]) ∧ H la = none ∧ But [] H H' ∧ H' la = some (.lst (svs ((ts.take i).flatMap tableRows))))
      ⟨l0, ⟨_, _, _, _, _, _, _, rfl⟩, hl0, newB hl0, upd_same⟩ (fun i σ H' _ ⟨_, _, _, b, _⟩ => SqL.of (b.at htl)) (fun i x σ H1 H1' hi ⟨la, ⟨v2, v3, v4, v5, v6, v7, v8, es⟩, nla, b1, e1⟩ y => ?_) (fun σ H1 ⟨la, ⟨v2, v3, v4, v5, v6, v7, v8, es⟩, nla, b1, e1⟩ => ?_)
    · obtain ⟨rfl, hx⟩ := y
      subst es
      obtain ⟨t, htt, a, ca, ua, ra, uk, rk, rfl, ha, hca, hua, huk, hra, hrk⟩ := ht.at hx
      have w := wf t (List.mem_of_getElem? htt)
      have lroom : ((ts.take i).flatMap tableRows).length ≤ 60 := (all_room (by rw [List.length_take]; omega) fun q hq => wf q (List.mem_of_mem_take hq)).1
      generalize hrows : (ts.take i).flatMap tableRows = rows0 at e1 lroom
      refine ⟨a, _, rfl, SqT.of (b1.at ha), rfl, _, _, rfl, _, _, rfl, _, _, rfl, _, _, rfl, rfl, ?_⟩
      refine sq_app (fi := 1) (F := la) rfl e1 (Pt.gv (Pt.add (Pt.lit (l := [116, 97, 98, 108, 101, 32]) (n := 6)) (Pt.var (i := 2) (l := t.name) (n := 8) rfl w.name))) (by omega) fun H2 b2 e2 => ?_
      have b02 : But [] H H2 := ((But.of b1 : But [la] H H1').trans b2).drop nla
      refine sq_mk (i := 1) (MkL.cat (GvL.var (i := 1) rfl e2) (fun H_ b_ => MkL.gv (MkL.lcT (i := 9) (j := 3) (xs := t.cols) (f := fun x => kColumn ++ x) (n := 9 + 8) rfl (b_.at (b02.at hca)) (fun x hx => Pt.add (Pt.lit (l := kColumn) (n := 9)) (Pt.var (i := 9) (l := x) (n := 8) rfl (w.col x hx))) (fun _ => rfl) (by have := w.cols; omega))) (by have := w.cols; simp; omega)) fun H3 lb b3 n3 e3 => ?_
      have b03 := b02.trans b3
      refine sq_mk (i := 1) (MkL.cat (GvL.var (i := 1) rfl e3) (fun H_ b_ => MkL.gv (MkL.lcK (i := 10) (j := 4) (ks := t.keys) (f := fun x => kKey ++ joinT [32] x) rfl (b_.at (b03.at hua)) (huk.mono fun _ _ z => z.fix (fixO (b03.trans b_))) (fun x hx H' p ep Q q => ?_) (fun _ => rfl) (by have := w.keys; omega))) (by have := w.cols; have := w.keys; simp; omega)) fun H4 lc b4 n4 e4 => ?_
      · obtain ⟨q3, qc⟩ := w.key x hx
        have q8 : ∀ c ∈ x, c.length ≤ 8 := fun c hc => w.col c (qc c hc)
        have jl := joinT_len x q8
        refine ⟨⟨_, rfl⟩, _, rfl, S [32], p, x.map S, rfl, rfl, .inr (by rw [← svs_str]; exact SqT.of ep), join_room q8 (by omega), ?_⟩
        rw [join_S]
        refine ⟨S kKey, S (joinT [32] x), rfl, rfl, szl (by rw [S_len, S_len]; have : kKey.length = 6 := rfl; omega), ?_⟩
        rw [S_app]
        exact q H' But.refl
      have b04 := b03.trans b4
      have nlc : H lc = none := b03.free n4 (by simp)
      have era := b04.at hra
      generalize hR : (rows0 ++ [[116, 97, 98, 108, 101, 32] ++ t.name] ++ t.cols.map fun x => kColumn ++ x) ++ t.keys.map (fun x => kKey ++ joinT [32] x) = R at e4
      have hRl : R.length ≤ 100 := by
        rw [← hR]
        have := w.cols
        have := w.keys
        simp
        omega
      have nrl : ra ≠ lc := ne_of_none hra nlc
      refine ⟨_, rfl, ra, rfl, ⟨_, SqT.of era⟩, ?_⟩
      refine for_it (walk_tup (K := K) (a := ra) (xs := rk)) (fun m σ H' => (∃ v6 v7 v8, σ = [some (.ref tl), some (.ref lc), some (sv t.name), some (.ref ca), some (.ref ua), some (.ref ra), v6, v7, v8, none, none]) ∧ But [lc] H4 H' ∧ H' lc = some (.lst (svs (R ++ (t.refs.take m).map refRow))))
        ⟨⟨_, _, _, rfl⟩, But.refl, by rw [e4]; simp⟩ (fun m σ H' _ ⟨_, b, _⟩ => SqT.of (b.at1 era nrl)) (fun m x σ H5 H5' hm ⟨⟨v6, v7, v8, es⟩, b5, e5⟩ y => ?_) (fun σ H5 ⟨⟨v6, v7, v8, es⟩, b5, e5⟩ => ?_)
      · obtain ⟨rfl, hx2⟩ := y
        subst es
        obtain ⟨q, hq, qa, qc, rfl, eqa, eqc⟩ := hrk.at hx2
        have eqa5 := b5.at1 (b04.at eqa) (ne_of_none eqa nlc)
        have eqc5 := b5.at1 (b04.at eqc) (ne_of_none eqc nlc)
        obtain ⟨q3, q28, qcc⟩ := w.ref q (List.mem_of_getElem? hq)
        have q8 : ∀ c ∈ q.1, c.length ≤ 8 := fun c hc => w.col c (qcc c hc)
        have jl := joinT_len q.1 q8
        have ml : m < 2 := by have := (List.getElem?_eq_some_iff.mp hq).1; have := w.refs; omega
        refine ⟨qa, _, rfl, SqT.of eqa5, rfl, _, _, rfl, _, _, rfl, _, _, rfl, rfl, ?_⟩
        refine st_app (fi := 1) (F := lc) (l := refRow q) rfl e5 (fun Q k2 => ?_) (by rw [List.length_append, List.length_map, List.length_take]; omega) fun H6 b6 e6 => ⟨⟨_, _, _, rfl⟩, b5.trans b6, ?_⟩
        · have sz : ∀ a b : Cn.T, a.length ≤ 200 → b.length ≤ 200 → (S a).length + (S b).length ≤ sizeLine := fun a b h h2 => szl (by rw [S_len, S_len]; omega)
          have er : refRow q = (([32, 32] ++ (if q.2.2 = true then [114, 101, 102, 32] else [111, 112, 116, 105, 111, 110, 97, 108, 32])) ++ joinT [32] q.1 ++ [32, 45, 62, 32]) ++ q.2.1 := by
            unfold refRow
            cases q.2.2 <;> simp
          rw [er] at k2
          generalize q.2.2 = req at k2
          refine ⟨szl (by simp), fun p hp => ?_⟩
          refine ⟨_, rfl, .inr ⟨req, rfl, p, svs [[111, 112, 116, 105, 111, 110, 97, 108, 32], [114, 101, 102, 32]], _, sv (if req = true then [114, 101, 102, 32] else [111, 112, 116, 105, 111, 110, 97, 108, 32]), rfl, rfl, SqL.of upd_same, by cases req <;> rfl, ?_⟩⟩
          have wl : (if req = true then ([114, 101, 102, 32] : Cn.T) else [111, 112, 116, 105, 111, 110, 97, 108, 32]).length ≤ 9 := by cases req <;> decide
          generalize (if req = true then ([114, 101, 102, 32] : Cn.T) else [111, 112, 116, 105, 111, 110, 97, 108, 32]) = wd at wl k2 ⊢
          have bp : But [] H5' (upd H5' p (.lst (svs [[111, 112, 116, 105, 111, 110, 97, 108, 32], [114, 101, 102, 32]]))) := newB hp
          refine ⟨S [32, 32], S wd, rfl, rfl, sz _ _ (by simp) (by omega), ?_⟩
          rw [S_app]
          refine ⟨⟨_, rfl⟩, _, rfl, S [32], qc, q.1.map S, rfl, rfl, .inr (by rw [← svs_str]; exact SqT.of (bp.at eqc5)), join_room q8 (by omega), ?_⟩
          rw [join_S]
          generalize joinT [32] q.1 = jn at jl k2 ⊢
          refine ⟨S ([32, 32] ++ wd), S jn, rfl, rfl, sz _ _ (by simp; omega) (by omega), ?_⟩
          rw [S_app]
          refine ⟨S ([32, 32] ++ wd ++ jn), S [32, 45, 62, 32], rfl, rfl, sz _ _ (by simp; omega) (by simp), ?_⟩
          rw [S_app]
          refine ⟨_, rfl, S ([32, 32] ++ wd ++ jn ++ [32, 45, 62, 32]), S q.2.1, rfl, rfl, sz _ _ (by simp; omega) (by omega), ?_⟩
          rw [S_app]
          exact k2 _ bp
        · rw [e6]
          have st : t.refs.take (m + 1) = t.refs.take m ++ [q] := by rw [List.take_add_one, hq]; rfl
          rw [st, List.map_append, List.append_assoc]; rfl
      · subst es
        rw [hrk.1, List.take_length] at e5
        have b05 : But [] H H5 := ((But.of b04 : But [lc] H H4).trans b5).drop nlc
        refine st_app (fi := 1) (F := lc) rfl e5 (Pt.gv (Pt.lit (l := kEnd) (n := 3))) (by rw [List.length_append, List.length_map]; have := w.refs; omega) fun H6 b6 e6 => ?_
        refine ⟨lc, ⟨_, _, _, _, _, _, _, rfl⟩, nlc, ((But.of b05 : But [lc] H H5).trans b6).drop nlc, ?_⟩
        rw [e6]
        have st : ts.take (i + 1) = ts.take i ++ [t] := by rw [List.take_add_one, htt]; rfl
        rw [st, List.flatMap_append, hrows, ← hR]
        congr 3
        unfold tableRows
        simp [kTable]
    · subst es
      rw [ht.1, List.take_length] at e1
      exact ⟨_, rfl, k H1 la b1 nla e1⟩
end
end Cn
set_option Elab.async false
set_option linter.all false
set_option maxRecDepth 100000
set_option maxHeartbeats 4000000
/-! drawn references -/
namespace Cn
open PySem L2
theorem hu1 {k : Nat} {A : Around} (hr : Room k A) : A.units + 1 < cLine := by have := hr.units; omega
section
variable {P : Program} {w : World} {K : PySem.W.Frag} {mg : Str → Option Value} {base : Heap} {CR CT CS CI : Addr} {f : Addr} {fd : FuncData}
theorem sc__law_references : FnScope ["feed", "name", "columns", "keys", "above", "refers", "taken", "turn", "required", "targets", "barred", "key", "free", "some", "target", "part", "column"] ["feed", "name", "columns", "keys", "above"] (defScope s__law_references) := ⟨rfl, rfl, rfl, by decide +kernel, rfl, by decide +kernel, by decide +kernel⟩
/-- an element of a list -/
def sp_pickL : Sp := fun vs H Q _ => ∃ (a b : Addr) (xs : List V), vs = [.ref a, .ref b] ∧ 1 ≤ xs.length ∧ xs.length ≤ 1000 ∧ FeedR H a ∧ b ≠ a ∧ H b = some (.lst xs) ∧ ∀ H' x, But [a] H H' → FeedR H' a → x ∈ xs → Q x H'
theorem ok_pickL (F : Fun K "_law_pick" "_law_pick" s__law_pick f fd) (T : LTx K mg CR CT CS CI) (c__law_take : Cal P w K mg base 1 "_law_take" sp_take) : FnOk P w K mg base (L2.CX P w) 2 f fd ["feed", "some"] sp_pickL := by
  refine F.okX sc__law_pick (fun vs H Q E h => ?_) (fun cdv A outer s H vs Q E hr h => ?_)
  · obtain ⟨a, b, _, rfl, _⟩ := h
    rfl
  · obtain ⟨a, b, xs, rfl, h1, h2, hf, nb, hb, k⟩ := h
    refine ⟨_, (pss_one (ps_ret (pe_ix (ix_listK K rfl) (pv 1) (p_call E c__law_take hr (by decide) (by rfl) (passX rfl rfl rfl (takes_of rfl rfl rfl rfl)) (pa_cons (pv 0) (pa_cons (pe_callB (call_len_seqK K rfl) (by rfl) T.b_len (by decide +kernel) (pa_cons (pv 1) pa_nil)) pa_nil))) (fun _ _ => rfl)))), ?_⟩
    refine ⟨_, rfl, _, rfl, _, rfl, b, _, rfl, .inl (SqL.of hb), ?_⟩
    refine ⟨a, xs.length, rfl, h1, by omega, hf, fun H' r b2 fr hr' => ?_⟩
    have e : xs[r]? = some (xs[r]'hr') := List.getElem?_eq_getElem hr'
    exact ⟨b, xs, r, _, rfl, rfl, SqL.of (b2.at1 hb nb), atI_nat e, k H' _ b2 fr (List.getElem_mem hr')⟩
/-- the names that a drawn reference may have -/
def canT (tg : List Tbl) (n : Nat) (w : Cn.T) : Bool := tg.any fun t => t.name == w && decide ((t.keys.headD []).length ≤ n)
theorem canT_eq {tg : List Tbl} {t : Tbl} {n : Nat} (nd : (tg.map (·.name)).Nodup) (hm : t ∈ tg) : canT tg n t.name = decide ((t.keys.headD []).length ≤ n) := by
  have h := found_one nd hm
  unfold canT
  have e : (tg.any fun x => x.name == t.name && decide ((x.keys.headD []).length ≤ n)) = ((tg.filter fun x => x.name == t.name).any fun x => decide ((x.keys.headD []).length ≤ n)) := by rw [List.any_filter]
  rw [e, h]; simp
theorem filter_txt (pr : Cn.T → Bool) (l : List Cn.T) : (svs l).filterMap (fun v => match v with
    | .str z => if pr (TL.tl z) then some v else none
    | _ => none) = svs (l.filter pr) := by
  unfold svs
  rw [List.filterMap_map]
  show l.filterMap (fun x => if pr x = true then some (sv x) else none) = (l.filter pr).map sv
  induction l with
  | nil => rfl
  | cons x r ih =>
    simp only [List.filterMap_cons, List.filter_cons]
    cases pr x <;> simp [ih]
def sp_refsD : Sp := fun vs H Q _ => ∃ (a c u d : Addr) (nm : Cn.T) (cols : List Cn.T) (vk : List V) (keys : List (List Cn.T)) (above : List Tbl), vs = [.ref a, sv nm, .ref c, .ref u, .ref d] ∧ FeedR H a ∧ H c = some (.lst (svs cols)) ∧ H u = some (.lst vk) ∧ Each (KeyR H) vk keys ∧ DictR H d above ∧
  cols ≠ [] ∧ cols.length ≤ 5 ∧ cols.Nodup ∧ (∀ w ∈ cols, isName w = true) ∧ KeysOk cols keys ∧ keys ≠ [] ∧ ((above ++ [(⟨nm, cols, keys, []⟩ : Tbl)]).map (·.name)).Nodup ∧ (∀ t ∈ above, isName t.name = true ∧ 0 < (t.keys.headD []).length) ∧ isName nm = true ∧ above.length ≤ 5 ∧
  ∀ H' r vr rs, But [a] H H' → FeedR H' a → H r = none → H' r = some (.lst vr) → Each (RefR H') vr rs → RefsOk ⟨nm, cols, keys, []⟩ above rs → Q (.ref r) H'
theorem ok_refsD (F : Fun K "_law_references" "_law_references" s__law_references f fd) (T : LTx K mg CR CT CS CI) (c__law_take : Cal P w K mg base 1 "_law_take" sp_take) (c__law_mixed : Cal P w K mg base 2 "_law_mixed" (sp_mixed K)) (c__law_pick : Cal P w K mg base 2 "_law_pick" sp_pickL) :
    FnOk P w K mg base (L2.CX P w) 3 f fd ["feed", "name", "columns", "keys", "above"] sp_refsD := by
  refine F.okX sc__law_references (fun vs H Q E h => ?_) (fun cdv A outer s H vs Q E hr h => ?_)
  · obtain ⟨a, c, u, d, nm, _, _, _, _, rfl, _⟩ := h
    rfl
  · obtain ⟨a, c, u, d, nm, cols, vk, keys, above, rfl, hf, hc, hu, hk, hd, c0, c5, cd, cn, ko, k0, nd, an, nn, a5, k⟩ := h
    refine ⟨_, (pss_cons (ps_par (i := 5) (j := 6) (by rfl) sc__law_references.nd rfl rfl (by decide) rfl rfl (pa_cons (pe_lst pa_nil) (pa_cons (pe_lst pa_nil) pa_nil)) (by rfl))
  (pss_cons (ps_for (passes_of rfl) (by rfl) (pi_range1 (by rfl) T.b_range (pa_cons (p_call E c__law_take hr (by decide) (by rfl) (passX rfl rfl rfl (takes_of rfl rfl rfl rfl)) (pa_cons (pv 0) (pa_cons pe_int pa_nil))) pa_nil)) (pg_name (i := 7) sc__law_references.nd rfl (Or.inl rfl))
  (pss_cons (ps_set (i := 8) sc__law_references.nd rfl (Or.inl rfl) (pe_cmpR op_eq (p_call E c__law_take hr (by decide) (by rfl) (passX rfl rfl rfl (takes_of rfl rfl rfl rfl)) (pa_cons (pv 0) (pa_cons pe_int pa_nil))) pe_int (nomark _)))
  (pss_cons (ps_set (i := 9) sc__law_references.nd rfl (Or.inr rfl) (pe_callTy call_dictD (by rfl) T.b_dict (by decide +kernel) (pa_cons (pv 4) pa_nil)))
  (pss_cons (ps_if (pt_not (pt_val (pv 8)))
  (pss_one (ps_asg (pe_ix (ix_listK K rfl) (pv 3) pe_int (fun _ _ => rfl)) (pg_sub (pv 9) (pv 1) (set_dict (hu1 hr)))))
  pss_nil)
  (pss_cons (ps_set (i := 10) sc__law_references.nd rfl (Or.inr rfl) (pe_callTy (call_list_ofK K rfl) (by rfl) T.b_list (by decide +kernel) (pa_cons (pv 6) pa_nil)))
  (pss_cons (ps_for (passes_of rfl) (by rfl) (pi_listK K rfl (pv 3)) (pg_name (i := 11) sc__law_references.nd rfl (Or.inl rfl))
  (pss_one (ps_set (i := 10) sc__law_references.nd rfl (Or.inr rfl) (pe_op op_cat (pv 10) (pe_op op_rep (pe_callTy (call_list_ofK K rfl) (by rfl) T.b_list (by decide +kernel) (pa_cons (pv 11) pa_nil)) (pe_callTy call_int1 (by rfl) T.b_int (by decide +kernel) (pa_cons (pe_not (pv 8)) pa_nil)))))))
  (pss_cons (ps_set (i := 12) sc__law_references.nd rfl (Or.inr rfl) (pe_lc (own := [("column", 16)]) (g := gName 16) (by rfl) sc__law_references.nd (pi_listK K rfl (p_call E c__law_mixed hr (by decide) (by rfl) (passX rfl rfl rfl (takes_of rfl rfl rfl rfl)) (pa_cons (pv 0) (pa_cons (pv 2) pa_nil)))) (blkOk_by (own := [("column", 16)]) (N := ["feed", "name", "columns", "keys", "above", "refers", "taken", "turn", "required", "targets", "barred", "key", "free", "some", "target", "part", "column"]) (sc := (defScope s__law_references)) (by decide +kernel)) (fun _ _ _ _ _ => (pg_name (i := 16) sc__law_references.nd rfl (Or.inl rfl))) (fun _ _ _ _ _ => (pts_one (pt_cmpR (op_notIn_seqK K rfl) (pv 16) (pv 10) (by rfl)))) (fun _ _ _ _ _ => (pv 16))))
  (pss_cons (ps_setLc (i := 13) (own := [("target", 14)]) (g := gName 14) (by rfl) sc__law_references.nd rfl rfl (sw_true rfl rfl rfl (by decide +kernel)) (pi_listK K rfl (pe_callB (call_sortedD (by rfl)) (by rfl) T.b_sorted (by decide +kernel) (pa_cons (pv 9) pa_nil))) (blkOk_by (own := [("target", 14)]) (N := ["feed", "name", "columns", "keys", "above", "refers", "taken", "turn", "required", "targets", "barred", "key", "free", "some", "target", "part", "column"]) (sc := (defScope s__law_references)) (by decide +kernel)) (fun _ _ _ _ _ => (pg_name (i := 14) sc__law_references.nd rfl (Or.inl rfl))) (fun _ _ _ _ _ => (pts_one (pt_cmpR op_le (pe_callB (call_len_seqK K rfl) (by rfl) T.b_len (by decide +kernel) (pa_cons (pe_dget (hu1 hr) (pv 9) (pv 14) (fun _ _ => rfl)) pa_nil)) (pe_callB (call_len_seqK K rfl) (by rfl) T.b_len (by decide +kernel) (pa_cons (pv 12) pa_nil)) (nomark _)))) (fun _ _ _ _ _ => (pv 14)))
  (pss_one (ps_if (PW.pt (pw_and (pt_cmpR (op_neDK K rfl hr.units) (pv 13) (pe_lst pa_nil) (nomark _)) (pw_and1 (pt_cmpR op_lt (pe_callB (call_len_seqK K rfl) (by rfl) T.b_len (by decide +kernel) (pa_cons (pv 5) pa_nil)) pe_int (nomark _)))))
  (pss_cons (ps_set (i := 14) sc__law_references.nd rfl (Or.inl rfl) (p_call E c__law_pick hr (by decide) (by rfl) (passX rfl rfl rfl (takes_of rfl rfl rfl rfl)) (pa_cons (pv 0) (pa_cons (pv 13) pa_nil))))
  (pss_cons (ps_set (i := 15) sc__law_references.nd rfl (Or.inl rfl) (pe_slice (sl_listK K rfl) (pv 12) po_none (po_some (pe_callB (call_len_seqK K rfl) (by rfl) T.b_len (by decide +kernel) (pa_cons (pe_dget (hu1 hr) (pv 9) (pv 14) (fun _ _ => rfl)) pa_nil)))))
  (pss_cons (ps_set (i := 6) sc__law_references.nd rfl (Or.inl rfl) (pe_op op_cat (pv 6) (pv 15)))
  (pss_one (ps_expr (pe_bm PySem.F.plainAttrs_list PySem.F.slot_list_append PySem.F.type_list_append mt_append (pv 5) (pa_cons (pe_tup (pa_cons (pe_callTy (call_tuple_ofK K rfl) (by rfl) T.b_tuple (by decide +kernel) (pa_cons (pv 15) pa_nil)) (pa_cons (pv 14) (pa_cons (pv 8) pa_nil)))) pa_nil)))))))
  pss_nil))))))))))
  (pss_one (ps_ret (pv 5))))), ?_⟩
    obtain ⟨d0, s0, ha⟩ := id hf
    have nca : c ≠ a := fun z => by
      rw [z, ha] at hc
      cases cols with
      | nil => exact c0 rfl
      | cons x y => cases hc
    have nua : u ≠ a := fun z => by
      rw [z, ha] at hu
      cases hu
      cases keys with
      | nil => exact k0 rfl
      | cons x y =>
        obtain ⟨_, e, _⟩ := hk.2 0 _ _ rfl rfl
        cases e
    have nda : d ≠ a := fun z => by
      obtain ⟨_, e, _⟩ := hd
      rw [z, ha] at e
      cases e
    have fresh : ∀ {H' : Hp} {x : Addr}, But [a] H H' → FeedR H' a → H' x = none → H x = none := fun {H' x} b ⟨d, s, e⟩ h => b.free h (not1 fun z => by rw [z, e] at h; cases h)
    refine ⟨szl (by simp), fun rl hrl => ?_⟩
    refine ⟨szl (by simp), fun tk0 htk0 => ?_⟩
    refine ⟨_, _, rfl, ?_⟩
    have nrl : H rl = none := hrl
    have ntk0 : H tk0 = none := (newB (o := .lst []) hrl).free htk0 (by simp)
    have nrt : rl ≠ tk0 := ne_of_none upd_same htk0
    have b00 : But [] H (upd (upd H rl (.lst [])) tk0 (.lst [])) := (newB hrl).put0 ntk0
    have e00 : (upd (upd H rl (.lst [])) tk0 (.lst [])) rl = some (.lst []) := by rw [upd_ne nrt, upd_same]
    have e01 : (upd (upd H rl (.lst [])) tk0 (.lst [])) tk0 = some (.lst []) := upd_same
    generalize upd (upd H rl (.lst [])) tk0 (.lst []) = H0 at b00 e00 e01
    refine ⟨_, rfl, a, 4, rfl, by decide, by decide, ⟨d0, s0, b00.at ha⟩, fun H1 r1 b1 f1 h1 => ?_⟩
    refine ⟨_, rfl, by omega, by omega, ?_⟩
    rw [Int.toNat_natCast]
    have nra : rl ≠ a := fun z => by rw [z, ha] at nrl; cases nrl
    have nta : tk0 ≠ a := fun z => by rw [z, ha] at ntk0; cases ntk0
    refine for_it (walk_range (lo := 0) (n := r1)) (fun i σ H' => ∃ tk vr rs, (∃ v7 v8 v9 v10 v11 v12 v13 v14 v15, σ = [some (.ref a), some (sv nm), some (.ref c), some (.ref u), some (.ref d), some (.ref rl), some (.ref tk), v7, v8, v9, v10, v11, v12, v13, v14, v15, none]) ∧ But [a] H H' ∧ FeedR H' a ∧ H' rl = some (.lst vr) ∧ Each (RefR H') vr rs ∧ RefsOk ⟨nm, cols, keys, []⟩ above rs ∧ H tk = none ∧ tk ≠ rl ∧ H' tk = some (.lst (svs (rs.flatMap (·.1)))) ∧ (rs.flatMap (·.1)).length ≤ 5 * rs.length)
      ⟨tk0, [], [], ⟨_, _, _, _, _, _, _, _, _, rfl⟩, (But.of b00).trans b1, f1, b1.at1 e00 nra, Each.nil, ⟨by simp, by simp, List.Pairwise.nil⟩, ntk0, nrt.symm, b1.at1 e01 nta, by simp⟩ (fun _ σ H' _ _ => trivial)
      (fun i x σ H2 H2' hi ⟨tk, vr, rs, ⟨v7, v8, v9, v10, v11, v12, v13, v14, v15, es⟩, b2, f2, er2, ek2, ok, ntk, ntr, et2, tl⟩ y => ?_) (fun σ H2 ⟨tk, vr, rs, ⟨v7, v8, v9, v10, v11, v12, v13, v14, v15, es⟩, b2, f2, er2, ek2, ok, ntk, ntr, et2, tl⟩ => ?_)
    · obtain ⟨rfl, rfl⟩ := y
      subst es
      refine ⟨_, rfl, a, 2, rfl, by decide, by decide, f2, fun H3 r3 b3 f3 h3 => ?_⟩
      refine ⟨rfl, ?_⟩
      have b03 := b2.trans b3
      generalize decide (V.int (r3 : Nat) = V.int 0) = req
      obtain ⟨vs, edd, hkd⟩ := id hd
      have ed3 := b03.at1 edd nda
      refine ⟨_, rfl, d, _, rfl, Rd.of ed3, fun p hp => ?_⟩
      have np : H p = none := fresh b03 f3 hp
      have b34 : But [] H3 (upd H3 p (.dK (dk above vs))) := newB hp
      have b04 : But [a] H (upd H3 p (.dK (dk above vs))) := b03.trans (But.of b34)
      have f04 : Fix 0 H (upd H3 p (.dK (dk above vs))) := fixL b04 ha
      have dr4 : DictR (upd H3 p (.dK (dk above vs))) p above := ⟨vs, upd_same, hkd.mono fun _ _ z => z.fix f04⟩
      have f4 : FeedR (upd H3 p (.dK (dk above vs))) a := by obtain ⟨d1, s1, e⟩ := f3; exact ⟨d1, s1, b34.at e⟩
      generalize upd H3 p (.dK (dk above vs)) = H4 at b34 b04 f04 dr4 f4
      have ntka : tk ≠ a := fun z => by rw [z, ha] at ntk; cases ntk
      have et3 := b3.at1 et2 ntka
      have et4 : H4 tk = some (.lst (svs (rs.flatMap (·.1)))) := b34.at et3
      have npk : p ≠ tk := fun z => by rw [z, et3] at hp; cases hp
      have eu4 := b04.at1 hu nua
      have hk4 := hk.mono fun _ _ z => z.fix f04
      -- targets[name] = keys[0]
      have step : ∀ (u2 : TS) (D' : Ends), (∀ H5, But [p] H4 H5 → DictR H5 p (targets req ⟨nm, cols, keys, []⟩ above) → u2 D' [some (.ref a), some (sv nm), some (.ref c), some (.ref u), some (.ref d), some (.ref rl), some (.ref tk), some (.int (0 + (i : Int))), some (.bl req), some (.ref p), v10, v11, v12, v13, v14, v15, none] H5) →
          tSeq (tIfS (tNot (tB (tVar 8))) (tAsg (tOp (rIxL K) (tVar 3) (tC (V.int 0))) (gSub (tVar 9) (tVar 1) rSetD)) tNext) u2 D' [some (.ref a), some (sv nm), some (.ref c), some (.ref u), some (.ref d), some (.ref rl), some (.ref tk), some (.int (0 + (i : Int))), some (.bl req), some (.ref p), v10, v11, v12, v13, v14, v15, none] H4 := fun u2 D' k2 => by
        refine ⟨_, rfl, req, rfl, ?_⟩
        cases req with
        | true => exact iteF (k2 H4 But.refl dr4)
        | false =>
          refine iteT ?_
          obtain ⟨k1, ks, ek⟩ : ∃ k1 ks, keys = k1 :: ks := by cases keys with
            | nil => exact absurd rfl k0
            | cons x y => exact ⟨x, y, rfl⟩
          obtain ⟨v0, hv0, kv0⟩ := hk4.atx (i := 0) (x := k1) (by rw [ek]; rfl)
          have nin : nm ∉ above.map (·.name) := fun z => by
            rw [List.map_append] at nd
            exact (List.nodup_append.mp nd).2.2 nm z nm (by simp) rfl
          obtain ⟨H5, hp5, b5, dr5⟩ := DictR.put (t := ⟨nm, cols, keys, []⟩) dr4 nin (v := v0) (by rw [ek]; exact kv0) (by omega)
          exact ⟨_, rfl, u, vk, 0, v0, rfl, rfl, SqL.of eu4, atI_nat hv0, _, rfl, _, rfl, p, H5, rfl, hp5, k2 H5 b5 dr5⟩
      refine step _ _ fun H5 b5 dr5 => ?_
      have npc : ∀ {x : Addr} {o : HO}, H x = some o → x ≠ p := fun {x o} e z => by rw [z, np] at e; cases e
      have eu5 := b5.at1 eu4 (npc hu)
      have et5 := b5.at1 et4 npk.symm
      have f45 : Fix 0 H4 H5 := by obtain ⟨vs4, e4, _⟩ := dr4; exact b5.fix fun x z o e i => by rw [List.mem_singleton.mp z, e4] at e; cases e; exact i
      have hk5 := hk4.mono fun _ _ z => z.fix f45
      -- barred = list(taken)
      refine ⟨_, rfl, tk, _, rfl, .inl (SqL.of et5), fun ba hba => ?_⟩
      have b56 : But [] H5 (upd H5 ba (.lst (svs (rs.flatMap (·.1))))) := newB hba
      have e56 : (upd H5 ba (.lst (svs (rs.flatMap (·.1))))) ba = some (.lst (svs (rs.flatMap (·.1)))) := upd_same
      have tl10 : (rs.flatMap (·.1)).length ≤ 10 := by have := ok.len; omega
      generalize htn : rs.flatMap (·.1) = tn at et2 et3 et4 et5 e56 b56 tl10 tl
      generalize upd H5 ba (.lst (svs tn)) = H6 at b56 e56
      have eu6 := b56.at eu5
      have hk6 := hk5.mono fun _ _ z => z.fix (fixO b56)
      refine ⟨_, rfl, u, rfl, ⟨_, SqL.of eu6⟩, ?_⟩
      refine for_it (walk_list (K := K) (a := u) (xs := vk)) (fun j σ H' => ∃ bb v11 bs, σ = [some (.ref a), some (sv nm), some (.ref c), some (.ref u), some (.ref d), some (.ref rl), some (.ref tk), some (.int (0 + (i : Int))), some (.bl req), some (.ref p), some (.ref bb), v11, v12, v13, v14, v15, none] ∧ But [] H6 H' ∧ H' bb = some (.lst (svs bs)) ∧ (∀ x ∈ tn, x ∈ bs) ∧ (req = false → ∀ q ∈ keys.take j, ∀ x ∈ q, x ∈ bs) ∧ bs.length ≤ 10 + 3 * j)
        ⟨ba, _, tn, rfl, But.refl, e56, fun x h => h, by simp, by omega⟩ (fun j σ H' _ ⟨_, _, _, _, b, _⟩ => SqL.of (b.at eu6)) (fun j x σ H7 H7' hj ⟨bb, v11, bs, es, b7, e7, bt, bk, bl⟩ y => ?_) (fun σ H7 ⟨bb, v11, bs, es, b7, e7, bt, bk, bl⟩ => ?_)
      · obtain ⟨rfl, hx⟩ := y
        subst es
        obtain ⟨q, hq, qa, rfl, eq⟩ := hk6.at hx
        have q3 := (ko.each q (List.mem_of_getElem? hq)).2.1
        have j3 : j < 3 := by have := (List.getElem?_eq_some_iff.mp hq).1; have := ko.len; omega
        refine ⟨_, rfl, _, rfl, qa, _, rfl, .inr (SqT.of (b7.at eq)), fun l2 hl2 => ?_⟩
        refine ⟨_, rfl, req, rfl, .inr ⟨!req, rfl, ?_⟩⟩
        have bl2 : But [] H7' (upd H7' l2 (.lst (svs q))) := newB hl2
        refine ⟨l2, _, svs q, rfl, rfl, upd_same, by cases req <;> decide, by cases req <;> decide, szl (by rw [svs_len]; cases req <;> simp <;> omega), fun l3 hl3 => ?_⟩
        have er : (List.replicate ((if (!req) = true then (1 : Int) else 0)).toNat (svs q)).flatten = svs (if req then [] else q) := by cases req <;> simp [svs]
        rw [er]
        have bl3 : But [] (upd H7' l2 (.lst (svs q))) (upd (upd H7' l2 (.lst (svs q))) l3 (.lst (svs (if req then [] else q)))) := newB hl3
        have lq : (if req then ([] : List Cn.T) else q).length ≤ 3 := by cases req <;> simp <;> omega
        refine ⟨bb, l3, svs bs, svs (if req then [] else q), rfl, rfl, (bl2.trans bl3).at e7, upd_same, szl (by rw [svs_len, svs_len]; omega), fun l4 hl4 => ?_⟩
        have bl4 := newB (o := .lst (svs bs ++ svs (if req then [] else q))) hl4
        refine ⟨l4, _, bs ++ (if req then [] else q), rfl, ((b7.trans bl2).trans bl3).trans bl4, by rw [upd_same, svs_app], fun x h => List.mem_append_left _ (bt x h), fun hr q2 hq2 x hx2 => ?_, by rw [List.length_append]; omega⟩
        have tkk : keys.take (j + 1) = keys.take j ++ [q] := by rw [List.take_add_one, hq]; rfl
        rw [tkk] at hq2
        rcases List.mem_append.mp hq2 with z | z
        · exact List.mem_append_left _ (bk hr q2 z x hx2)
        · rw [List.mem_singleton.mp z] at hx2
          rw [hr]
          exact List.mem_append_right _ hx2
      · subst es
        rw [hk.1, List.take_length] at bk
        have npa : p ≠ a := fun z => by rw [z, ha] at np; cases np
        have f6 : FeedR H6 a := by obtain ⟨d1, s1, e⟩ := f4; exact ⟨d1, s1, b56.at (b5.at1 e npa.symm)⟩
        have b46 : But [p] H4 H7 := b5.trans (But.of (b56.trans b7))
        have b07 : But [a] H H7 := fun x o hx e => b46 x o (not1 (npc e)) (b04 x o hx e)
        have f7 : FeedR H7 a := by obtain ⟨d1, s1, e⟩ := f6; exact ⟨d1, s1, b7.at e⟩
        have dr7 : DictR H7 p (targets req ⟨nm, cols, keys, []⟩ above) := dr5.keep (l := []) (b56.trans b7) (by simp) (by simp)
        have ec7 := b07.at1 hc nca
        have nbba : bb ≠ a := fun z => by
          obtain ⟨d1, s1, e⟩ := f7
          rw [z, e] at e7
          cases bs <;> cases e7
        have tnd : ((targets req (⟨nm, cols, keys, []⟩ : Tbl) above).map (·.name)).Nodup := by
          unfold targets
          cases req with
          | true => rw [List.map_append] at nd; exact (List.nodup_append.mp nd).1
          | false => exact nd
        have tok : ∀ t ∈ targets req (⟨nm, cols, keys, []⟩ : Tbl) above, isName t.name = true ∧ 0 < (t.keys.headD []).length := fun t ht => by
          have own : isName nm = true ∧ 0 < (keys.headD []).length := ⟨nn, by
            cases hk0 : keys with
            | nil => exact absurd hk0 k0
            | cons x y =>
              have := (ko.each x (by rw [hk0]; simp)).1
              exact List.length_pos_iff.mpr this⟩
          unfold targets at ht
          cases req with
          | true => exact an t ht
          | false =>
            rcases List.mem_append.mp ht with z | z
            · exact an t z
            · rw [List.mem_singleton.mp z]; exact own
        have tlen : (targets req (⟨nm, cols, keys, []⟩ : Tbl) above).length ≤ 6 := by unfold targets; cases req <;> simp <;> omega
        generalize htg : targets req (⟨nm, cols, keys, []⟩ : Tbl) above = tg at dr7 tnd tok tlen
        -- free
        refine ⟨_, rfl, _, rfl, a, c, cols, rfl, f7, ec7, by omega, cn, fun H8 mr ws b8 f8 nmr e8 pm => ?_⟩
        have eb8 := b8.at1 e7 nbba
        refine ⟨mr, rfl, ⟨_, SqL.of e8⟩, fun D hD => ?_⟩
        refine lc_pure (svs ws) (fun v => if inV v (svs bs) then none else some v) (walk_list (K := K) (a := mr)) rfl yat (fun acc => SqL.of ((newB hD).at e8)) (fun m x acc N hx2 hl2 hy1 hy2 => ?_) ?_
        · obtain ⟨w1, hw1, rfl⟩ := svs_get hx2
          refine ⟨rfl, _, rfl, _, rfl, bb, svs bs, rfl, .inl (SqL.of ((newB hD).at eb8)), rfl, flat_svs _, _, rfl, ?_⟩
          have hm : m < ws.length := (List.getElem?_eq_some_iff.mp hw1).1
          have := pm.length_eq
          refine ite2 (fun h => ?_) (fun h => ?_)
          · have h' : inV (sv w1) (svs bs) = false := by simpa using h
            exact ⟨_, rfl, lc_put (szt (by omega)) (hy1 _ (by rw [h']; rfl))⟩
          · have h' : inV (sv w1) (svs bs) = true := by simpa using h
            exact hy2 (by rw [h']; rfl)
        · have efl : (svs ws).filterMap (fun v => if inV v (svs bs) then none else some v) = svs (ws.filter fun x => !bs.contains x) := by
            clear hD e8 pm
            induction ws with
            | nil => rfl
            | cons x r ih =>
              show ((sv x :: svs r).filterMap _) = _
              rw [List.filterMap_cons, inV_svs, List.filter_cons]
              cases bs.contains x with
              | true => exact ih
              | false =>
                show sv x :: _ = _
                rw [ih]; rfl
          rw [efl]
          have wnd : ws.Nodup := pm.symm.nodup cd
          have fnd : (ws.filter fun x => !bs.contains x).Nodup := List.filter_sublist.nodup wnd
          have fsub : ∀ x ∈ ws.filter (fun x => !bs.contains x), x ∈ cols ∧ x ∉ bs := fun x hx => by
            obtain ⟨z1, z2⟩ := List.mem_filter.mp hx
            exact ⟨pm.mem_iff.mp z1, fun z => by rw [List.contains_iff_mem.mpr z] at z2; cases z2⟩
          have flen : (ws.filter fun x => !bs.contains x).length ≤ 5 := Nat.le_trans (List.length_filter_le ..) (by rw [pm.length_eq]; exact c5)
          have b9 : But [] H8 (upd H8 D (.lst (svs (ws.filter fun x => !bs.contains x)))) := newB hD
          have e9 : (upd H8 D (.lst (svs (ws.filter fun x => !bs.contains x)))) D = some (.lst (svs (ws.filter fun x => !bs.contains x))) := upd_same
          generalize ws.filter (fun x => !bs.contains x) = free at fnd fsub flen e9 b9
          generalize upd H8 D (.lst (svs free)) = H9 at b9 e9
          have b37 : But [] H3 H7 := fun x o _ e => b46 x o (not1 fun z => by rw [z, hp] at e; cases e) (b34.at e)
          have b39 : But [a] H3 H9 := (But.of b37).trans (b8.trans (But.of b9))
          have f9 : FeedR H9 a := by obtain ⟨d1, s1, e⟩ := f8; exact ⟨d1, s1, b9.at e⟩
          have dr9 : DictR H9 p tg := dr7.keep (l := [a]) (b8.trans (But.of b9)) (not1 npa) (fun x hx xs z => by
            obtain ⟨d1, s1, e⟩ := f7
            rw [List.mem_singleton.mp hx, e] at z
            cases z)
          obtain ⟨vs9, ed9, hk9⟩ := id dr9
          -- some
          refine ⟨_, rfl, p, _, tg.map (fun t => S t.name), rfl, Rd.of ed9, dk_keys (DictR.len hk9), by rw [List.length_map]; omega, fun ys sp pmS srt hsp => ?_⟩
          obtain ⟨names, rfl⟩ : ∃ names : List Cn.T, ys = names.map S := ⟨ys.map TL.tl, by rw [List.map_map]; exact (List.map_id' ys).symm.trans (List.map_congr_left fun x _ => (S_tl x).symm)⟩
          have pmn : names.Perm (tg.map (·.name)) := by
            have z := pmS.map TL.tl
            rw [List.map_map, List.map_map] at z
            have e1 : names.map (TL.tl ∘ S) = names := by
              have : (TL.tl ∘ S) = (id : Cn.T → Cn.T) := by funext x; exact tl_S x
              rw [this, List.map_id]
            rw [e1] at z
            exact z
          have nlen : names.length ≤ 6 := by have := pmn.length_eq; rw [List.length_map] at this; omega
          rw [← svs_str]
          have b10 : But [] H9 (upd H9 sp (.lst (svs names))) := newB hsp
          have e10 : (upd H9 sp (.lst (svs names))) sp = some (.lst (svs names)) := upd_same
          have nl : (names.map S).length = names.length := List.length_map ..
          generalize upd H9 sp (.lst (svs names)) = H10 at b10 e10
          refine ⟨sp, rfl, ⟨_, SqL.of e10⟩, fun D2 hD2 => ?_⟩
          refine lc_pure (svs names) (fun v => match v with
            | .str z => if canT tg free.length (TL.tl z) then some v else none
            | _ => none) (walk_list (K := K) (a := sp)) rfl yat (fun acc => SqL.of ((newB hD2).at e10)) (fun m x acc N hx2 hl2 hy1 hy2 => ?_) ?_
          · obtain ⟨w1, hw1, rfl⟩ := svs_get hx2
            have hm : m < names.length := (List.getElem?_eq_some_iff.mp hw1).1
            obtain ⟨t, ht, rfl⟩ := List.mem_map.mp (pmn.mem_iff.mp (List.mem_of_getElem? hw1))
            obtain ⟨v, dg, ka, rfl, ek⟩ := DictR.get (dr9.keep (l := []) (b10.trans (newB (o := .lst acc) hD2)) (by simp) (by simp)) tnd ht
            refine ⟨rfl, _, rfl, _, rfl, p, _, rfl, dg, ka, _, rfl, .inr (SqT.of ek), _, rfl, D, _, rfl, .inl (SqL.of ((newB hD2).at (b10.at e9))), _, _, rfl, rfl, _, rfl, ?_⟩
            have ce := canT_eq (n := free.length) tnd ht
            have ei : decide (((svs (t.keys.headD [])).length : Int) ≤ ((svs free).length : Int)) = canT tg free.length t.name := by
              rw [ce, svs_len, svs_len]
              by_cases h : (t.keys.headD []).length ≤ free.length
              · rw [decide_eq_true h, decide_eq_true (by omega)]
              · rw [decide_eq_false h, decide_eq_false (by omega)]
            refine ite2 (fun h => ?_) (fun h => ?_)
            · have h' : canT tg free.length t.name = true := ei.symm.trans h
              exact ⟨_, rfl, lc_put (szt (by omega)) (hy1 _ (if_pos h'))⟩
            · have h' : ¬ canT tg free.length t.name = true := fun z => h (ei.trans z)
              exact hy2 (if_neg h')
          · rw [filter_txt]
            have smem : ∀ n ∈ names.filter (canT tg free.length), ∃ t ∈ tg, t.name = n ∧ (t.keys.headD []).length ≤ free.length := fun n hn => by
              obtain ⟨z1, z2⟩ := List.mem_filter.mp hn
              obtain ⟨t, ht, rfl⟩ := List.mem_map.mp (pmn.mem_iff.mp z1)
              rw [canT_eq tnd ht] at z2
              exact ⟨t, ht, rfl, of_decide_eq_true z2⟩
            have slen : (names.filter (canT tg free.length)).length ≤ 6 := Nat.le_trans (List.length_filter_le ..) nlen
            have b11 : But [] H10 (upd H10 D2 (.lst (svs (names.filter (canT tg free.length))))) := newB hD2
            have e11 : (upd H10 D2 (.lst (svs (names.filter (canT tg free.length))))) D2 = some (.lst (svs (names.filter (canT tg free.length)))) := upd_same
            generalize names.filter (canT tg free.length) = some13 at smem slen e11 b11
            generalize upd H10 D2 (.lst (svs some13)) = H11 at b11 e11
            refine ne_nil (K := K) rfl e11 (fun n hn => by obtain ⟨t, ht, rfl, _⟩ := smem n hn; exact (tok t ht).1) fun H12 b12 => ?_
            have b9c := (b10.trans b11).trans b12
            have b3c : But [a] H3 H12 := b39.trans (But.of b9c)
            have f12 : FeedR H12 a := by obtain ⟨d1, s1, e⟩ := f9; exact ⟨d1, s1, b9c.at e⟩
            have er3 := b3.at1 er2 nra
            have er12 := b3c.at1 er3 nra
            have et12 := b3c.at1 et3 ntka
            have b0c : But [a] H H12 := b03.trans b3c
            have fx3 : Fix 0 H2' H3 := by obtain ⟨d1, s1, e⟩ := f2; exact fixL b3 e
            have fx12 : Fix 0 H3 H12 := by obtain ⟨d1, s1, e⟩ := f3; exact fixL b3c e
            have ek12 := (ek2.mono fun _ _ z => z.fix fx3).mono fun _ _ z => z.fix fx12
            cases some13 with
            | nil => exact iteF (iteF ⟨tk, vr, rs, ⟨_, _, _, _, _, _, _, _, _, rfl⟩, b0c, f12, er12, ek12, ok, ntk, ntr, by rw [htn]; exact et12, by rw [htn]; exact tl⟩)
            | cons n0 ns =>
              refine iteT ?_
              refine ⟨_, rfl, rl, _, rfl, .inl (SqL.of er12), _, _, rfl, rfl, _, rfl, ?_⟩
              refine ite2 (fun h => ?_) (fun h => ⟨tk, vr, rs, ⟨_, _, _, _, _, _, _, _, _, rfl⟩, b0c, f12, er12, ek12, ok, ntk, ntr, by rw [htn]; exact et12, by rw [htn]; exact tl⟩)
              have r2 : rs.length < 2 := by
                have := of_decide_eq_true h
                rw [ek12.1] at this
                omega
              have nD2a : D2 ≠ a := fun z => by
                obtain ⟨d1, s1, e⟩ := f9
                rw [z, b10.at e] at hD2
                cases hD2
              refine ⟨_, rfl, _, rfl, a, D2, svs (n0 :: ns), rfl, by simp [svs], by rw [svs_len]; omega, f12, nD2a, b12.at e11, fun H13 x b13 f13 hx => ?_⟩
              obtain ⟨n, hn, rfl⟩ := List.mem_map.mp hx
              obtain ⟨t, ht, rfl, hle⟩ := smem n hn
              have b93 : But [a] H9 H13 := (But.of b9c).trans b13
              have dr13 : DictR H13 p tg := dr9.keep (l := [a]) b93 (not1 npa) (fun x hx xs z => by
                obtain ⟨d1, s1, e⟩ := f9
                rw [List.mem_singleton.mp hx, e] at z
                cases z)
              have nDa : D ≠ a := fun z => by
                obtain ⟨d1, s1, e⟩ := f8
                rw [z, e] at hD
                cases hD
              have e13 : H13 D = some (.lst (svs free)) := b93.at1 e9 nDa
              obtain ⟨v, dg, ka, rfl, ekk⟩ := DictR.get dr13 tnd ht
              refine ⟨_, rfl, _, rfl, _, rfl, p, _, rfl, dg, ka, _, rfl, .inr (SqT.of ekk), _, rfl, D, _, rfl, SqL.of e13, fun pa hpa => ?_⟩
              have ecut : cutV (svs free) none (some ((svs (t.keys.headD [])).length : Int)) = svs (free.take (t.keys.headD []).length) := by rw [cutV_to, svs_take, svs_len]
              show gName 15 _ _ (upd H13 pa (.lst (cutV (svs free) none (some ((svs (t.keys.headD [])).length : Int))))) _
              rw [ecut]
              have pl : (free.take (t.keys.headD []).length).length ≤ 5 := Nat.le_trans (List.length_take_le ..) (by omega)
              have more := ref_more (t := ⟨nm, cols, keys, []⟩) (above := above) (rs := rs) (free := free) (tb := t) (req := req) ok r2 (by rw [htg]; exact tnd) (by rw [htg]; exact ht) (tok t ht).1 hle (tok t ht).2 fnd (fun c hc => (fsub c hc).1) (fun c hc z => (fsub c hc).2 (bt c (htn ▸ z))) (fun hr c hc q hq z => (fsub c hc).2 (bk hr q hq c z))
              generalize free.take (t.keys.headD []).length = part at pl more
              have b14 : But [] H13 (upd H13 pa (.lst (svs part))) := newB hpa
              have epa : (upd H13 pa (.lst (svs part))) pa = some (.lst (svs part)) := upd_same
              have b3d : But [a] H3 H13 := b3c.trans b13
              have er13 := b3d.at1 er3 nra
              have et13 := b3d.at1 et3 ntka
              have f14 : FeedR (upd H13 pa (.lst (svs part))) a := by obtain ⟨d1, s1, e⟩ := f13; exact ⟨d1, s1, b14.at e⟩
              generalize upd H13 pa (.lst (svs part)) = H14 at b14 epa f14
              refine ⟨_, rfl, _, rfl, tk, pa, svs tn, svs part, rfl, rfl, b14.at et13, epa, szl (by rw [svs_len, svs_len]; omega), fun t2 ht2 => ?_⟩
              have b15 : But [] H14 (upd H14 t2 (.lst (svs tn ++ svs part))) := newB ht2
              have e2t : (upd H14 t2 (.lst (svs tn ++ svs part))) t2 = some (.lst (svs tn ++ svs part)) := upd_same
              have f15 : FeedR (upd H14 t2 (.lst (svs tn ++ svs part))) a := by obtain ⟨d1, s1, e⟩ := f14; exact ⟨d1, s1, b15.at e⟩
              generalize upd H14 t2 (.lst (svs tn ++ svs part)) = H15 at b15 e2t f15
              have b05 : But [a] H H15 := (b03.trans b3d).trans (But.of (b14.trans b15))
              have nt2 : H t2 = none := by
                have z1 : H13 t2 = none := b14.free ht2 (by simp)
                exact fresh (b03.trans b3d) f13 z1
              have er15 := b15.at (b14.at er13)
              have nt2r : t2 ≠ rl := fun z => by rw [z, b14.at er13] at ht2; cases ht2
              refine ⟨_, rfl, tyList er15, _, rfl, pa, svs part, rfl, .inl ⟨SqL.of (b15.at epa), fun pt hpt => ?_⟩⟩
              have b16 : But [] H15 (upd H15 pt (.tup (svs part))) := newB hpt
              have e16 : (upd H15 pt (.tup (svs part))) pt = some (.tup (svs part)) := upd_same
              generalize upd H15 pt (.tup (svs part)) = H16 at b16 e16
              refine ⟨_, rfl, _, rfl, szl (by simp), fun q hq => ?_⟩
              have b17 : But [] H16 (upd H16 q (.tup [.ref pt, sv t.name, .bl req])) := newB hq
              have e17 : (upd H16 q (.tup [.ref pt, sv t.name, .bl req])) q = some (.tup [.ref pt, sv t.name, .bl req]) := upd_same
              generalize upd H16 q (.tup [.ref pt, sv t.name, .bl req]) = H17 at b17 e17
              have bb := b16.trans b17
              have er17 := bb.at er15
              have bL : But [rl] H17 (upd H17 rl (.lst (vr ++ [V.ref q]))) := But.refl.put (by simp)
              have fL : Fix 0 H17 (upd H17 rl (.lst (vr ++ [V.ref q]))) := fixL bL er17
              have f315 : Fix 0 H3 H15 := by obtain ⟨d1, s1, e⟩ := f3; exact fixL (b3d.trans (But.of (b14.trans b15))) e
              have ekL := (((ek2.mono fun _ _ z => z.fix fx3).mono fun _ _ z => z.fix f315).mono fun _ _ z => z.fix (fixO bb)).mono fun _ _ z => z.fix fL
              refine ⟨rl, vr, .ref q, rfl, rfl, er17, szt (by have := ek12.1; omega), t2, vr ++ [.ref q], rs ++ [(part, t.name, req)], ⟨_, _, _, _, _, _, _, _, _, rfl⟩, (b05.trans (But.of bb)).put0 nrl, ?_, upd_same, ?_, more, nt2, nt2r, ?_, ?_⟩
              · obtain ⟨d1, s1, e⟩ := f15
                exact ⟨d1, s1, bL.at1 (bb.at e) nra.symm⟩
              · refine ekL.snoc ⟨q, pt, rfl, fL q _ e17 trivial, fL pt _ (b17.at e16) trivial⟩
              · rw [List.flatMap_append, htn, svs_app]
                have : [(part, t.name, req)].flatMap (fun x : List Cn.T × Cn.T × Bool => x.1) = part := by simp
                rw [this]
                exact bL.at1 (bb.at e2t) nt2r
              · rw [List.flatMap_append, htn, List.length_append, List.length_append]
                simp
                omega
    · subst es
      exact ⟨_, rfl, k H2 rl vr rs b2 f2 nrl er2 ek2 ok⟩
end
end Cn
set_option Elab.async false
set_option linter.all false
set_option maxRecDepth 100000
set_option maxHeartbeats 4000000
/-! drawn schemas -/
namespace Cn
open PySem L2
theorem okTs_each : ∀ {above ts : List Tbl}, OkTs above ts → ∀ t ∈ ts, isName t.name = true ∧ 0 < (t.keys.headD []).length := fun {above ts} h => by
  induction h with
  | nil => intro t ht; cases ht
  | cons o _ ih =>
    intro t ht
    rcases List.mem_cons.mp ht with z | z
    · rw [z]
      refine ⟨o.name, ?_⟩
      have k0 := o.keys0
      have kk := o.keysK
      rename_i x _ _
      cases hk : x.keys with
      | nil => exact absurd hk k0
      | cons a r => exact List.length_pos_iff.mpr (kk a (by rw [hk]; simp)).1
    · exact ih t z
theorem cutV_mid (ws : List Cn.T) (h : ws.length = 12) : cutV (svs ws) (some 5) (some 10) = svs ((ws.drop 5).take 5) := by
  unfold cutV
  have e5 : HT.sIx (svs ws).length 0 (some 5) = 5 := by rw [svs_len, h]; rfl
  have e10 : HT.sIx (svs ws).length (svs ws).length (some 10) = 10 := by rw [svs_len, h]; rfl
  rw [e5, e10]
  simp [svs, List.map_take, List.map_drop]
theorem cand_nd {ws : List Cn.T} (h : ws.Nodup) : ((ws.drop 5).take 5 ++ ws.take 2).Nodup := by
  refine List.nodup_append.mpr ⟨(List.take_sublist ..).nodup ((List.drop_sublist ..).nodup h), (List.take_sublist ..).nodup h, fun x hx y hy z => ?_⟩
  rw [← z] at hy
  have h5 := h
  rw [← List.take_append_drop 5 ws] at h5
  have y5 : x ∈ ws.take 5 := by
    have : ws.take 2 = (ws.take 5).take 2 := by rw [List.take_take]; rfl
    rw [this] at hy
    exact List.mem_of_mem_take hy
  exact (List.nodup_append.mp h5).2.2 x y5 x (List.mem_of_mem_take hx) rfl
section
variable {P : Program} {w : World} {K : PySem.W.Frag} {mg : Str → Option Value} {base : Heap} {CR CT CS CI : Addr} {f : Addr} {fd : FuncData}
theorem sc__law_schema : FnScope ["feed", "words", "tables", "above", "name", "columns", "keys", "refers"] ["feed"] (defScope s__law_schema) := ⟨rfl, rfl, rfl, by decide +kernel, rfl, by decide +kernel, by decide +kernel⟩
def sp_schema : Sp := fun vs H Q _ => ∃ a, vs = [.ref a] ∧ FeedR H a ∧ ∀ H' r vt ts, But [a] H H' → FeedR H' a → H r = none → H' r = some (.lst vt) → Each (TabR H') vt ts → OkTs [] ts → ts ≠ [] → ts.length ≤ 5 → (∀ t ∈ ts, t.name ≠ [121, 122, 121, 122]) → Q (.ref r) H'
theorem ok_schemaD (F : Fun K "_law_schema" "_law_schema" s__law_schema f fd) (T : LTx K mg CR CT CS CI) (c__law_take : Cal P w K mg base 1 "_law_take" sp_take) (c__law_mixed : Cal P w K mg base 2 "_law_mixed" (sp_mixed K)) (c__law_pick : Cal P w K mg base 2 "_law_pick" sp_pickL)
    (c__law_words : Cal P w K mg base 2 "_law_words" sp_words2) (c__law_keys : Cal P w K mg base 3 "_law_keys" sp_keys) (c__law_references : Cal P w K mg base 3 "_law_references" sp_refsD) : FnOk P w K mg base (L2.CX P w) 4 f fd ["feed"] sp_schema := by
  refine F.okX sc__law_schema (fun vs H Q E h => ?_) (fun cdv A outer s H vs Q E hr h => ?_)
  · obtain ⟨a, rfl, _⟩ := h
    rfl
  · obtain ⟨a, rfl, hf, k⟩ := h
    refine ⟨_, (pss_cons (ps_set (i := 1) sc__law_schema.nd rfl (Or.inl rfl) (p_call E c__law_words hr (by decide) (by rfl) (passX rfl rfl rfl (takes_of rfl rfl rfl rfl)) (pa_cons (pv 0) (pa_cons pe_int pa_nil))))
  (pss_cons (ps_par (i := 2) (j := 3) (by rfl) sc__law_schema.nd rfl rfl (by decide) rfl rfl (pa_cons (pe_lst pa_nil) (pa_cons pe_dnewK pa_nil)) (by rfl))
  (pss_cons (ps_for (passes_of rfl) (by rfl) (pi_listK K rfl (pe_slice (sl_listK K rfl) (pv 1) po_none (po_some (p_call E c__law_pick hr (by decide) (by rfl) (passX rfl rfl rfl (takes_of rfl rfl rfl rfl)) (pa_cons (pv 0) (pa_cons (pe_lst (pa_cons pe_int (pa_cons pe_int (pa_cons pe_int (pa_cons pe_int (pa_cons pe_int pa_nil)))))) pa_nil)))))) (pg_name (i := 4) sc__law_schema.nd rfl (Or.inl rfl))
  (pss_cons (ps_set (i := 5) sc__law_schema.nd rfl (Or.inl rfl) (pe_slice (sl_listK K rfl) (p_call E c__law_mixed hr (by decide) (by rfl) (passX rfl rfl rfl (takes_of rfl rfl rfl rfl)) (pa_cons (pv 0) (pa_cons (pe_op op_cat (pe_slice (sl_listK K rfl) (pv 1) (po_some pe_int) (po_some pe_int)) (pe_slice (sl_listK K rfl) (pv 1) po_none (po_some pe_int))) pa_nil))) po_none (po_some (pe_op op_add pe_int (p_call E c__law_take hr (by decide) (by rfl) (passX rfl rfl rfl (takes_of rfl rfl rfl rfl)) (pa_cons (pv 0) (pa_cons pe_int pa_nil)))))))
  (pss_cons (ps_set (i := 6) sc__law_schema.nd rfl (Or.inl rfl) (p_call E c__law_keys hr (by decide) (by rfl) (passX rfl rfl rfl (takes_of rfl rfl rfl rfl)) (pa_cons (pv 0) (pa_cons (pv 5) pa_nil))))
  (pss_cons (ps_set (i := 7) sc__law_schema.nd rfl (Or.inl rfl) (p_call E c__law_references hr (by decide) (by rfl) (passX rfl rfl rfl (takes_of rfl rfl rfl rfl)) (pa_cons (pv 0) (pa_cons (pv 4) (pa_cons (pv 5) (pa_cons (pv 6) (pa_cons (pv 3) pa_nil)))))))
  (pss_cons (ps_expr (pe_bm PySem.F.plainAttrs_list PySem.F.slot_list_append PySem.F.type_list_append mt_append (pv 2) (pa_cons (pe_tup (pa_cons (pv 4) (pa_cons (pe_callTy (call_tuple_ofK K rfl) (by rfl) T.b_tuple (by decide +kernel) (pa_cons (pv 5) pa_nil)) (pa_cons (pe_callTy (call_tuple_ofK K rfl) (by rfl) T.b_tuple (by decide +kernel) (pa_cons (pv 6) pa_nil)) (pa_cons (pe_callTy (call_tuple_ofK K rfl) (by rfl) T.b_tuple (by decide +kernel) (pa_cons (pv 7) pa_nil)) pa_nil))))) pa_nil)))
  (pss_one (ps_asg (pe_ix (ix_listK K rfl) (pv 6) pe_int (fun _ _ => rfl)) (pg_sub (pv 3) (pv 4) (set_dict (hu1 hr))))))))))
  (pss_one (ps_ret (pv 2)))))), ?_⟩
    obtain ⟨d0, s0, ha⟩ := id hf
    have fresh : ∀ {H' : Hp} {x : Addr}, But [a] H H' → FeedR H' a → H' x = none → H x = none := fun {H' x} b ⟨d, s, e⟩ h => b.free h (not1 fun z => by rw [z, e] at h; cases h)
    refine ⟨_, rfl, a, rfl, hf, fun H1 wl ws b1 f1 nw e1 nm => ?_⟩
    have nwa : wl ≠ a := fun z => by rw [z, ha] at nw; cases nw
    refine ⟨szl (by simp), fun l hl => ?_⟩
    intro d hd
    refine ⟨_, _, rfl, ?_⟩
    have nl : H l = none := fresh b1 f1 hl
    have b12 : But [] H1 (upd H1 l (.lst [])) := newB hl
    have nld : l ≠ d := ne_of_none upd_same hd
    have nd1 : H1 d = none := b12.free hd (by simp)
    have nd0 : H d = none := fresh b1 f1 nd1
    have b13 : But [] H1 (upd (upd H1 l (.lst [])) d (.dK [])) := b12.put0 nd1
    have el : (upd (upd H1 l (.lst [])) d (.dK [])) l = some (.lst []) := by rw [upd_ne nld, upd_same]
    have ed : (upd (upd H1 l (.lst [])) d (.dK [])) d = some (.dK []) := upd_same
    generalize upd (upd H1 l (.lst [])) d (.dK []) = H3 at b13 el ed
    have e3 := b13.at e1
    have f3 : FeedR H3 a := by obtain ⟨d1, s1, e⟩ := f1; exact ⟨d1, s1, b13.at e⟩
    have nla : l ≠ a := fun z => by rw [z, ha] at nl; cases nl
    have nda : d ≠ a := fun z => by rw [z, ha] at nd0; cases nd0
    have nwl : wl ≠ l := ne_of_none e1 hl
    have nwd : wl ≠ d := ne_of_none e1 nd1
    refine ⟨_, rfl, _, rfl, szl (by simp), fun q hq => ?_⟩
    have bq : But [] H3 (upd H3 q (.lst [V.int 1, .int 2, .int 2, .int 3, .int 5])) := newB hq
    refine ⟨a, q, _, rfl, by simp, by simp, (by obtain ⟨d1, s1, e⟩ := f3; exact ⟨d1, s1, bq.at e⟩), (fun z => by obtain ⟨d1, s1, e⟩ := f3; rw [z, e] at hq; cases hq), upd_same, fun H4 x b4 f4 hx => ?_⟩
    obtain ⟨n, rfl, n1, n5⟩ : ∃ n : Nat, x = .int (n : Nat) ∧ 1 ≤ n ∧ n ≤ 5 := by
      simp only [List.mem_cons, List.not_mem_nil, or_false] at hx
      rcases hx with rfl | rfl | rfl | rfl | rfl
      · exact ⟨1, rfl, by omega, by omega⟩
      · exact ⟨2, rfl, by omega, by omega⟩
      · exact ⟨2, rfl, by omega, by omega⟩
      · exact ⟨3, rfl, by omega, by omega⟩
      · exact ⟨5, rfl, by omega, by omega⟩
    have b34 : But [a] H3 H4 := (But.of bq).trans b4
    have e4 := b34.at1 e3 nwa
    refine ⟨_, rfl, wl, svs ws, rfl, SqL.of e4, fun p hp => ?_⟩
    have ecut : cutV (svs ws) none (some ((n : Nat) : Int)) = svs (ws.take n) := by rw [cutV_to, svs_take]
    rw [ecut]
    have b45 : But [] H4 (upd H4 p (.lst (svs (ws.take n)))) := newB hp
    have ep : (upd H4 p (.lst (svs (ws.take n)))) p = some (.lst (svs (ws.take n))) := upd_same
    refine ⟨p, rfl, ⟨_, SqL.of ep⟩, ?_⟩
    have npl : p ≠ l := fun z => by rw [z, b34.at1 el nla] at hp; cases hp
    have npd : p ≠ d := fun z => by rw [z, b34.at1 ed nda] at hp; cases hp
    have npa : p ≠ a := fun z => by obtain ⟨d1, s1, e⟩ := f4; rw [z, e] at hp; cases hp
    generalize upd H4 p (.lst (svs (ws.take n))) = H5 at b45 ep
    have b35 : But [a] H3 H5 := b34.trans (But.of b45)
    have b05 : But [a] H H5 := (b1.trans (But.of b13)).trans b35
    have nn : (ws.take n).Nodup := (List.take_sublist ..).nodup nm.nd
    have nnm : ∀ w ∈ ws.take n, isName w = true := fun w h => nm.nm w (List.mem_of_mem_take h)
    have nlen : (ws.take n).length = n := by rw [List.length_take, nm.len]; omega
    have nnY : ∀ w ∈ ws.take n, w ≠ [121, 122, 121, 122] := fun w h => nm.noY w (List.mem_of_mem_take h)
    generalize ws.take n = nms at ep nn nnm nlen nnY
    refine for_it (walk_list (K := K) (a := p) (xs := svs nms)) (fun i σ H' => ∃ vt ts, (∃ v4 v5 v6 v7, σ = [some (.ref a), some (.ref wl), some (.ref l), some (.ref d), v4, v5, v6, v7]) ∧ But [a] H H' ∧ FeedR H' a ∧ H' p = some (.lst (svs nms)) ∧ H' wl = some (.lst (svs ws)) ∧ H' l = some (.lst vt) ∧ Each (TabR H') vt ts ∧ DictR H' d ts ∧ OkTs [] ts ∧ ts.map (·.name) = nms.take i)
      ⟨[], [], ⟨_, _, _, _, rfl⟩, b05, (by obtain ⟨d1, s1, e⟩ := f4; exact ⟨d1, s1, b45.at e⟩), ep, b45.at e4, b35.at1 el nla, Each.nil, ⟨[], b35.at1 ed nda, Each.nil⟩, .nil, by simp⟩ (fun i σ H' _ ⟨_, _, _, _, _, z, _⟩ => SqL.of z)
      (fun i x σ H6 H6' hi ⟨vt, ts, ⟨v4, v5, v6, v7, es⟩, b6, f6, ep6, ew6, el6, et6, dr6, ok, tn⟩ y => ?_) (fun σ H6 ⟨vt, ts, ⟨v4, v5, v6, v7, es⟩, b6, f6, ep6, ew6, el6, et6, dr6, ok, tn⟩ => ?_)
    · obtain ⟨rfl, hx2⟩ := y
      obtain ⟨w1, hw1, rfl⟩ := svs_get hx2
      subst es
      have tl : ts.length = i := by have := congrArg List.length tn; rw [List.length_map, List.length_take] at this; have : i < nms.length := (List.getElem?_eq_some_iff.mp hw1).1; omega
      have i5 : i < 5 := by have : i < nms.length := (List.getElem?_eq_some_iff.mp hw1).1; omega
      have tk1 : ts.map (·.name) ++ [w1] = nms.take (i + 1) := by rw [tn, List.take_add_one, hw1]; rfl
      -- columns
      refine ⟨_, rfl, _, rfl, _, rfl, _, rfl, wl, svs ws, rfl, SqL.of ew6, fun c1 hc1 => ?_⟩
      rw [cutV_mid ws nm.len]
      have bc1 : But [] H6' (upd H6' c1 (.lst (svs ((ws.drop 5).take 5)))) := newB hc1
      refine ⟨_, rfl, _, rfl, wl, svs ws, rfl, SqL.of (bc1.at ew6), fun c2 hc2 => ?_⟩
      have ec2 : cutV (svs ws) none (some 2) = svs (ws.take 2) := by
        have := cutV_to (svs ws) 2
        rw [svs_take] at this
        exact this
      rw [ec2]
      have bc2 : But [] (upd H6' c1 (.lst (svs ((ws.drop 5).take 5)))) (upd (upd H6' c1 (.lst (svs ((ws.drop 5).take 5)))) c2 (.lst (svs (ws.take 2)))) := newB hc2
      refine ⟨c1, c2, _, _, rfl, rfl, bc2.at upd_same, upd_same, szl (by rw [svs_len, svs_len]; simp; omega), fun c3 hc3 => ?_⟩
      rw [← svs_app]
      have bc3 : But [] (upd (upd H6' c1 (.lst (svs ((ws.drop 5).take 5)))) c2 (.lst (svs (ws.take 2)))) (upd (upd (upd H6' c1 (.lst (svs ((ws.drop 5).take 5)))) c2 (.lst (svs (ws.take 2)))) c3 (.lst (svs ((ws.drop 5).take 5 ++ ws.take 2)))) := newB hc3
      have ec3 : (upd (upd (upd H6' c1 (.lst (svs ((ws.drop 5).take 5)))) c2 (.lst (svs (ws.take 2)))) c3 (.lst (svs ((ws.drop 5).take 5 ++ ws.take 2)))) c3 = some (.lst (svs ((ws.drop 5).take 5 ++ ws.take 2))) := upd_same
      have b67 := (bc1.trans bc2).trans bc3
      generalize upd (upd (upd H6' c1 (.lst (svs ((ws.drop 5).take 5)))) c2 (.lst (svs (ws.take 2)))) c3 (.lst (svs ((ws.drop 5).take 5 ++ ws.take 2))) = H7 at b67 ec3
      have cnd := cand_nd nm.nd
      have cnm : ∀ w ∈ (ws.drop 5).take 5 ++ ws.take 2, isName w = true := fun w h => by
        rcases List.mem_append.mp h with z | z
        · exact nm.nm w (List.mem_of_mem_drop (List.mem_of_mem_take z))
        · exact nm.nm w (List.mem_of_mem_take z)
      have clen : ((ws.drop 5).take 5 ++ ws.take 2).length = 7 := by simp [nm.len]
      generalize (ws.drop 5).take 5 ++ ws.take 2 = cand at ec3 cnd cnm clen
      have f7 : FeedR H7 a := by obtain ⟨d1, s1, e⟩ := f6; exact ⟨d1, s1, b67.at e⟩
      refine ⟨a, c3, cand, rfl, f7, ec3, by omega, cnm, fun H8 mr ws2 b8 f8 nmr e8 pm => ?_⟩
      refine ⟨_, rfl, a, 5, rfl, by decide, by decide, f8, fun H9 r9 b9 f9 h9 => ?_⟩
      have nma : mr ≠ a := fun z => by obtain ⟨d1, s1, e⟩ := f7; rw [z, e] at nmr; cases nmr
      refine ⟨_, _, rfl, rfl, _, rfl, mr, svs ws2, rfl, SqL.of (b9.at1 e8 nma), fun ca hca => ?_⟩
      have er9 : (1 : Int) + (r9 : Int) = ((r9 + 1 : Nat) : Int) := by omega
      have ecut2 : cutV (svs ws2) none (some ((1 : Int) + (r9 : Int))) = svs (ws2.take (r9 + 1)) := by rw [er9, cutV_to, svs_take]
      show gName 5 _ _ (upd H9 ca (.lst (cutV (svs ws2) none (some ((1 : Int) + (r9 : Int)))))) _
      rw [ecut2]
      obtain ⟨knd, ksub⟩ := sub_perm (n := r9 + 1) pm cnd
      have kl5 : (ws2.take (r9 + 1)).length ≤ 5 := by rw [List.length_take]; omega
      have kne : ws2.take (r9 + 1) ≠ [] := fun z => by
        have hw := pm.length_eq
        have z2 := congrArg List.length z
        rw [List.length_take, List.length_nil] at z2
        omega
      generalize ws2.take (r9 + 1) = cols at knd ksub kl5 kne
      have b910 : But [] H9 (upd H9 ca (.lst (svs cols))) := newB hca
      have eca : (upd H9 ca (.lst (svs cols))) ca = some (.lst (svs cols)) := upd_same
      generalize upd H9 ca (.lst (svs cols)) = H10 at b910 eca
      have f10 : FeedR H10 a := by obtain ⟨d1, s1, e⟩ := f9; exact ⟨d1, s1, b910.at e⟩
      have cnames : ∀ w ∈ cols, isName w = true := fun w h => cnm w (ksub w h)
      have ncaa : ca ≠ a := fun z => by obtain ⟨d1, s1, e⟩ := f9; rw [z, e] at hca; cases hca
      refine ⟨_, rfl, _, rfl, a, ca, cols, rfl, f10, eca, kne, kl5, knd, cnames, fun H11 ua vk ks b11 f11 nua eua ekk kok kne2 => ?_⟩
      have b610 : But [a] H6' H10 := (But.of b67).trans ((b8.trans b9).trans (But.of b910))
      have b611 := b610.trans b11
      have notT : ∀ {Hy : Hp}, FeedR Hy a → ∀ x ∈ [a], ∀ xs, Hy x ≠ some (.tup xs) := fun ⟨d1, s1, e⟩ x hx xs z => by rw [List.mem_singleton.mp hx, e] at z; cases z
      have dr11 : DictR H11 d ts := dr6.keep b611 (not1 nda) (notT f6)
      have nuaa : ua ≠ a := fun z => by obtain ⟨d1, s1, e⟩ := f10; rw [z, e] at nua; cases nua
      have ndn : ((ts ++ [(⟨w1, cols, ks, []⟩ : Tbl)]).map (·.name)).Nodup := by
        rw [List.map_append]
        show (ts.map (·.name) ++ [w1]).Nodup
        rw [tk1]
        exact (List.take_sublist ..).nodup nn
      have w1n : isName w1 = true := nnm w1 (List.mem_of_getElem? hw1)
      refine ⟨_, rfl, _, rfl, _, rfl, _, rfl, _, rfl, a, ca, ua, d, w1, cols, vk, ks, ts, rfl, f11, b11.at1 eca ncaa, eua, ekk, dr11, kne, kl5, knd, cnames, kok, kne2, ndn, okTs_each ok, w1n, by omega, fun H12 ra vr rs b12' f12 nra era err rok => ?_⟩
      have b612 := b611.trans b12'
      have el12 := b612.at1 el6 nla
      have ep12 := b612.at1 ep6 npa
      have ew12 := b612.at1 ew6 nwa
      have eca12 := b12'.at1 (b11.at1 eca ncaa) ncaa
      have eua12 := b12'.at1 eua nuaa
      have f612 : Fix 0 H6' H12 := by obtain ⟨d1, s1, e⟩ := f6; exact fixL b612 e
      have fk12 : Fix 0 H11 H12 := by obtain ⟨d1, s1, e⟩ := f11; exact fixL b12' e
      have dr12 : DictR H12 d ts := dr11.keep b12' (not1 nda) (notT f11)
      have b012 : But [a] H H12 := b6.trans b612
      obtain ⟨k1, ks', ek1⟩ : ∃ k1 ks', ks = k1 :: ks' := by cases ks with
        | nil => exact absurd rfl kne2
        | cons x y => exact ⟨x, y, rfl⟩
      refine ⟨_, rfl, tyList el12, _, rfl, _, rfl, ca, svs cols, rfl, .inl ⟨SqL.of eca12, fun t1 ht1 => ?_⟩⟩
      have bt1 : But [] H12 (upd H12 t1 (.tup (svs cols))) := newB ht1
      have et1 : (upd H12 t1 (.tup (svs cols))) t1 = some (.tup (svs cols)) := upd_same
      generalize upd H12 t1 (.tup (svs cols)) = G1 at bt1 et1
      refine ⟨_, rfl, ua, vk, rfl, .inl ⟨SqL.of (bt1.at eua12), fun t2 ht2 => ?_⟩⟩
      have bt2 : But [] G1 (upd G1 t2 (.tup vk)) := newB ht2
      have et2 : (upd G1 t2 (.tup vk)) t2 = some (.tup vk) := upd_same
      generalize upd G1 t2 (.tup vk) = G2 at bt2 et2
      refine ⟨_, rfl, ra, vr, rfl, .inl ⟨SqL.of (bt2.at (bt1.at era)), fun t3 ht3 => ?_⟩⟩
      have bt3 : But [] G2 (upd G2 t3 (.tup vr)) := newB ht3
      have et3 : (upd G2 t3 (.tup vr)) t3 = some (.tup vr) := upd_same
      generalize upd G2 t3 (.tup vr) = G3 at bt3 et3
      refine ⟨szl (by simp), fun q2 hq2 => ?_⟩
      have bt4 : But [] G3 (upd G3 q2 (.tup [sv w1, .ref t1, .ref t2, .ref t3])) := newB hq2
      have et4 : (upd G3 q2 (.tup [sv w1, .ref t1, .ref t2, .ref t3])) q2 = some (.tup [sv w1, .ref t1, .ref t2, .ref t3]) := upd_same
      generalize upd G3 q2 (.tup [sv w1, .ref t1, .ref t2, .ref t3]) = G4 at bt4 et4
      have bt := ((bt1.trans bt2).trans bt3).trans bt4
      have elG := bt.at el12
      have bL : But [l] G4 (upd G4 l (.lst (vt ++ [V.ref q2]))) := But.refl.put (by simp)
      have elL : (upd G4 l (.lst (vt ++ [V.ref q2]))) l = some (.lst (vt ++ [V.ref q2])) := upd_same
      have fL : Fix 0 G4 (upd G4 l (.lst (vt ++ [V.ref q2]))) := fixL bL elG
      refine ⟨l, vt, .ref q2, rfl, rfl, elG, szt (by have := et6.1; omega), ?_⟩
      have drL : DictR (upd G4 l (.lst (vt ++ [V.ref q2]))) d ts := (dr12.keep (l := []) bt (by simp) (by simp)).keep bL (not1 nld.symm) (fun x hx xs z => by rw [List.mem_singleton.mp hx, elG] at z; cases z)
      have nual : ua ≠ l := fun z => by
        rw [z, el12] at eua12
        have z2 := Option.some.inj eua12
        rw [z, b610.at1 el6 nla] at nua
        cases nua
      have euaL := bL.at1 (bt.at eua12) nual
      have npl' := bL.at1 (bt.at ep12) npl
      have nwl' := bL.at1 (bt.at ew12) nwl
      have feL : FeedR (upd G4 l (.lst (vt ++ [V.ref q2]))) a := by obtain ⟨d1, s1, e⟩ := f12; exact ⟨d1, s1, bL.at1 (bt.at e) nla.symm⟩
      have b0L : But [a] H (upd G4 l (.lst (vt ++ [V.ref q2]))) := (b012.trans (But.of bt)).put0 nl
      generalize upd G4 l (.lst (vt ++ [V.ref q2])) = G5 at bL elL fL drL euaL npl' nwl' feL b0L
      have ekL : Each (KeyR G5) vk ks := ((ekk.mono fun _ _ z => z.fix fk12).mono fun _ _ z => z.fix (fixO bt)).mono fun _ _ z => z.fix fL
      have erL : Each (RefR G5) vr rs := (err.mono fun _ _ z => z.fix (fixO bt)).mono fun _ _ z => z.fix fL
      obtain ⟨v0, hv0, kv0⟩ := ekL.atx (i := 0) (x := k1) (by rw [ek1]; rfl)
      have nin : w1 ∉ ts.map (·.name) := fun z => by
        rw [List.map_append] at ndn
        exact (List.nodup_append.mp ndn).2.2 w1 z w1 (by simp) rfl
      obtain ⟨G6, hput, bD, drD⟩ := DictR.put (t := ⟨w1, cols, ks, rs⟩) drL nin (v := v0) (by rw [ek1]; exact kv0) (by omega)
      have fD : Fix 0 G5 G6 := by
        obtain ⟨vsd, ed5, _⟩ := drL
        exact bD.fix fun x z o e i => by rw [List.mem_singleton.mp z, ed5] at e; cases e; exact i
      have tabs := (((et6.mono fun _ _ z => z.fix f612).mono fun _ _ z => z.fix (fixO bt)).mono fun _ _ z => z.fix fL).mono fun _ _ z => z.fix fD
      have ff : Fix 0 G4 G6 := fL.trans fD
      have new : TabR G6 (.ref q2) ⟨w1, cols, ks, rs⟩ := ⟨q2, t1, t2, t3, vk, vr, rfl, ff _ _ et4 trivial, ff _ _ (bt4.at (bt3.at (bt2.at et1))) trivial, ff _ _ (bt4.at (bt3.at et2)) trivial, ekL.mono fun _ _ z => z.fix fD, ff _ _ (bt4.at et3) trivial, erL.mono fun _ _ z => z.fix fD⟩
      have okt : OkT ([] ++ ts) ⟨w1, cols, ks, rs⟩ := table_of w1n nin (by simpa using (by omega : ts.length < 5)) kne kl5 cnames knd kne2 kok.len kok.each kok.apart rok
      refine ⟨_, rfl, ua, vk, 0, v0, rfl, rfl, SqL.of euaL, atI_nat hv0, _, rfl, _, rfl, d, G6, rfl, hput, ?_⟩
      refine ⟨vt ++ [.ref q2], ts ++ [⟨w1, cols, ks, rs⟩], ⟨_, _, _, _, rfl⟩, ?_, ?_, bD.at1 npl' npd, bD.at1 nwl' nwd, bD.at1 elL nld, tabs.snoc new, drD, ok.snoc okt, ?_⟩
      · exact fun x o hx e => bD x o (not1 fun z => by rw [z, nd0] at e; cases e) (b0L x o hx e)
      · obtain ⟨d1, s1, e⟩ := feL
        exact ⟨d1, s1, bD.at1 e nda.symm⟩
      · rw [List.map_append]; exact tk1
    · subst es
      rw [svs_len] at tn
      have noY : ∀ t ∈ ts, t.name ≠ [121, 122, 121, 122] := fun t ht => by
        have m : t.name ∈ ts.map (·.name) := List.mem_map.mpr ⟨t, ht, rfl⟩
        rw [tn] at m
        exact nnY _ (List.mem_of_mem_take m)
      refine ⟨_, rfl, k H6 l vt ts b6 f6 nl el6 et6 ok (fun z => ?_) ?_ noY⟩
      · rw [z] at tn
        have := congrArg List.length tn
        rw [List.length_take] at this
        simp at this
        omega
      · have := congrArg List.length tn
        rw [List.length_map, List.length_take] at this
        omega
end
end Cn
set_option Elab.async false
set_option linter.all false
set_option maxRecDepth 100000
set_option maxHeartbeats 2000000
/-! Cn.B13: a method's call in a try; isinstance of a kept error. -/
namespace Cn
open PySem PySem.Spec PyProof.Rows L2
section
variable {X : Cx} {k j : Nat} {C : Addr} {m : Str} {sp : Sp} {E : L2.St → XK} {o e : Expr} {es : List Expr} {pos apos : Pos} {ta : TE} {t : TA}
def tMethS (C : Addr) (m : Str) (sp : Sp) (E : L2.St → XK) (ta : TE) (t : TA) : TE := fun σ H Q => ta σ H fun x H1 => ∃ (a dx : Addr) (fs : List (Str × V)), x = .ref a ∧ H1 a = some (.ins C dx fs) ∧ fs.lookup m = none ∧ t σ H1 fun vs H2 => sp (.ref a :: vs) H2 Q (E σ)
theorem p_methS {pl : Sem Bool} (c : Met X.prog X.w X.K X.mg X.base k C m sp) (hr : Room j X.A) (hk : k ≤ j) (hx : ∀ σ, PassesAt (L2.CX X.prog X.w) X σ (E σ)) (he : PE X o ta) (ha : PA X (e :: es) t)
    (hst : starEach (e :: es) X.env = (false, eval e X.env) :: starEach es X.env := by rfl) (hpl : (backTo pos (starEach es X.env)).any (·.1) = false := by rfl)
    (ht : eval (.Call (.Attribute o m apos) (e :: es) [] pos) X.env = (do
      let ov ← eval o X.env
      standAt apos.atName
      let (f, first) ← holding [ov] (getMethod ov m pl)
      callWith pos f first (backTo pos (starEach (e :: es) X.env)) (backToKw pos (keywordEach [] X.env))) := by rfl) :
    PE X (.Call (.Attribute o m apos) (e :: es) [] pos) (tMethS C m sp E ta t) := by
  obtain ⟨f, fd, ps, hc, hm, F, b⟩ := c.ex
  refine ⟨fun pins s σ H Q I h => ?_⟩
  refine PySem.W.methodCall_KW (pl := pl) (thn (he.run pins s σ H _ I h) fun u s1 ⟨x, H1, I1, rx, a, dx, fs, ex, ea, l, q⟩ => ?_) ht
  subst ex
  obtain rfl : u = Value.ref a := rx
  refine getmeth_ok I1 ea hc hm l ?_
  refine PySem.W.callWith_K (first := [.ref a]) (h₀ := X.base) I.ok.mod.kin hm.kp (thn (ha.run pos pins s1 σ H1 _ I1 q) fun us s2 ⟨vs, H2, I2, r, q2⟩ => ⟨I2.kIn, ?_⟩) hst hpl
  exact run_fnS (us := .ref a :: us) (vs := .ref a :: vs) F (hr.mono hk) b (hx σ) I2 (.cons rfl r) q2
end
/-! ### isinstance of a kept error -/
def rIsX (K : PySem.W.Frag) (C : Addr) : List V → Hp → VK → Prop := fun xs H Q => ∃ (a dd : Addr) (fs : List (Str × V)) (c : V) (u : Value) (b : Bool), xs = [.ref a, c] ∧ H a = some (XV (.ref C) (some dd) a) ∧ H dd = some (.xd fs) ∧ ClsV c u ∧ PySem.W.kitOne K (.ref C) u = some b ∧ Q (.bl b) H
def rIsXT (K : PySem.W.Frag) (C : Addr) : List V → Hp → VK → Prop := fun xs H Q => ∃ (a dd : Addr) (fs : List (Str × V)) (tp : Addr) (cs : List V) (us : List Value) (b : Bool), xs = [.ref a, .ref tp] ∧ H a = some (XV (.ref C) (some dd) a) ∧ H dd = some (.xd fs) ∧ H tp = some (.tup cs) ∧ Paired ClsV cs us ∧ PySem.W.kitAny K (.ref C) us = some b ∧ Q (.bl b) H
section
variable {X : Cx} {C : Addr}
theorem xv_inst {pins : List (Addr × Obj)} {σ : L2.St} {H : Hp} {s : Shared} {a dd : Addr} {fs : List (Str × V)} (I : Inv X pins σ H s) (ea : H a = some (XV (.ref C) (some dd) a)) (ed : H dd = some (.xd fs)) : ∃ (oe od : Obj), PySem.W.InstAt s.heap a oe C (some od) := by
  have hx : ObjOk X.prog X.w H s.heap dd (.xd fs) := I.hok dd _ ed
  obtain ⟨mA, hns, hr⟩ := hx
  have hA : ObjOk X.prog X.w H s.heap a (XV (.ref C) (some dd) a) := I.hok a _ ea
  obtain ⟨⟨oe, vs, ha, hz, hd⟩, _⟩ := hA
  obtain ⟨od, ho, hl⟩ := lookIn_ns hns
  exact ⟨oe, od, ha, hz.1, by unfold PySem.W.notCls; rw [hd], by rw [hz.2]; exact ho⟩
theorem call_isX (E : ExcC X.K C) : CallR X (.builtin "isinstance") (rIsX X.K C) := by
  intro pins s σ H xs us Q I r h
  obtain ⟨a, dd, fs, c, u, b, rfl, ea, ed, k, e, q⟩ := h
  obtain ⟨u1, u2, rfl, r1, r2⟩ := vals2 r
  have e2 := k.eq r2
  subst e2
  obtain rfl : u1 = Value.ref a := r1
  obtain ⟨oe, od, J⟩ := xv_inst I ea ed
  have cl : (PySem.W.clsIn X.K C).isSome = true := by
    obtain ⟨cd, hc, _⟩ := PySem.W.any_some E.hd
    rw [hc]; rfl
  exact PySem.W.kia_one (PySem.W.kitx_exc cl E.hg E.hk E.hs E.ha E.hn E.ht E.hm) I.kIn J e (fun z => nomatch z) fun tk => ⟨.bl b, H, I.tok tk, rfl, q⟩
theorem call_isXT (E : ExcC X.K C) : CallR X (.builtin "isinstance") (rIsXT X.K C) := by
  intro pins s σ H xs us Q I r h
  obtain ⟨a, dd, fs, tp, cs, ws, b, rfl, ea, ed, hT, k, e, q⟩ := h
  obtain ⟨u1, u2, rfl, r1, r2⟩ := vals2 r
  cases (show u2 = Value.ref tp from r2)
  obtain rfl : u1 = Value.ref a := r1
  obtain ⟨oe, od, J⟩ := xv_inst I ea ed
  have cl : (PySem.W.clsIn X.K C).isSome = true := by
    obtain ⟨cd, hc, _⟩ := PySem.W.any_some E.hd
    rw [hc]; rfl
  obtain ⟨_, its, rv, o, h1, h2, n, h3⟩ := (show ObjOk X.prog X.w H s.heap tp (.tup cs) from I.hok tp _ hT)
  have e3 := ClsV.all k rv
  subst e3
  obtain ⟨oc, od', dt, sl⟩ := o
  simp only at h2 h3
  subst h2 h3
  exact PySem.W.kia_tup (PySem.W.kitx_exc cl E.hg E.hk E.hs E.ha E.hn E.ht E.hm) I.kIn J h1 e (fun z => nomatch z) fun tk => ⟨.bl b, H, I.tok tk, rfl, q⟩
end
section
variable {X : Cx} {C : Addr} (K : PySem.W.Frag) (h : X.K = K)
include h
theorem call_isXK (E : ExcC K C) : CallR X (.builtin "isinstance") (rIsX K C) := by subst h; exact call_isX E
theorem call_isXTK (E : ExcC K C) : CallR X (.builtin "isinstance") (rIsXT K C) := by subst h; exact call_isXT E
end
section
variable {X : Cx} {C : Addr} {x : Str} {pos : Pos}
/-- an own class by its name -/
theorem p_gcls (hm : X.mg x = some (.ref C)) (hg : Gl X x := by rfl) (hd : (x == ("__debug__" : Str)) = false := by decide) : PE X (.Name x pos) (tC (.ref C)) := pe_glob (v := .ref C) hg hm rfl hd
theorem p_gval (hm : X.mg "ValueError" = none) (hg : Gl X "ValueError" := by rfl) : PE X (.Name "ValueError" pos) (tC (.ty "ValueError")) := pe_bltn (v := .ty "ValueError") hg hm (by decide +kernel) rfl
end
/-- the class's facts, decided -/
def excB (K : PySem.W.Frag) (D : Addr) : Bool := decide (PySem.W.findIn K (.ref D) "__getattribute__" = some (some (.builtin "BaseException.__getattribute__"))) && (decide (PySem.W.findIn K (.ref D) "__getattr__" = some none) && (decide (PySem.W.subIn K (.ref D) (.type "BaseException") = some true) && (PySem.W.hasDictIn K D && (decide (PySem.W.findIn K (.ref D) "__class__" = some (some (.builtin "object.__class__"))) && (decide (PySem.W.specialIn K (.builtin "object.__class__") "__get__" = some (some (.builtin "getset_descriptor.__get__"))) && (decide (PySem.W.takesIn K (.builtin "object.__class__") = some true) && decide (PySem.W.mroIn K D (.type "object") = some true)))))))
theorem excB_ok {K : PySem.W.Frag} {D : Addr} (h : excB K D = true) : ExcC K D := by
  unfold excB at h
  simp only [Bool.and_eq_true, decide_eq_true_eq] at h
  obtain ⟨h1, h2, h3, h4, h5, h6, h7, h8⟩ := h
  exact ⟨h1, h2, h3, h4, h5, h6, h7, h8⟩
end Cn
set_option Elab.async false
set_option linter.all false
set_option maxRecDepth 100000
set_option maxHeartbeats 4000000
/-! tables by name -/
namespace Cn
open PySem L2
section
variable {P : Program} {w : World} {K : PySem.W.Frag} {mg : Str → Option Value} {base : Heap} {CR CT CS CI CU : Addr} {f : Addr} {fd : FuncData}
theorem sc_UnknownTable_init : FnScope ["self", "name"] ["self", "name"] (defScope s_UnknownTable_init) := ⟨rfl, rfl, rfl, by decide +kernel, rfl, by decide +kernel, by decide +kernel⟩
theorem sc_Schema_table : FnScope ["self", "name", "table"] ["self", "name"] (defScope s_Schema_table) := ⟨rfl, rfl, rfl, by decide +kernel, rfl, by decide +kernel, by decide +kernel⟩
theorem ok_UnknownTable_init (F : Fun K "__init__" "UnknownTable.__init__" s_UnknownTable_init f fd) (ox : OexC K CU) (na : PySem.W.findIn K (.ref CU) "name" = some none) : FnOk P w K mg base (L2.CX P w) 1 f fd ["self", "name"] (sp_exinit CU "name") := by
  refine F.okX sc_UnknownTable_init (fun vs H Q E h => ?_) (fun cdv A outer s H vs Q E hr h => ?_)
  · obtain ⟨a, v, rfl, _⟩ := h
    rfl
  · obtain ⟨a, v, rfl, ha, k⟩ := h
    refine ⟨_, pss_one (ps_ost (pv 0) (pv 1)), ?_⟩
    exact ⟨_, rfl, _, rfl, a, CU, rfl, ox, na, .inl ⟨ha, k⟩⟩
def sp_table (CT CS CU : Addr) : Sp := fun vs H Q E => ∃ a ts n, vs = [.ref a, sv n] ∧ SchR CS CT H (.ref a) ts ∧ (∀ v t, t ∈ ts → t.name = n → TblR CT H v t → Q v H) ∧ (n ∉ ts.map (·.name) → ∀ H' d, But [] H H' → H' d = some (.xd [("name", sv n)]) → E (.ref CU) (some d) H')
theorem ok_table (F : Fun K "table" "Schema.table" s_Schema_table f fd) (T : LTx K mg CR CT CS CI) (x_UnknownTable : Xn P w K mg base 1 "UnknownTable" "name" CU) : FnOk P w K mg base (L2.CX P w) 3 f fd ["self", "name"] (sp_table CT CS CU) := by
  refine F.okX sc_Schema_table (fun vs H Q E h => ?_) (fun cdv A outer s H vs Q E hr h => ?_)
  · obtain ⟨a, ts, n, rfl, _⟩ := h
    rfl
  · obtain ⟨a, ts, n, rfl, ⟨a', dx, tt, vt, e, ha, htt, hvt⟩, k1, k2⟩ := h
    cases e
    refine ⟨_, (pss_cons (ps_for (passes_of rfl) (by rfl) (pi_tupK K rfl (pe_fldK K rfl (pv 0) rfl)) (pg_name (i := 2) sc_Schema_table.nd rfl (Or.inl rfl))
  (pss_one (ps_if (pt_cmpR op_eq (pe_fldK K rfl (pv 2) rfl) (pv 1) (nomark _))
  (pss_one (ps_ret (pv 2)))
  pss_nil)))
  (pss_one (p_raise x_UnknownTable hr (by decide) (takes_of rfl rfl rfl rfl) (by rfl) (pa_cons (pv 1) pa_nil)))), ?_⟩
    refine ⟨_, rfl, a, CS, dx, _, _, rfl, ha, T.clS, T.naS1, sf_tables, tt, rfl, ⟨_, SqT.of htt⟩, ?_⟩
    refine for_it (walk_tup (K := K) (a := tt) (xs := vt)) (fun i σ H' => (∃ v2, σ = [some (.ref a), some (sv n), v2]) ∧ H' = H ∧ n ∉ (ts.take i).map (·.name)) ⟨⟨_, rfl⟩, rfl, by simp⟩ (fun i σ H' _ e => by rw [e.2.1]; exact SqT.of htt) (fun i v σ H1 H1' hi ⟨⟨v2, es⟩, eh, hn⟩ y => ?_) (fun σ H1 ⟨⟨v2, es⟩, eh, hn⟩ => ?_)
    · obtain ⟨rfl, hv⟩ := y
      subst es eh
      obtain ⟨t, ht, htr⟩ := hvt.at hv
      obtain ⟨b, dx2, ca, ua, ra, ks, rs, rfl, hb, _⟩ := id htr
      refine ⟨_, rfl, b, CT, dx2, _, _, rfl, hb, T.clT, T.naT1, tf_name, _, rfl, ?_⟩
      refine ⟨rfl, _, rfl, ?_⟩
      rw [sv_eq]
      refine ite2 (fun hd => ?_) (fun hd => ?_)
      · exact ⟨_, rfl, k1 _ t (List.mem_of_getElem? ht) (eq_of_beq hd) htr⟩
      · refine ⟨⟨_, rfl⟩, rfl, fun hm => ?_⟩
        have st : ts.take (i + 1) = ts.take i ++ [t] := by rw [List.take_add_one, ht]; rfl
        rw [st, List.map_append, List.mem_append] at hm
        rcases hm with z | z
        · exact hn z
        · rw [List.map_singleton, List.mem_singleton] at z
          exact hd (by rw [z]; exact beq_self_eq_true _)
    · subst es eh
      rw [hvt.1, List.take_length] at hn
      exact ⟨_, rfl, fun H' d b _ hd => k2 hn H' d b hd⟩
end
end Cn
set_option Elab.async false
set_option linter.all false
set_option maxRecDepth 100000
set_option maxHeartbeats 2000000
/-! Cn.M8: the text of allowed tables is read back. -/
namespace Cn
open PySem L2
theorem join_no (c : Nat) (sep : T) (hs : c ∉ sep) : ∀ ps : List T, (∀ p ∈ ps, c ∉ p) → c ∉ joinT sep ps
  | [], _ => by simp [joinT]
  | [p], h => h p (by simp)
  | p :: q :: r, h => by
    have ih := join_no c sep hs (q :: r) fun x hx => h x (List.mem_cons_of_mem _ hx)
    show c ∉ p ++ (sep ++ joinT sep (q :: r))
    intro z
    rcases List.mem_append.mp z with z | z
    · exact h p (by simp) z
    · rcases List.mem_append.mp z with z | z
      · exact hs z
      · exact ih z
theorem diff_sub {k cols : List T} (h : areDiff k cols = true) : ∀ c ∈ k, c ∈ cols := by
  unfold areDiff at h
  simp only [Bool.and_eq_true] at h
  intro c hc
  have h2 := h.2
  unfold hasAll at h2
  have := List.all_eq_true.mp h2 c hc
  exact List.contains_iff_mem.mp this
theorem rows_no {above : List Tbl} {t : Tbl} (ok : OkT above t) : ∀ r ∈ tableRows t, 10 ∉ r := by
  have nn : ∀ c ∈ t.cols, 10 ∉ c := fun c hc => (name_signs (ok.colsN c hc)).2.2
  intro r hr
  unfold tableRows at hr
  simp only [List.mem_append, List.mem_cons, List.not_mem_nil, or_false, List.mem_map] at hr
  rcases hr with rfl | ⟨c, hc, rfl⟩ | ⟨k, hk, rfl⟩ | ⟨q, hq, rfl⟩ | rfl
  · intro z
    rcases List.mem_append.mp z with z | z
    · revert z; decide
    · exact (name_signs ok.name).2.2 z
  · intro z
    rcases List.mem_append.mp z with z | z
    · revert z; decide
    · exact nn c hc z
  · intro z
    rcases List.mem_append.mp z with z | z
    · revert z; decide
    · exact join_no 10 [32] (by decide) k (fun c hc => nn c (diff_sub (ok.keysK k hk).2.2 c hc)) z
  · have rr := ok.refsR q hq
    have h1 := join_no 10 [32] (by decide) q.1 (fun c hc => nn c (diff_sub rr.diff c hc))
    have h2 := (name_signs rr.names).2.2
    have h3 : 10 ∉ (if q.2.2 then ([114, 101, 102] : T) else [111, 112, 116, 105, 111, 110, 97, 108]) := by cases q.2.2 <;> decide
    unfold refRow
    simp only [List.mem_append, not_or]
    exact ⟨by decide, h3, by decide, h1, by decide, h2⟩
  · decide
theorem okTs_all : ∀ {above ts : List Tbl}, OkTs above ts → ∀ t ∈ ts, ∀ r ∈ tableRows t, 10 ∉ r := fun {above ts} h => by
  induction h with
  | nil => intro t ht; cases ht
  | cons o _ ih =>
    intro t ht
    rcases List.mem_cons.mp ht with z | z
    · rw [z]; exact rows_no o
    · exact ih t z
theorem text_rows {ts : List Tbl} (ok : OkTs [] ts) (h0 : ts ≠ []) : splitC 10 (schemaText ts) = ts.flatMap tableRows := by
  refine split_join 10 _ ?_ fun r hr => ?_
  · cases ts with
    | nil => exact absurd rfl h0
    | cons t r => rw [List.flatMap_cons]; unfold tableRows; simp
  · obtain ⟨t, ht, h⟩ := List.mem_flatMap.mp hr
    exact okTs_all ok t ht r h
theorem text_read {ts : List Tbl} (ok : OkTs [] ts) (h0 : ts ≠ []) (h5 : ts.length ≤ 5) : parseRows (splitC 10 (schemaText ts)) = .ok ts := by
  rw [text_rows ok h0]
  exact parse_rt ok h0 h5
end Cn
set_option Elab.async false
set_option linter.all false
set_option maxRecDepth 100000
set_option maxHeartbeats 0
/-! Cn.B15: the head's words that are the same for every law. -/
namespace Cn
open PySem L2
def oexB (K : PySem.W.Frag) (C : Addr) : Bool := (match K.lookup C with
  | some ⟨.type "type", _, .cls cd, sl⟩ => (match cd.mro, sl.toList with
    | .ref C' :: bm, [_, _, _, _, some (.builtin n), _] => C' == C && (n == "ValueError.__new__" && (!cd.hasDel && (cd.hasDict && PySem.HandSPX.refsVE bm)))
    | _, _ => false)
  | _ => false) && (decide (PySem.W.findIn K (.ref C) "__setattr__" = some (some (.builtin "object.__setattr__"))) && (decide (PySem.W.subIn K (.ref C) (.type "BaseException") = some true) && (decide (PySem.W.typeIn K (.ref C) = some (.type "type")) && PySem.W.keepIn K (.ref C))))
theorem oexB_ok {K : PySem.W.Frag} {C : Addr} (h : oexB K C = true) : OexC K C := by
  obtain ⟨h1, h⟩ := He.ba h
  obtain ⟨h2, h⟩ := He.ba h
  obtain ⟨h3, h⟩ := He.ba h
  obtain ⟨h4, h5⟩ := He.ba h
  refine ⟨?_, of_decide_eq_true h2, of_decide_eq_true h3, of_decide_eq_true h4, h5⟩
  clear h2 h3 h4 h5 h
  split at h1
  · rename_i dd cd sl ho
    split at h1
    · rename_i C' bm k0 k1 k2 k3 n k5 hm hs
      simp only [Bool.and_eq_true, beq_iff_eq, Bool.not_eq_true'] at h1
      obtain ⟨rfl, rfl, hdel, hdict, ht⟩ := h1
      obtain ⟨nm, bs, mro, ns, qn, hd, sn, sub, ab, col, del⟩ := cd
      dsimp only at hm hdel hdict
      subst hm hdel hdict
      have hsl : sl = #[k0, k1, k2, k3, some (.builtin "ValueError.__new__"), k5] := by
        obtain ⟨l⟩ := sl
        simp only at hs
        rw [hs]
      subst hsl
      exact ⟨_, _, _, _, _, _, _, _, _, _, _, _, _, _, _, ho, ht⟩
    · cases h1
  · cases h1
theorem cread_of2 {K : PySem.W.Frag} {C : Addr} (h0 : PySem.W.readsIn K C (.type "type") = true) : ClX.CRead K C (.type "type") := by
  refine ⟨h0, ?_⟩
  have h := h0
  unfold PySem.W.readsIn at h
  obtain ⟨h, _⟩ := He.ba h
  obtain ⟨h, _⟩ := He.ba h
  obtain ⟨h, h3⟩ := He.ba h
  obtain ⟨_, h2⟩ := He.ba h
  unfold PySem.W.specialIn
  rw [beq_iff_eq.mp h2, Option.bind_some]
  exact beq_iff_eq.mp h3
def xinitB (K : PySem.W.Frag) (C : Addr) : Bool := decide (PySem.W.findIn K (.ref C) "__init__" = some (some (.ref (He.ma K C "__init__")))) && decide (PySem.W.typeIn K (.ref (He.ma K C "__init__")) = some (.type "function"))
def obsZ (ex : PySem.W.Frag → Bool) (fn : List He5.DefA) (K : PySem.W.Frag) : He.AlD := (ex K && fn.all fun d => d.ok K, fn.map fun d => He5.fnA K (d.at_ K))
def SaysZ (ex : PySem.W.Frag → Bool) (fn : List He5.DefA) (K : PySem.W.Frag) : Prop := obsZ ex fn K = He5.valA fn
def obsZG (n : Nat) (ex : PySem.W.Frag → Bool) (fn : List He5.DefA) (g : Addr → Option Obj) : He.AlD := obsZ ex fn (He.frG g (He5.asA g n))
def hookZ (n : Nat) (ex : PySem.W.Frag → Bool) (fn : List He5.DefA) : PySem.W.Hook where
  α := He.AlD
  obs := fun s => obsZG n ex fn s.heap.get?
  val := fun _ => He5.valA fn
  says := fun _ h => ∃ K : PySem.W.Frag, K.In h ∧ SaysZ ex fn K
  of := fun _ _ e => ⟨_, He.frG_in, e⟩
  keeps := fun _ _ _ ⟨K, hK, c⟩ k => ⟨K, PySem.W.Frag.In.keeps hK k, c⟩
theorem obsZ_eq {n : Nat} {ex : PySem.W.Frag → Bool} {fn : List He5.DefA} {g : Addr → Option Obj} {s : Shared} (h : ∀ a, g a = s.heap.get? a) : obsZG n ex fn g = (hookZ n ex fn).obs s := by
  have e : g = s.heap.get? := funext h
  rw [e]; rfl
/-- the end, where what is let out is told by the world too -/
theorem walkW {l : PySem.W.OpenLaw} {n k : Nat} {q : Program} {loose : List Str} {XP : (Str → Option Value) → Heap → Prop} {YP : World → Heap → Prop} {d : DefRec} {CW : World → CXT} {x : Str} (hn : l.most = some n) (hn2 : n ≤ sizeLine) (hdf : d.params.defaults = []) (hr : Room k callerA)
    (F : ∀ (w : World) (mg : Str → Option Value) (fa : Addr) (h : Heap), YP w h → h.Ns mainGlobals mg → mg d.name = some (.ref fa) → ∃ (K : PySem.W.Frag) (fd : FuncData) (sp : Sp), K.In h ∧ (∀ (s : Shared) (u : Value), BindsTo s fd ⟨[u], []⟩ [(x, u)]) ∧
      (∀ (H : Hp) (a : Addr) (ns : List Int), ns.length ≤ n → Only H → SqL K H a (ns.map V.int) → sp [.ref a] H (fun v _ => v = .bl true) fun _ _ _ => False) ∧ ∀ base : Heap, K.In base → base.Ns mainGlobals mg → FnOk l.prog w K mg base (CW w) k fa fd [x] sp)
    (hX : ∀ (w : World) (H : Hp) (s : Shared) (e : Value) (s' : Shared), CW w [] H s (fun _ _ _ => False) e s' → False) : PySem.W.WalkO q loose XP YP l.row.toRowW d [] (fun f vs => PySem.call f vs) := by
  refine Att.attach_call hn hdf fun w t₀ t₁ mg mb fa ob p1 p2 p3 b us ns G Y g1 g2 g3 g4 g5 g6 g7 g8 => ?_
  obtain ⟨K, fd, sp, KX, hb, hsp, hF⟩ := F w mg fa _ Y G.T.g g4
  exact law_call KX G.T.g G.T.b G.T.builtins G.T.nolimit g8 g5 g6 (Nat.le_trans g7 hn2) hr hF hb (fun H hO hS => hsp H b ns g7 hO hS) fun H e s' => hX w H t₁ e s'
end Cn
set_option Elab.async false
set_option linter.all false
set_option maxRecDepth 100000
set_option maxHeartbeats 2000000
/-! Cn.B16: defs that are promised where no guard is on the way (no text of a list is being made): contracts, calls, the law's end. -/
namespace Cn
open PySem PySem.Spec PyProof.Rows L2
structure FnG (P : Program) (w : World) (K : PySem.W.Frag) (mg : Str → Option Value) (base : Heap) (k : Nat) (f : Addr) (fd : FuncData) (ps : List Str) (sp : Sp) : Prop where
  len : ∀ vs H Q E, sp vs H Q E → vs.length = ps.length
  run : ∀ (A : Around) (out : List Env) (s : Shared) (H : Hp) (ar : Args) (us : List Value) (vs : List V) (Q : VK) (E : XK), A.guards = some [] → Room k A → Env0 P w K mg base A out s H → BindsTo s fd ar (ps.zip us) → Vals vs us → sp vs H Q E →
    codeAny (model P w) A (.call (.ref f) ar) (CR (L2.CX P w) out P w H s Q E) s
theorem FnG.of {P : Program} {w : World} {K : PySem.W.Frag} {mg : Str → Option Value} {base : Heap} {k : Nat} {f : Addr} {fd : FuncData} {ps : List Str} {sp : Sp} (F : FnOk P w K mg base (L2.CX P w) k f fd ps sp) : FnG P w K mg base k f fd ps sp :=
  ⟨F.len, fun A out s H ar us vs Q E _ hr => F.run A out s H ar us vs Q E hr⟩
/-- as okX, a guard-free way told -/
theorem okG {P : Program} {w : World} {K : PySem.W.Frag} {mg : Str → Option Value} {base : Heap} {x qual : Str} {st : Stmt} {f : Addr} {fd : FuncData} {N ps : List Str} {k : Nat} {sp : Sp} (F : Fun K x qual st f fd) (S : FnScope N ps (defScope st))
    (len : ∀ vs H Q E, sp vs H Q E → vs.length = ps.length)
    (body : ∀ (cdv : Value) (A : Around) (out : List Env) (s : Shared) (H : Hp) (vs : List V) (Q : VK) (E : XK), A.guards = some [] → Room k (A.deeper (envOfC qual (defScope st) s.heap.objs.size f cdv)) → sp vs H Q E →
      ∃ t, PSs (cxOf (L2.CX P w) P w K mg base N qual (defScope st) f cdv A out s H E) (defBody st) t ∧ t { nx := fun _ H' => Q .non H', rt := Q } (start N vs) H) : FnG P w K mg base (k + 1) f fd ps sp := by
  obtain ⟨oc, od, kV, doc, pm, an, cdv, ct, osl, rfl, lk, hcd⟩ := F.ex
  refine ⟨len, fun A out s H ar us vs Q E hg hr e0 hb r hsp => ?_⟩
  have zl := len _ _ _ _ hsp
  have inH : K.In s.heap := e0.mod.kin.keeps fun b o z => (e0.bs b o z).1
  have nl : s.heap.NoLimit := e0.mod.nolimit.keeps fun b o z => (e0.bs b o z).1
  have kinds : ∀ y ∈ ps.zip us, (defScope st).names.lookup y.1 = some .local ∨ ((defScope st).names.lookup y.1 = some .cell ∧ ((cellsFrom (s.heap.objs.size + 1) (defScope st).names []).lookup y.1).isSome = true) := by
    rintro ⟨n, v⟩ hy
    exact (S.par n (List.of_mem_zip hy).1).elim Or.inl fun q => Or.inr ⟨q, PySem.W.cellsFrom_some _ _ _ (.inl q)⟩
  refine codeAny_call_function hr.depth (inH _ _ lk) rfl S.co S.gen rfl
    (PySem.W.codeRec_of inH hcd) (hb _ _ _ _ ?_)
  refine wpAny_newFunctionEnv_cells S.kind kinds fun env ee s1 nw => ?_
  subst ee
  refine ⟨nl.keeps nw.toInCall.keep, codeAny_func ?_⟩
  obtain ⟨t, ht, goal⟩ := body cdv A out s H vs Q E hg (hr.deeper _) hsp
  have I0 : Inv (cxOf (L2.CX P w) P w K mg base N qual (defScope st) f cdv A out s H E) [] (start N vs) H s1 := inv_start S hr.hd e0 zl r nw
  refine wpAny_mono (ht.run [] s1 (start N vs) H _ I0 goal) (fun fl s2 h2 => ?_) fun _ _ h2 => h2
  have ends : ∀ {σ' : L2.St} {H' : Hp} {v : V} {u : Value}, Inv (cxOf (L2.CX P w) P w K mg base N qual (defScope st) f cdv A out s H E) [] σ' H' s2 → RelV v u → Q v H' → CE out P w H s Q u s2 := fun {_ H' v _} J rv q => ⟨v, H', J.os, J.bare, J.base, J.hok, rv, q⟩
  rcases fl with _ | _ | _ | u
  · obtain ⟨_, _, J, q⟩ := h2
    exact ends (v := .non) (u := .none) J rfl q
  · exact h2.elim fun _ h => h.elim fun _ h => h.2.elim
  · exact h2.elim fun _ h => h.elim fun _ h => h.2.elim
  · obtain ⟨_, _, _, J, rv, q⟩ := h2
    exact ends J rv q
structure CalG (P : Program) (w : World) (K : PySem.W.Frag) (mg : Str → Option Value) (base : Heap) (k : Nat) (x : Str) (sp : Sp) : Prop where
  ex : ∃ (f : Addr) (fd : FuncData) (ps : List Str), FnG P w K mg base k f fd ps sp ∧ mg x = some (.ref f) ∧ PySem.W.keepIn K (.ref f) = true ∧ Binds K fd ps []
section
variable {X : Cx} {k j : Nat} {x : Str} {sp : Sp} {p pos : Pos} {e : Expr} {es : List Expr} {t : TA} {E : XK}
theorem p_callG (E : XK) (c : CalG X.prog X.w X.K X.mg X.base k x sp) (hg : X.A.guards = some []) (hr : Room j X.A) (hk : k ≤ j) (gl : Gl X x) (hx : Passes (L2.CX X.prog X.w) X E) (ha : PA X (e :: es) t)
    (hdb : (x == ("__debug__" : Str)) = false := by decide) (he : starEach (e :: es) X.env = (false, eval e X.env) :: starEach es X.env := by rfl) (hpl : (backTo pos (starEach es X.env)).any (·.1) = false := by rfl) :
    PE X (.Call (.Name x p) (e :: es) [] pos) (tCall sp [] E t) := by
  obtain ⟨f, fd, ps, F, hm, kp, b⟩ := c.ex
  refine ⟨fun pins s σ H Q I h => wpAny_Call_Name_kw (ld_glob I gl hm ?_ hdb)⟩
  refine PySem.W.callWith_K (h₀ := X.base) I.ok.mod.kin kp
    (thn (ha.run pos pins s σ H _ I h) fun us s1 ⟨vs, H1, I1, r, q⟩ => ⟨I1.kIn, ?_⟩) he hpl
  have q : sp vs H1 Q E := by
    have q2 : sp (vs ++ []) H1 Q E := q
    rwa [List.append_nil] at q2
  have hl : us.length = ps.length := by rw [← r.length]; exact F.len _ _ _ _ q
  have bb := b s1 us I1.kIn (by rw [List.append_nil]; exact hl)
  rw [List.append_nil] at bb
  refine wpAny_call (codeAny_mono (F.run X.A X.stack s1 H1 ⟨us, []⟩ us vs Q E hg (hr.mono hk) I1.env0 bb r q) fun rr s2 hq => ?_)
  rcases rr with z | fl
  · exact hx pins σ H1 s1 z s2 I1 hq
  · rcases fl with _ | _ | _ | u
    · exact hq.elim
    · exact hq.elim
    · exact hq.elim
    · exact I1.after hq
end
/-- the law is called where no guard is on the way -/
theorem lawG {P : Program} {w : World} {K : PySem.W.Frag} {mg mb : Str → Option Value} {k : Nat} {fa a : Addr} {fd : FuncData} {x : Str} {sp : Sp} {s0 : Shared} {us : List Value} {ns : List Int}
    (X0 : K.In s0.heap) (n1 : s0.heap.Ns mainGlobals mg) (n2 : s0.heap.Ns builtinsNs mb) (n3 : ∀ x : Str, x ≠ "__name__" → mb x = bootBuiltins x) (n4 : s0.heap.NoLimit) (n5 : s0.gens = #[])
    (ea : s0.heap.get? a = some { cls := .type "list", data := .seq us.toArray }) (ui : IntsAre us ns) (small : ns.length ≤ sizeLine) (room : Room k callerA)
    (F : ∀ base : Heap, K.In base → base.Ns mainGlobals mg → FnG P w K mg base k fa fd [x] sp) (bnd : ∀ (s : Shared) (u : Value), BindsTo s fd ⟨[u], []⟩ [(x, u)])
    (told : ∀ H : Hp, Only H → SqL K H a (ns.map V.int) → sp [.ref a] H (fun v _ => v = .bl true) fun _ _ _ => False)
    (never : ∀ H e s', L2.CX P w [] H s0 (fun _ _ _ => False) e s' → False) :
    codeAny (model P w) callerA (.call (.ref fa) ⟨[.ref a], []⟩) (fun r s' => r = .ok (.ret (.bool true)) ∧ OldK s0.heap s'.heap ∧ s'.os = s0.os ∧ AllBare s'.gens) s0 := by
  have rel := vals_ints ui
  have ul := ui.length
  have main : ∀ H : Hp, Only H → SqL K H a (ns.map V.int) → HOk P w H s0.heap → (∀ b, H b ≠ none → b = a) → (H a ≠ none → K.lookup a = none) →
      codeAny (model P w) callerA (.call (.ref fa) ⟨[.ref a], []⟩) (fun r s' => r = .ok (.ret (.bool true)) ∧ OldK s0.heap s'.heap ∧ s'.os = s0.os ∧ AllBare s'.gens) s0 := by
    intro H only sq hok ona ka
    have hide : ∀ {b : Addr} {o : Obj}, s0.heap.get? b = some o → H b = none → (hidT s0.heap H).get? b = some o := fun e n => hidT_get e n
    have free : ∀ {b : Addr} {o : Obj} {es : Array DictEntry} {ep : Nat}, s0.heap.get? b = some o → o.data = .dict es ep → H b = none := by
      intro b o es ep e d
      rcases hb : H b with _ | u
      · rfl
      · obtain rfl := ona b (by rw [hb]; simp)
        rw [ea] at e; cases e
        cases (d : Data.seq us.toArray _ = Data.dict es ep)
    have spaces : ∀ {b : Addr} {m : Str → Option Value}, s0.heap.Ns b m → (hidT s0.heap H).Ns b m := by
      rintro b m ⟨o, es, ep, e, d, r⟩
      exact ⟨o, es, ep, hide e (free e d), d, r⟩
    have inB : K.In (hidT s0.heap H) := by
      intro b o e
      refine hide (X0 b o e) ?_
      rcases hb : H b with _ | u
      · rfl
      · obtain rfl := ona b (by rw [hb]; simp)
        rw [ka (by rw [hb]; simp)] at e; cases e
    obtain ⟨mc, c1, c2⟩ := n4
    have md : Mod K mg (hidT s0.heap H) := ⟨inB, spaces n1, ⟨mb, spaces n2, n3⟩, ⟨mc, spaces c1, c2⟩⟩
    have env : Env0 P w K mg (hidT s0.heap H) callerA [] s0 H :=
      ⟨rfl, md, fun b o e => of_hidT e, Nat.le_of_eq (hidT_size _ _), trivial, (fun b hb => by cases hb), hok, .of_eq n5⟩
    have go := (F _ inB (spaces n1)).run callerA [] s0 H ⟨[.ref a], []⟩ [.ref a] [.ref a] _ _ rfl room env (bnd s0 (.ref a)) (.cons rfl .nil) (told H only sq)
    refine codeAny_mono go fun r s' h => ?_
    rcases r with z | fl
    · exact (never H z s' h).elim
    · rcases fl with _ | _ | _ | u
      · exact h.elim
      · exact h.elim
      · exact h.elim
      · obtain ⟨v, H', os, bare, un, hok', rv, rfl⟩ := h
        obtain rfl : u = Value.bool true := rv
        refine ⟨rfl, OldK.of_keep fun b o e => ?_, os, bare⟩
        rcases hb : H b with _ | y
        · exact un.keep b o e hb (by intro z; cases z) (by simp)
        · rcases only b with z | ⟨ob, xs, z⟩
          · rw [hb] at z; cases z
          · obtain ⟨e1, _⟩ := hok b _ z
            obtain ⟨e2, _⟩ := hok' b _ (un.frzs b ob _ z)
            rw [e] at e1; cases e1
            exact e2
  rcases hk : K.lookup a with _ | o
  · have one : ∀ {b : Addr} {u : HO}, (if b = a then some (HO.frz { cls := .type "list", data := .seq us.toArray } (.lst (ns.map V.int))) else none) = some u → b = a := fun {b u} z => by
      by_cases q : b = a
      · exact q
      · rw [if_neg q] at z; cases z
    refine main (fun b => if b = a then some (HO.frz { cls := .type "list", data := .seq us.toArray } (.lst (ns.map V.int))) else none) (fun b => ?_) (.inl (.inr ⟨{ cls := .type "list", data := .seq us.toArray }, if_pos rfl⟩)) (fun b u z => ?_) (fun b z => ?_) fun _ => hk
    · by_cases q : b = a
      · exact .inr ⟨_, _, if_pos q⟩
      · exact .inl (if_neg q)
    · obtain rfl := one z
      have z2 := (if_pos rfl).symm.trans z
      cases z2
      exact ⟨ea, by rw [List.length_map]; exact small, us, _, rel, ea⟩
    · by_cases q : b = a
      · exact q
      · exact absurd (if_neg q) z
  · have e := X0 a o hk
    rw [ea] at e
    cases e
    exact main (fun _ => none) (fun _ => .inl rfl) (.inr ⟨_, us.toArray, _, hk, rfl, rfl, rfl, by rw [List.size_toArray, ul]; exact small, by simpa using rel⟩) (fun b u z => by cases z) (fun b z => absurd rfl z) fun z => absurd rfl z
theorem walkG {l : PySem.W.OpenLaw} {n k : Nat} {q : Program} {loose : List Str} {XP : (Str → Option Value) → Heap → Prop} {YP : World → Heap → Prop} {d : DefRec} {x : Str} (hn : l.most = some n) (hn2 : n ≤ sizeLine) (hdf : d.params.defaults = []) (hr : Room k callerA)
    (F : ∀ (w : World) (mg : Str → Option Value) (fa : Addr) (h : Heap), YP w h → h.Ns mainGlobals mg → mg d.name = some (.ref fa) → ∃ (K : PySem.W.Frag) (fd : FuncData) (sp : Sp), K.In h ∧ (∀ (s : Shared) (u : Value), BindsTo s fd ⟨[u], []⟩ [(x, u)]) ∧
      (∀ (H : Hp) (a : Addr) (ns : List Int), ns.length ≤ n → Only H → SqL K H a (ns.map V.int) → sp [.ref a] H (fun v _ => v = .bl true) fun _ _ _ => False) ∧ ∀ base : Heap, K.In base → base.Ns mainGlobals mg → FnG l.prog w K mg base k fa fd [x] sp) : PySem.W.WalkO q loose XP YP l.row.toRowW d [] (fun f vs => PySem.call f vs) := by
  refine Att.attach_call hn hdf fun w t₀ t₁ mg mb fa ob p1 p2 p3 b us ns G Y g1 g2 g3 g4 g5 g6 g7 g8 => ?_
  obtain ⟨K, fd, sp, KX, hb, hsp, hF⟩ := F w mg fa _ Y G.T.g g4
  exact lawG KX G.T.g G.T.b G.T.builtins G.T.nolimit g8 g5 g6 (Nat.le_trans g7 hn2) hr hF hb (fun H hO hS => hsp H b ns g7 hO hS) fun H e s' h => by
    obtain ⟨_, _, _, _, _, _, _, _, _, _, _, _, z⟩ := h
    exact z.elim
end Cn
set_option Elab.async false
set_option linter.all false
set_option maxRecDepth 100000
set_option maxHeartbeats 2000000
/-! Cn.B17: repr of lists and tuples at every depth. -/
namespace Cn
open PySem PySem.Spec PyProof.Rows L2
/-- data without dicts, of depth n and weight m at most -/
structure GD (n m : Nat) (d : PyData) : Prop where
  sh : d.showable = true
  nd : d.hasDict = false
  ls : d.leavesShort 8 = true
  dp : d.depth ≤ n
  wt : d.weight ≤ m
theorem GD.mono {n m n' m' : Nat} {d : PyData} (h : GD n m d) (a : n ≤ n' := by omega) (b : m ≤ m' := by omega) : GD n' m' d := ⟨h.sh, h.nd, h.ls, Nat.le_trans h.dp a, Nat.le_trans h.wt b⟩
theorem GD.str {t : T} {m : Nat} (hs : ∀ c ∈ t, c < 256) (hl : t.length ≤ m) : GD 0 m (.str (S t)) := by
  refine ⟨by simp [PyData.showable], by simp [PyData.hasDict], ?_, by simp [PyData.depth], ?_⟩
  · simp only [PyData.leavesShort, List.all_eq_true, decide_eq_true_eq]
    intro c hc
    have := hs c hc
    have e : (16 : Nat) ^ 8 = 4294967296 := by decide
    omega
  · simp only [PyData.weight]
    exact hl
theorem GD.bl {b : Bool} {m : Nat} : GD 0 m (.bool b) := ⟨by simp [PyData.showable], by simp [PyData.hasDict], by simp [PyData.leavesShort], by simp [PyData.depth], by simp [PyData.weight]⟩
theorem GD.non {m : Nat} : GD 0 m .none := ⟨by simp [PyData.showable], by simp [PyData.hasDict], by simp [PyData.leavesShort], by simp [PyData.depth], by simp [PyData.weight]⟩
theorem gd_all {n m : Nat} : ∀ {xs : List PyData}, (∀ x ∈ xs, GD n m x) → PyData.showableAll xs = true ∧ PyData.hasDictAll xs = false ∧ PyData.leavesShortAll 8 xs = true ∧ PyData.depthAll xs ≤ n ∧ PyData.weightAll xs ≤ xs.length * (m + 1)
  | [], _ => ⟨by simp [PyData.showableAll], by simp [PyData.hasDictAll], by simp [PyData.leavesShortAll], by simp [PyData.depthAll], by simp [PyData.weightAll]⟩
  | x :: xs, h => by
    have a := h x List.mem_cons_self
    obtain ⟨b1, b2, b3, b4, b5⟩ := gd_all fun y hy => h y (List.mem_cons_of_mem _ hy)
    refine ⟨by simp [PyData.showableAll, a.sh, b1], by simp [PyData.hasDictAll, a.nd, b2], by simp [PyData.leavesShortAll, a.ls, b3], ?_, ?_⟩
    · have := a.dp
      simp only [PyData.depthAll]
      omega
    · have := a.wt
      simp only [PyData.weightAll, List.length_cons, Nat.add_mul]
      omega
theorem GD.tup {n m k : Nat} {xs : List PyData} (h : ∀ x ∈ xs, GD n m x) (hl : xs.length ≤ k) : GD (n + 1) (k * (m + 1)) (.tuple xs) := by
  obtain ⟨b1, b2, b3, b4, b5⟩ := gd_all h
  have := Nat.mul_le_mul_right (m + 1) hl
  exact ⟨by simpa [PyData.showable] using b1, by simpa [PyData.hasDict] using b2, by simpa [PyData.leavesShort] using b3, by simp only [PyData.depth]; omega, by simp only [PyData.weight]; omega⟩
theorem GD.lst {n m k : Nat} {xs : List PyData} (h : ∀ x ∈ xs, GD n m x) (hl : xs.length ≤ k) : GD (n + 1) (k * (m + 1)) (.list xs) := by
  obtain ⟨b1, b2, b3, b4, b5⟩ := gd_all h
  have := Nat.mul_le_mul_right (m + 1) hl
  exact ⟨by simpa [PyData.showable] using b1, by simpa [PyData.hasDict] using b2, by simpa [PyData.leavesShort] using b3, by simp only [PyData.depth]; omega, by simp only [PyData.weight]; omega⟩
theorem dpAll_of {K : PySem.W.Frag} {H : Hp} {α : Type} {R : V → α → Prop} {f : α → PyData} (hR : ∀ v x, R v x → Dp K H v (f x)) : ∀ {vs : List V} {xs : List α}, Each R vs xs → DpAll K H vs (xs.map f)
  | [], [], _ => .nil
  | [], _ :: _, h => by have := h.1; simp at this
  | _ :: _, [], h => by have := h.1; simp at this
  | v :: vs, x :: xs, h => .cons (hR _ _ (h.2 0 v x rfl rfl)) (dpAll_of hR ⟨by have := h.1; simpa using this, fun i a b p q => h.2 (i + 1) a b (by simpa using p) (by simpa using q)⟩)
theorem dp_svs {K : PySem.W.Frag} {H : Hp} : ∀ ts : List T, DpAll K H (svs ts) (ts.map fun t => .str (S t))
  | [] => .nil
  | t :: r => .cons (.str _) (dp_svs r)
def rRepr (K : PySem.W.Frag) : List V → Hp → VK → Prop := fun xs H Q => ∃ (a : Addr) (n m : Nat) (d : PyData), xs = [.ref a] ∧ Dp K H (.ref a) d ∧ GD n m d ∧ n ≤ 20 ∧ m ≤ 1000000 ∧ Q (.str d.shown) H
theorem call_repr_deep {X : Cx} (K : PySem.W.Frag) (hK : X.K = K) (hg : X.A.guards = some []) (hu : X.A.units + 64 < cLine) : CallR X (.builtin "repr") (rRepr K) := by
  subst hK
  intro pins s σ H xs us Q I r h
  obtain ⟨a, n, m, d, rfl, hd, g, hn, hm, q⟩ := h
  obtain ⟨u, rfl, ru⟩ := vals1 r
  cases (show u = Value.ref a from ru)
  obtain ⟨as, ra⟩ := Dp.reads I d _ _ hd ru
  refine repr_of_reads' (prog := X.prog) (w := X.w) ra g.sh (fun z => by rw [g.nd] at z; cases z) hg (by have := g.dp; omega) (fun b o e => e) (fun h' u tk hk => ⟨.str d.shown, H, I.kept hk, ⟨_, rfl⟩, q⟩) ?_
  exact PyData.shown_fits (B := 8) (by decide) (by decide) g.ls (Nat.le_trans g.wt (Nat.le_trans hm (by decide)))
end Cn
set_option Elab.async false
set_option linter.all false
set_option maxRecDepth 100000
set_option maxHeartbeats 2000000
/-! Cn.M9: the data of tables. -/
namespace Cn
open PySem PySem.Spec PyProof.Rows L2
def strD (t : T) : PyData := .str (S t)
def keyD (k : List T) : PyData := .tuple (k.map strD)
def refD (r : List T × T × Bool) : PyData := .tuple [.tuple (r.1.map strD), strD r.2.1, .bool r.2.2]
def tblD (t : Tbl) : PyData := .tuple [strD t.name, .tuple (t.cols.map strD), .tuple (t.keys.map keyD), .tuple (t.refs.map refD)]
section
variable {K : PySem.W.Frag} {H : Hp}
theorem KeyR.dp {v : V} {k : List T} (h : KeyR H v k) : Dp K H v (keyD k) := by
  obtain ⟨a, rfl, e⟩ := h
  exact .tup (SqT.of e) (dp_svs k)
theorem RefR.dp {v : V} {r : List T × T × Bool} (h : RefR H v r) : Dp K H v (refD r) := by
  obtain ⟨a, c, rfl, e, e2⟩ := h
  exact .tup (SqT.of e) (.cons (.tup (SqT.of e2) (dp_svs r.1)) (.cons (.str _) (.cons (.bl _) .nil)))
/-- what stands for the parts of a table -/
structure PartR (H : Hp) (ca ua ra : Addr) (t : Tbl) : Prop where
  cols : H ca = some (.tup (svs t.cols))
  keys : ∃ uk, H ua = some (.tup uk) ∧ Each (KeyR H) uk t.keys
  refs : ∃ rk, H ra = some (.tup rk) ∧ Each (RefR H) rk t.refs
theorem PartR.dp {a ca ua ra : Addr} {t : Tbl} (p : PartR H ca ua ra t) (e : H a = some (.tup [sv t.name, .ref ca, .ref ua, .ref ra])) : Dp K H (.ref a) (tblD t) := by
  obtain ⟨h1, ⟨uk, h2, h3⟩, ⟨rk, h4, h5⟩⟩ := p
  exact .tup (SqT.of e) (.cons (.str _) (.cons (.tup (SqT.of h1) (dp_svs t.cols)) (.cons (.tup (SqT.of h2) (dpAll_of (fun _ _ z => z.dp) h3)) (.cons (.tup (SqT.of h4) (dpAll_of (fun _ _ z => z.dp) h5)) .nil))))
theorem TblR.parts {CT : Addr} {v : V} {t : Tbl} (h : TblR CT H v t) : ∃ a dx ca ua ra, v = .ref a ∧ H a = some (.ins CT dx (tf t.name ca ua ra)) ∧ PartR H ca ua ra t := by
  obtain ⟨a, dx, ca, ua, ra, ks, rs, e, h1, h2, h3, h4, h5, h6⟩ := h
  exact ⟨a, dx, ca, ua, ra, e, h1, h2, ⟨ks, h3, h4⟩, ⟨rs, h5, h6⟩⟩
theorem PartR.fix {CR : Addr} {H' : Hp} (f : Fix CR H H') {ca ua ra : Addr} {t : Tbl} (p : PartR H ca ua ra t) : PartR H' ca ua ra t := by
  obtain ⟨h1, ⟨uk, h2, h3⟩, ⟨rk, h4, h5⟩⟩ := p
  exact ⟨f _ _ h1 trivial, ⟨uk, f _ _ h2 trivial, h3.mono fun _ _ z => z.fix f⟩, ⟨rk, f _ _ h4 trivial, h5.mono fun _ _ z => z.fix f⟩⟩
end
theorem name_small {w : T} (h : isName w = true) : (∀ c ∈ w, c < 256) ∧ w.length ≤ 8 := by
  unfold isName at h
  simp only [Bool.and_eq_true, decide_eq_true_eq] at h
  obtain ⟨_, h8, ha⟩ := h
  refine ⟨fun c hc => ?_, h8⟩
  have := List.all_eq_true.mp ha c hc
  simp only [Bool.and_eq_true, decide_eq_true_eq] at this
  omega
theorem strs_gd {k : Nat} {ts : List T} (h : ∀ c ∈ ts, isName c = true) (hl : ts.length ≤ k) : GD 1 (k * 9) (.tuple (ts.map strD)) := by
  refine GD.tup (m := 8) (fun x hx => ?_) (by rw [List.length_map]; exact hl)
  obtain ⟨c, hc, rfl⟩ := List.mem_map.mp hx
  have := name_small (h c hc)
  exact GD.str this.1 this.2
theorem tbl_gd {above : List Tbl} {t : Tbl} (ok : OkT above t) (wf : WfT t) : GD 4 684 (tblD t) := by
  have nn : ∀ c ∈ t.cols, isName c = true := ok.colsN
  have g1 : GD 0 8 (strD t.name) := GD.str (name_small ok.name).1 (name_small ok.name).2
  have g2 : GD 1 45 (.tuple (t.cols.map strD)) := strs_gd nn ok.cols5
  have g3 : GD 2 84 (.tuple (t.keys.map keyD)) := GD.tup (n := 1) (m := 27) (k := 3) (fun x hx => by
    obtain ⟨k, hk, rfl⟩ := List.mem_map.mp hx
    have := ok.keysK k hk
    exact strs_gd (k := 3) (fun c hc => nn c (diff_sub this.2.2 c hc)) this.2.1) (by rw [List.length_map]; exact ok.keys3)
  have g4 : GD 3 170 (.tuple (t.refs.map refD)) := GD.tup (n := 2) (m := 84) (k := 2) (fun x hx => by
    obtain ⟨r, hr, rfl⟩ := List.mem_map.mp hx
    have rr := ok.refsR r hr
    have rl := (wf.ref r hr).1
    refine GD.tup (n := 1) (m := 27) (k := 3) (fun y hy => ?_) (by simp)
    simp only [List.mem_cons, List.not_mem_nil, or_false] at hy
    rcases hy with rfl | rfl | rfl
    · exact strs_gd (k := 3) (fun c hc => nn c (diff_sub rr.diff c hc)) rl
    · exact (GD.str (m := 8) (name_small rr.names).1 (name_small rr.names).2).mono
    · exact (GD.bl (m := 0)).mono) (by rw [List.length_map]; exact ok.refs2)
  refine GD.tup (n := 3) (m := 170) (k := 4) (fun y hy => ?_) (by simp)
  simp only [List.mem_cons, List.not_mem_nil, or_false] at hy
  rcases hy with rfl | rfl | rfl | rfl
  · exact g1.mono
  · exact g2.mono
  · exact g3.mono
  · exact g4.mono
theorem okTs_at : ∀ {above ts : List Tbl}, OkTs above ts → ∀ t ∈ ts, ∃ ab, OkT ab t := fun {above ts} h => by
  induction h with
  | nil => intro t ht; cases ht
  | cons o _ ih =>
    intro t ht
    rcases List.mem_cons.mp ht with z | z
    · rw [z]; exact ⟨_, o⟩
    · exact ih t z
theorem tabs_gd {ts : List Tbl} (ok : OkTs [] ts) (l5 : ts.length ≤ 5) (wf : ∀ t ∈ ts, WfT t) : GD 5 3425 (.list (ts.map tblD)) := GD.lst (n := 4) (m := 684) (k := 5) (fun x hx => by
  obtain ⟨t, ht, rfl⟩ := List.mem_map.mp hx
  obtain ⟨ab, o⟩ := okTs_at ok t ht
  exact tbl_gd o (wf t ht)) (by rw [List.length_map]; exact l5)
end Cn
set_option Elab.async false
set_option linter.all false
set_option maxRecDepth 100000
set_option maxHeartbeats 2000000
/-! Cn.M11: texts of schemas that are cut, doubled or turned. -/
namespace Cn
open PySem L2
def bodyRows (t : Tbl) : List T := [kTable ++ t.name] ++ (t.cols.map (fun c => kColumn ++ c) ++ (t.keys.map (fun k => kKey ++ joinT [32] k) ++ t.refs.map refRow))
theorem rows_body (t : Tbl) : tableRows t = bodyRows t ++ [kEnd] := by unfold tableRows bodyRows; simp
/-- what stands behind a table's rows begins as none of them -/
structure Behind (post : List T) : Prop where
  c : NotB kColumn post
  k : NotB kKey post
  r : NotB kRef post
  o : NotB kOpt post
theorem Behind.nil : Behind [] := ⟨(fun r h => by cases h), (fun r h => by cases h), (fun r h => by cases h), (fun r h => by cases h)⟩
theorem Behind.fin {post : List T} : Behind (kEnd :: post) := ⟨(fun r h => by cases h; decide), (fun r h => by cases h; decide), (fun r h => by cases h; decide), (fun r h => by cases h; decide)⟩
theorem refs_head {refs : List (List T × T × Bool)} {post : List T} (b : Behind post) (h : ∀ r ∈ refs, r.1 ≠ []) : NotB kColumn (refs.map refRow ++ post) ∧ NotB kKey (refs.map refRow ++ post) := by
  cases refs with
  | nil => exact ⟨b.c, b.k⟩
  | cons r rest =>
    have z := refRow_head r (h r List.mem_cons_self)
    exact ⟨fun x hx => by cases hx; exact z.1, fun x hx => by cases hx; exact z.2⟩
theorem keys_head {t : Tbl} {post : List T} (b : NotB kColumn post) (h0 : t.keys ≠ []) : NotB kColumn (t.keys.map (fun k => kKey ++ joinT [32] k) ++ post) := by
  cases q : t.keys with
  | nil => exact absurd q h0
  | cons k r => intro x hx; cases hx; rfl
/-- the columns and keys of an allowed table are read -/
theorem table_cols {L post : List T} {n : Nat} {above : List Tbl} {t : Tbl} (ok : OkT above t) (b : NotB kColumn post) (bk : NotB kKey post) (h : L.drop n = (kTable ++ t.name) :: (t.cols.map (fun c => kColumn ++ c) ++ (t.keys.map (fun k => kKey ++ joinT [32] k) ++ post))) :
    newName L n kTable (above.map (·.name)) = .ok t.name ∧ colsLoop L 6 (n + 1) [] = .ok (t.cols, n + 1 + t.cols.length) ∧ keysLoop L t.cols 4 (n + 1 + t.cols.length) [] = .ok (t.keys, n + 1 + t.cols.length + t.keys.length) ∧ L.drop (n + 1 + t.cols.length + t.keys.length) = post := by
  have e1 := (drop_at h).2
  have c := cols_rt t.cols 6 (n + 1) [] e1 (keys_head b ok.keys0) ok.colsN (by simpa using ok.colsD) (by simpa using ok.cols5) (by simpa using ok.cols0) rfl
  have e2 : L.drop (n + 1 + t.cols.length) = t.keys.map (fun k => kKey ++ joinT [32] k) ++ post := by
    rw [← List.drop_drop, e1, show t.cols.length = (t.cols.map (fun c => kColumn ++ c)).length by simp, List.drop_left]
  have k := keys_rt ok.colsN t.keys 4 (n + 1 + t.cols.length) [] e2 bk ok.keysK (by simpa using ok.keysP) (by simpa using ok.keys3) (by simpa using ok.keys0) rfl
  have e3 : L.drop (n + 1 + t.cols.length + t.keys.length) = post := by
    rw [← List.drop_drop, e2, show t.keys.length = (t.keys.map (fun k => kKey ++ joinT [32] k)).length by simp, List.drop_left]
  exact ⟨name_at h ok.name ok.new, by simpa using c, by simpa using k, e3⟩
/-- a table without its end -/
theorem table_open {L : List T} {n : Nat} {above : List Tbl} {t : Tbl} (ok : OkT above t) (h : L.drop n = bodyRows t) (hn : n ≤ L.length) : readTable L n above = .error L.length := by
  have hr : ∀ r ∈ t.refs, r.1 ≠ [] := fun r hr => (ok.refsR r hr).ne
  have hd := refs_head Behind.nil hr
  rw [List.append_nil] at hd
  obtain ⟨en, c, k, e3⟩ := table_cols (post := t.refs.map refRow) ok hd.1 hd.2 (by rw [h]; unfold bodyRows; simp)
  have r := refs_rt (L := L) (post := []) (t := ⟨t.name, t.cols, t.keys, []⟩) (above := above) ok.colsN t.refs 3 (n + 1 + t.cols.length + t.keys.length) [] (by rw [e3]; simp) Behind.nil.r Behind.nil.o ok.refsR (by simpa using ok.refsP) (by simpa using ok.refs2) rfl
  have ll : n + 1 + t.cols.length + t.keys.length + t.refs.length = L.length := by
    have z : (L.drop n).length = (bodyRows t).length := by rw [h]
    rw [List.length_drop] at z
    unfold bodyRows at z
    simp at z
    omega
  have ex : exactly L (n + 1 + t.cols.length + t.keys.length + t.refs.length) kEnd = false := by
    unfold exactly
    rw [ll, List.getElem?_eq_none (Nat.le_refl _)]; rfl
  rw [List.nil_append] at r
  unfold readTable
  rw [ll] at r ex
  simp only [en, ok.room, if_true, c, k, r]
  rw [ex, if_neg Bool.false_ne_true]
theorem tables_cut {L : List T} : ∀ (ts : List Tbl) (f n : Nat) (acc : List Tbl), OkTs acc ts → ts ≠ [] → L.drop n = (ts.flatMap tableRows).dropLast → n ≤ L.length → ts.length < f → tablesLoop L f n acc = .error L.length
  | [], _, _, _, _, h, _, _, _ => absurd rfl h
  | [t], f, n, acc, ok, _, hL, hn, hf => by
    obtain ⟨f, rfl⟩ : ∃ g, f = g + 1 := ⟨f - 1, by omega⟩
    cases ok with
    | cons o1 _ =>
      have e : L.drop n = bodyRows t := by
        rw [hL, List.flatMap_cons, List.flatMap_nil, List.append_nil, rows_body, List.dropLast_concat]
      have r := table_open o1 e hn
      have ne : n ≠ L.length := fun z => by
        have : (L.drop n).length = 0 := by rw [List.length_drop]; omega
        rw [e] at this
        unfold bodyRows at this
        simp at this
      have eb : (acc.isEmpty || !(n == L.length)) = true := by rw [beq_eq_false_iff_ne.mpr ne]; simp
      unfold tablesLoop
      rw [eb, if_pos rfl, r]
  | t :: t2 :: ts, f, n, acc, ok, _, hL, hn, hf => by
    obtain ⟨f, rfl⟩ : ∃ g, f = g + 1 := ⟨f - 1, by omega⟩
    cases ok with
    | cons o1 o2 =>
      have nx : (t2 :: ts).flatMap tableRows ≠ [] := by rw [List.flatMap_cons, rows_body]; simp
      have hL2 : L.drop n = tableRows t ++ ((t2 :: ts).flatMap tableRows).dropLast := by
        rw [hL, List.flatMap_cons, List.dropLast_append_of_ne_nil nx]
      obtain ⟨r1, r2⟩ := table_rt o1 hL2
      have ne : n ≠ L.length := fun z => by
        have : (L.drop n).length = 0 := by rw [List.length_drop]; omega
        rw [hL2] at this
        unfold tableRows at this
        simp at this
      have nl : n + (tableRows t).length ≤ L.length := by
        have : (L.drop n).length = (tableRows t).length + ((t2 :: ts).flatMap tableRows).dropLast.length := by rw [hL2, List.length_append]
        rw [List.length_drop] at this
        omega
      have ih := tables_cut (t2 :: ts) f _ (acc ++ [t]) o2 (by simp) r2 nl (by simp at hf ⊢; omega)
      have eb : (acc.isEmpty || !(n == L.length)) = true := by rw [beq_eq_false_iff_ne.mpr ne]; simp
      unfold tablesLoop
      rw [eb, if_pos rfl, r1]
      exact ih
/-- without its last row -/
theorem parse_cut {ts : List Tbl} (ok : OkTs [] ts) (h0 : ts ≠ []) (h5 : ts.length ≤ 5) : parseRows (ts.flatMap tableRows).dropLast = .error ((ts.flatMap tableRows).length - 1) := by
  unfold parseRows
  rw [tables_cut ts 6 0 [] ok h0 (by simp) (Nat.zero_le _) (by omega), List.length_dropLast]
theorem tables_more {L post : List T} {nm : T} (hn : isName nm = true) : ∀ (ts : List Tbl) (f n : Nat) (acc : List Tbl), OkTs acc ts → L.drop n = ts.flatMap tableRows ++ ((kTable ++ nm) :: post) → nm ∈ (acc ++ ts).map (·.name) → ts.length < f → tablesLoop L f n acc = .error (n + (ts.flatMap tableRows).length)
  | [], f, n, acc, _, hL, hm, hf => by
    obtain ⟨f, rfl⟩ : ∃ g, f = g + 1 := ⟨f - 1, by omega⟩
    have hL : L.drop n = (kTable ++ nm) :: post := by simpa using hL
    have ne : n ≠ L.length := fun z => by
      have : (L.drop n).length = 0 := by rw [List.length_drop]; omega
      rw [hL] at this
      simp at this
    have eb : (acc.isEmpty || !(n == L.length)) = true := by rw [beq_eq_false_iff_ne.mpr ne]; simp
    have w := words_at hL
    rw [splitC_one 32 nm (name_signs hn).1] at w
    have hm : (acc.map (·.name)).contains nm = true := List.contains_iff_mem.mpr (by simpa using hm)
    have en : newName L n kTable (acc.map (·.name)) = .error n := by
      unfold newName
      rw [w]
      show (if (true && (isName nm && !(acc.map (·.name)).contains nm)) = true then Except.ok nm else Except.error n) = _
      rw [hm, Bool.not_true, Bool.and_false, Bool.and_false, if_neg Bool.false_ne_true]
    unfold tablesLoop
    rw [eb, if_pos rfl]
    unfold readTable
    rw [en]
    rfl
  | t :: ts, f, n, acc, ok, hL, hm, hf => by
    obtain ⟨f, rfl⟩ : ∃ g, f = g + 1 := ⟨f - 1, by omega⟩
    cases ok with
    | cons o1 o2 =>
      have hL2 : L.drop n = tableRows t ++ (ts.flatMap tableRows ++ ((kTable ++ nm) :: post)) := by rw [hL, List.flatMap_cons, List.append_assoc]
      obtain ⟨r1, r2⟩ := table_rt o1 hL2
      have ne : n ≠ L.length := fun z => by
        have : (L.drop n).length = 0 := by rw [List.length_drop]; omega
        rw [hL2] at this
        unfold tableRows at this
        simp at this
      have e2 : acc ++ [t] ++ ts = acc ++ t :: ts := by simp
      have ih := tables_more hn ts f (n + (tableRows t).length) (acc ++ [t]) o2 r2 (by rw [e2]; exact hm) (by simp at hf; omega)
      have eb : (acc.isEmpty || !(n == L.length)) = true := by rw [beq_eq_false_iff_ne.mpr ne]; simp
      unfold tablesLoop
      rw [eb, if_pos rfl, r1]
      show tablesLoop L f (n + (tableRows t).length) (acc ++ [t]) = _
      rw [ih, List.flatMap_cons, List.length_append, Nat.add_assoc]
/-- the whole text twice -/
theorem parse_twice {ts : List Tbl} (ok : OkTs [] ts) (h0 : ts ≠ []) (h5 : ts.length ≤ 5) : parseRows (ts.flatMap tableRows ++ ts.flatMap tableRows) = .error (ts.flatMap tableRows).length := by
  obtain ⟨t, r, rfl⟩ : ∃ t r, ts = t :: r := by
    cases ts with
    | nil => exact absurd rfl h0
    | cons t r => exact ⟨t, r, rfl⟩
  have nm : isName t.name = true := by cases ok with | cons o _ => exact o.name
  have e : (t :: r).flatMap tableRows = (kTable ++ t.name) :: ((tableRows t).tail ++ r.flatMap tableRows) := by rw [List.flatMap_cons]; unfold tableRows; simp
  unfold parseRows
  rw [tables_more nm (t :: r) 6 0 [] ok (post := (tableRows t).tail ++ r.flatMap tableRows) (by rw [List.drop_zero, ← e]) (by simp) (by omega), Nat.zero_add]
/-- a reference to a table that is not there -/
theorem ref_none {L rest : List T} {n : Nat} {t : Tbl} {r : List T × T × Bool} (h : L.drop n = refRow r :: rest) (h0 : r.1 ≠ []) (hc : ∀ c ∈ r.1, 32 ∉ c) (hn : 32 ∉ r.2.1) (ne : r.2.1 ≠ t.name) : readRef L n t [] = .error n := by
  rw [refRow_eq r h0] at h
  have w : ∀ req, r.2.2 = req → begins L n kRef = req ∧ words L n (refStart req) = some (r.1 ++ [kArrow, r.2.1]) := fun req q => by
    rw [q] at h
    have sp : splitC 32 (joinT [32] (r.1 ++ [kArrow, r.2.1])) = r.1 ++ [kArrow, r.2.1] := split_words _ (by simp) fun c hc2 => by
      rcases List.mem_append.mp hc2 with z | z
      · exact hc c z
      · rcases List.mem_cons.mp z with z | z
        · rw [z]; decide
        · rw [List.mem_singleton.mp z]; exact hn
    cases req with
    | true => exact ⟨begins_yes (st := kRef) h, by rw [words_at (st := refStart true) h, sp]⟩
    | false =>
      refine ⟨?_, by rw [words_at (st := refStart false) h, sp]⟩
      unfold begins
      rw [(drop_at h).1]
      exact opt_no _
  obtain ⟨b1, b2⟩ := w r.2.2 rfl
  have fi : fits (foundIn r.2.2 t [] r.2.1) r.1 = false := by
    have e : foundIn r.2.2 t [] r.2.1 = [] := by
      unfold foundIn targets
      cases r.2.2 with
      | true => rfl
      | false =>
        rw [if_neg Bool.false_ne_true, List.nil_append, List.filter_cons, if_neg (fun z => ne (eq_of_beq z).symm)]
        rfl
    rw [e]; rfl
  obtain ⟨g1, g2, g3⟩ := getD_two (ks := r.1) (a := kArrow) (b := r.2.1)
  unfold readRef
  rw [b1, b2]
  simp only [g1, g2, g3, fi]
  split <;> simp
theorem refs_stop {L post : List T} {t : Tbl} {b : List T × T × Bool} (hcols : ∀ c ∈ t.cols, isName c = true) (hb : ∀ m, L.drop m = refRow b :: post → readRef L m t [] = .error m) : ∀ (rest : List (List T × T × Bool)) (f n : Nat) (acc : List (List T × T × Bool)), L.drop n = rest.map refRow ++ (refRow b :: post) → b.1 ≠ [] → (∀ r ∈ rest, OkR t [] r) →
    (acc ++ rest).Pairwise (fun a b => ∀ c ∈ b.1, c ∉ a.1) → (acc ++ rest).length ≤ 2 → rest.length < f → refsLoop L t [] f n acc = .error (n + rest.length)
  | [], f, n, acc, hL, h0, _, _, _, hf => by
    obtain ⟨f, rfl⟩ : ∃ g, f = g + 1 := ⟨f - 1, by omega⟩
    have hL : L.drop n = refRow b :: post := by simpa using hL
    have bg : (begins L n kRef || begins L n kOpt) = true := by
      have h := hL
      rw [refRow_eq b h0] at h
      cases q : b.2.2 with
      | true => rw [q] at h; rw [begins_yes (st := kRef) h]; rfl
      | false => rw [q] at h; rw [begins_yes (st := kOpt) h, Bool.or_true]
    unfold refsLoop
    rw [bg, if_pos rfl, hb n hL]
    rfl
  | r :: rest, f, n, acc, hL, h0, hr, hp, h2, hf => by
    obtain ⟨f, rfl⟩ : ∃ g, f = g + 1 := ⟨f - 1, by omega⟩
    have okr := hr r List.mem_cons_self
    have hL : L.drop n = refRow r :: (rest.map refRow ++ (refRow b :: post)) := by simpa using hL
    have ra := ref_at hcols hL okr
    have e2 : acc ++ [r] ++ rest = acc ++ r :: rest := by simp
    have ih := refs_stop hcols hb rest f (n + 1) (acc ++ [r]) (drop_at hL).2 h0 (fun x hx => hr x (List.mem_cons_of_mem _ hx)) (by rw [e2]; exact hp) (by rw [e2]; exact h2) (by simp at hf; omega)
    have nt : (r.1.any fun c => (acc.flatMap (·.1)).contains c) = false := by
      refine Bool.eq_false_iff.mpr fun z => ?_
      obtain ⟨c, hc, hm⟩ := List.any_eq_true.mp z
      obtain ⟨a, ha, hca⟩ := List.mem_flatMap.mp (List.contains_iff_mem.mp hm)
      exact (List.pairwise_append.mp hp).2.2 a ha r List.mem_cons_self c hc hca
    have al : acc.length + 1 ≤ 2 := by
      rw [List.length_append, List.length_cons] at h2
      omega
    unfold refsLoop
    rw [ra.1, if_pos rfl, ra.2]
    show (if (r.1.any fun c => (acc.flatMap (·.1)).contains c) = true then Except.error n else if acc.length + 1 ≤ 2 then refsLoop L t [] f (n + 1) (acc ++ [r]) else Except.error n) = _
    rw [nt, if_neg Bool.false_ne_true, if_pos al, ih, List.length_cons]
    congr 1
    omega
end Cn
set_option Elab.async false
set_option linter.all false
set_option maxRecDepth 100000
set_option maxHeartbeats 2000000
/-! Cn.M14: the reader of a schema's rows, row by row. -/
namespace Cn
open PySem L2
/-- a row's name behind a start -/
def nameOf (r st : T) (taken : List T) : Option T := match newName [r] 0 st taken with
  | .ok w => some w
  | .error _ => none
def refOf (r : T) (t : Tbl) (above : List Tbl) : Option (List T × T × Bool) := match readRef [r] 0 t above with
  | .ok x => some x
  | .error _ => none
/-- a row for a key -/
def keyOf (r : T) (t : Tbl) : Option (List T) := match words [r] 0 kKey with
  | none => none
  | some k => if (decide (k.length ≤ 3) && areDiff k t.cols) && (!(t.keys.any fun o => hasAll k o || hasAll o k) && decide (t.keys.length + 1 ≤ 3)) then some k else none
/-- one row more -/
def step (above : List Tbl) (r : T) : Option Tbl → Option (List Tbl × Option Tbl)
  | none => (nameOf r kTable (above.map (·.name))).bind fun w => if above.length < 5 then some (above, some ⟨w, [], [], []⟩) else none
  | some t =>
    if t.keys.isEmpty && (t.cols.isEmpty || isPre kColumn r) then (nameOf r kColumn t.cols).bind fun w => if t.cols.length + 1 ≤ 5 then some (above, some ⟨t.name, t.cols ++ [w], [], []⟩) else none
    else if t.refs.isEmpty && (t.keys.isEmpty || isPre kKey r) then (keyOf r t).bind fun k => some (above, some ⟨t.name, t.cols, t.keys ++ [k], []⟩)
    else if isPre kRef r || isPre kOpt r then (refOf r ⟨t.name, t.cols, t.keys, []⟩ above).bind fun x =>
      if (x.1.any fun c => (t.refs.flatMap (·.1)).contains c) = true then none else if t.refs.length + 1 ≤ 2 then some (above, some ⟨t.name, t.cols, t.keys, t.refs ++ [x]⟩) else none
    else if r == kEnd then some (above ++ [t], none) else none
/-- the rows from number n on -/
def rd : List T → Nat → List Tbl → Option Tbl → Except Nat (List Tbl)
  | [], _, above, none => .ok above
  | [], n, _, some _ => .error n
  | r :: rest, n, above, cur => match step above r cur with
    | none => .error n
    | some (a, c) => rd rest (n + 1) a c
section
variable {L : List T} {n : Nat} {r : T}
theorem begins_at (h : L[n]? = some r) (st : T) : begins L n st = isPre st r := by unfold begins; rw [h]
theorem words_at1 (h : L[n]? = some r) (st : T) : words L n st = words [r] 0 st := by unfold words; rw [h]; rfl
theorem begins_non (h : L[n]? = none) (st : T) : begins L n st = false := by unfold begins; rw [h]
theorem words_no (h : L[n]? = none) (st : T) : words L n st = none := by unfold words; rw [h]
theorem name_row (h : L[n]? = some r) (st : T) (taken : List T) : newName L n st taken = match nameOf r st taken with
    | some w => .ok w
    | none => .error n := by
  unfold nameOf newName
  rw [words_at1 h]
  cases words [r] 0 st with
  | none => rfl
  | some ws =>
    dsimp only
    split <;> rfl
theorem ref_row (h : L[n]? = some r) (t : Tbl) (above : List Tbl) : readRef L n t above = match refOf r t above with
    | some x => .ok x
    | none => .error n := by
  unfold refOf readRef
  rw [begins_at h, begins_at (L := [r]) (n := 0) (r := r) rfl, words_at1 h]
  cases words [r] 0 (refStart (isPre kRef r)) with
  | none => rfl
  | some ws =>
    dsimp only
    split
    · split
      · split
        · split <;> rfl
        · rfl
      · rfl
    · rfl
theorem drop_some (h : L[n]? = some r) : L.drop n = r :: L.drop (n + 1) := by
  obtain ⟨hl, rfl⟩ := List.getElem?_eq_some_iff.mp h
  exact List.drop_eq_getElem_cons hl
theorem drop_none (h : L[n]? = none) : L.drop n = [] := List.drop_eq_nil_of_le (List.getElem?_eq_none_iff.mp h)
end
section
variable {L : List T}
def fin (L : List T) (f : Nat) (ab : List Tbl) (t : Tbl) : Except Nat (List (List T × T × Bool) × Nat) → Except Nat (List Tbl × Nat)
  | .error e => .error e
  | .ok (refs, n3) => if exactly L n3 kEnd then tablesLoop L f (n3 + 1) (ab ++ [⟨t.name, t.cols, t.keys, refs⟩]) else .error n3
def lift (L : List T) : Except Nat (List Tbl) → Except Nat (List Tbl × Nat)
  | .ok ts => .ok (ts, L.length)
  | .error e => .error e
theorem refs_rd {f0 : Nat} {ab : List Tbl} (A : ∀ t n, n ≤ L.length → tablesLoop L f0 n (ab ++ [t]) = lift L (rd (L.drop n) n (ab ++ [t]) none)) (t : Tbl) (hk : t.keys ≠ []) : ∀ (f n : Nat) (acc : List (List T × T × Bool)), 3 ≤ f + acc.length → acc.length ≤ 2 →
    (acc = [] → ∀ r, L[n]? = some r → isPre kKey r = false) → fin L f0 ab t (refsLoop L ⟨t.name, t.cols, t.keys, []⟩ ab f n acc) = lift L (rd (L.drop n) n ab (some ⟨t.name, t.cols, t.keys, acc⟩))
  | 0, n, acc, hf, h2, hb => by omega
  | f + 1, n, acc, hf, h2, hb => by
    have k0 : t.keys.isEmpty = false := by cases h : t.keys with
      | nil => exact absurd h hk
      | cons a r => rfl
    cases h : L[n]? with
    | none =>
      rw [drop_none h]
      unfold refsLoop
      rw [begins_non h, begins_non h]
      show (if exactly L n kEnd then _ else _) = _
      have : exactly L n kEnd = false := by unfold exactly; rw [h]; rfl
      rw [this]; rfl
    | some r =>
      rw [drop_some h]
      unfold refsLoop rd
      rw [begins_at h, begins_at h, ref_row h]
      have st : step ab r (some ⟨t.name, t.cols, t.keys, acc⟩) = if (isPre kRef r || isPre kOpt r) = true then (refOf r ⟨t.name, t.cols, t.keys, []⟩ ab).bind fun x =>
          if (x.1.any fun c => (acc.flatMap (·.1)).contains c) = true then none else if acc.length + 1 ≤ 2 then some (ab, some ⟨t.name, t.cols, t.keys, acc ++ [x]⟩) else none
          else if r == kEnd then some (ab ++ [⟨t.name, t.cols, t.keys, acc⟩], none) else none := by
        unfold step
        dsimp only
        rw [k0, Bool.false_and, if_neg Bool.false_ne_true, Bool.false_or]
        by_cases ha : acc = []
        · subst ha
          rw [hb rfl r h, Bool.and_false, if_neg Bool.false_ne_true]
        · have : acc.isEmpty = false := by cases q : acc with
            | nil => exact absurd q ha
            | cons a r => rfl
          rw [this, Bool.false_and, if_neg Bool.false_ne_true]
      rw [st]
      by_cases hr : (isPre kRef r || isPre kOpt r) = true
      · rw [if_pos hr, if_pos hr]
        cases hx : refOf r ⟨t.name, t.cols, t.keys, []⟩ ab with
        | none => rfl
        | some x =>
          dsimp only [Option.bind]
          by_cases hc : (x.1.any fun c => (acc.flatMap (·.1)).contains c) = true
          · rw [if_pos hc, if_pos hc]; rfl
          · rw [if_neg hc, if_neg hc]
            by_cases hl : acc.length + 1 ≤ 2
            · rw [if_pos hl, if_pos hl]
              exact refs_rd A t hk f (n + 1) (acc ++ [x]) (by simp; omega) (by simp; omega) (fun z => by simp at z)
            · rw [if_neg hl, if_neg hl]; rfl
      · rw [if_neg hr, if_neg hr]
        show (if exactly L n kEnd then _ else _) = _
        have e : exactly L n kEnd = (r == kEnd) := by
          unfold exactly
          rw [h]; rfl
        rw [e]
        by_cases hq : (r == kEnd) = true
        · rw [if_pos hq, if_pos hq]
          exact A _ _ (by have := (List.getElem?_eq_some_iff.mp h).1; omega)
        · rw [if_neg hq, if_neg hq]; rfl
theorem keys_rd {f0 : Nat} {ab : List Tbl} (A : ∀ t n, n ≤ L.length → tablesLoop L f0 n (ab ++ [t]) = lift L (rd (L.drop n) n (ab ++ [t]) none)) (t : Tbl) (hc : t.cols ≠ []) : ∀ (f n : Nat) (acc : List (List T)), 4 ≤ f + acc.length → acc.length ≤ 3 →
    (acc = [] → ∀ r, L[n]? = some r → isPre kColumn r = false) → (match keysLoop L t.cols f n acc with
      | .error e => .error e
      | .ok (keys, n2) => fin L f0 ab ⟨t.name, t.cols, keys, []⟩ (refsLoop L ⟨t.name, t.cols, keys, []⟩ ab 3 n2 [])) = lift L (rd (L.drop n) n ab (some ⟨t.name, t.cols, acc, []⟩))
  | 0, n, acc, hf, h2, hb => by omega
  | f + 1, n, acc, hf, h2, hb => by
    have c0 : t.cols.isEmpty = false := by cases h : t.cols with
      | nil => exact absurd h hc
      | cons a r => rfl
    cases h : L[n]? with
    | none =>
      rw [drop_none h]
      unfold keysLoop
      rw [begins_non h, words_no h]
      cases acc with
      | nil => rfl
      | cons a acc =>
        show fin L f0 ab ⟨t.name, t.cols, a :: acc, []⟩ (refsLoop L ⟨t.name, t.cols, a :: acc, []⟩ ab 3 n []) = _
        rw [refs_rd A ⟨t.name, t.cols, a :: acc, []⟩ (by simp) 3 n [] (by simp) (by simp) (fun _ r hr => by rw [h] at hr; cases hr), drop_none h]
    | some r =>
      by_cases hk : (acc.isEmpty || isPre kKey r) = true
      · rw [drop_some h]
        unfold keysLoop rd
        rw [begins_at h, words_at1 h, if_pos hk]
        have st : step ab r (some ⟨t.name, t.cols, acc, []⟩) = (keyOf r ⟨t.name, t.cols, acc, []⟩).bind fun k => some (ab, some ⟨t.name, t.cols, acc ++ [k], []⟩) := by
          unfold step
          dsimp only
          have e1 : (acc.isEmpty && (t.cols.isEmpty || isPre kColumn r)) = false := by
            rw [c0, Bool.false_or]
            by_cases ha : acc = []
            · rw [hb ha r h, Bool.and_false]
            · cases q : acc with
              | nil => exact absurd q ha
              | cons a s => rfl
          rw [e1, if_neg Bool.false_ne_true, hk]
          rfl
        rw [st]
        unfold keyOf
        cases hw : words [r] 0 kKey with
        | none => rfl
        | some k =>
          dsimp only
          cases h1 : (decide (k.length ≤ 3) && areDiff k t.cols) with
          | false => rfl
          | true =>
            rw [if_pos rfl, Bool.true_and]
            cases h3 : (acc.any fun o => hasAll k o || hasAll o k) with
            | true => rfl
            | false =>
              rw [if_neg Bool.false_ne_true, Bool.not_false, Bool.true_and]
              by_cases hl : acc.length + 1 ≤ 3
              · rw [if_pos hl, decide_eq_true hl, if_pos rfl]
                exact keys_rd A t hc f (n + 1) (acc ++ [k]) (by simp; omega) (by simp; omega) (fun z => by simp at z)
              · rw [if_neg hl, decide_eq_false hl, if_neg Bool.false_ne_true]; rfl
      · unfold keysLoop
        rw [begins_at h, if_neg hk]
        have ha : acc ≠ [] := fun z => hk (by rw [z]; rfl)
        have hk2 : isPre kKey r = false := by
          cases q : isPre kKey r with
          | false => rfl
          | true => rw [q, Bool.or_true] at hk; exact absurd rfl hk
        exact refs_rd A ⟨t.name, t.cols, acc, []⟩ ha 3 n [] (by simp) (by simp) (fun _ r2 hr => by rw [h] at hr; cases hr; exact hk2)
def nest (L : List T) (f0 : Nat) (ab : List Tbl) (nm : T) : Except Nat (List T × Nat) → Except Nat (List Tbl × Nat)
  | .error e => .error e
  | .ok (cols, n1) => match keysLoop L cols 4 n1 [] with
    | .error e => .error e
    | .ok (keys, n2) => fin L f0 ab ⟨nm, cols, keys, []⟩ (refsLoop L ⟨nm, cols, keys, []⟩ ab 3 n2 [])
theorem cols_rd {f0 : Nat} {ab : List Tbl} (A : ∀ t n, n ≤ L.length → tablesLoop L f0 n (ab ++ [t]) = lift L (rd (L.drop n) n (ab ++ [t]) none)) (nm : T) : ∀ (f n : Nat) (acc : List T), 6 ≤ f + acc.length → acc.length ≤ 5 →
    nest L f0 ab nm (colsLoop L f n acc) = lift L (rd (L.drop n) n ab (some ⟨nm, acc, [], []⟩))
  | 0, n, acc, hf, h2 => by omega
  | f + 1, n, acc, hf, h2 => by
    cases h : L[n]? with
    | none =>
      cases acc with
      | nil =>
        rw [drop_none h]
        unfold colsLoop newName
        rw [begins_non h, words_no h]; rfl
      | cons a acc =>
        unfold colsLoop
        rw [begins_non h]
        exact keys_rd A ⟨nm, a :: acc, [], []⟩ (by simp) 4 n [] (by simp) (by simp) (fun _ r hr => by rw [h] at hr; cases hr)
    | some r =>
      by_cases hk : (acc.isEmpty || isPre kColumn r) = true
      · rw [drop_some h]
        unfold colsLoop rd
        rw [begins_at h, name_row h, if_pos hk]
        have st : step ab r (some ⟨nm, acc, [], []⟩) = (nameOf r kColumn acc).bind fun w => if acc.length + 1 ≤ 5 then some (ab, some ⟨nm, acc ++ [w], [], []⟩) else none := by
          unfold step
          dsimp only
          rw [hk]; rfl
        rw [st]
        cases hw : nameOf r kColumn acc with
        | none => rfl
        | some w =>
          dsimp only [Option.bind]
          by_cases hl : acc.length + 1 ≤ 5
          · rw [if_pos hl, if_pos hl]
            exact cols_rd A nm f (n + 1) (acc ++ [w]) (by simp; omega) (by simp; omega)
          · rw [if_neg hl, if_neg hl]; rfl
      · unfold colsLoop
        rw [begins_at h, if_neg hk]
        have ha : acc ≠ [] := fun z => hk (by rw [z]; rfl)
        have hk2 : isPre kColumn r = false := by
          cases q : isPre kColumn r with
          | false => rfl
          | true => rw [q, Bool.or_true] at hk; exact absurd rfl hk
        exact keys_rd A ⟨nm, acc, [], []⟩ ha 4 n [] (by simp) (by simp) (fun _ r2 hr => by rw [h] at hr; cases hr; exact hk2)
theorem nest_table (f0 n : Nat) (ab : List Tbl) (nm : T) : (match (match colsLoop L 6 (n + 1) [] with
      | .error e => .error e
      | .ok (cols, n1) =>
        match keysLoop L cols 4 n1 [] with
        | .error e => .error e
        | .ok (keys, n2) =>
          match refsLoop L ⟨nm, cols, keys, []⟩ ab 3 n2 [] with
          | .error e => .error e
          | .ok (refs, n3) => if exactly L n3 kEnd then .ok (⟨nm, cols, keys, refs⟩, n3 + 1) else .error n3 : Except Nat (Tbl × Nat)) with
      | .error e => .error e
      | .ok (t, n1) => tablesLoop L f0 n1 (ab ++ [t])) = nest L f0 ab nm (colsLoop L 6 (n + 1) []) := by
  cases colsLoop L 6 (n + 1) [] with
  | error e => rfl
  | ok x =>
    obtain ⟨cols, n1⟩ := x
    unfold nest
    dsimp only
    cases keysLoop L cols 4 n1 [] with
    | error e => rfl
    | ok y =>
      obtain ⟨keys, n2⟩ := y
      dsimp only
      cases refsLoop L ⟨nm, cols, keys, []⟩ ab 3 n2 [] with
      | error e => rfl
      | ok z =>
        obtain ⟨refs, n3⟩ := z
        unfold fin
        dsimp only
        by_cases h : exactly L n3 kEnd = true
        · rw [if_pos h, if_pos h]
        · rw [if_neg h, if_neg h]
theorem table_rd : ∀ (f n : Nat) (ab : List Tbl), 6 ≤ f + ab.length → ab.length ≤ 5 → n ≤ L.length → (ab ≠ [] ∨ n < L.length) → tablesLoop L f n ab = lift L (rd (L.drop n) n ab none)
  | 0, n, ab, hf, h5, hn, h0 => by omega
  | f + 1, n, ab, hf, h5, hn, h0 => by
    by_cases hk : (ab.isEmpty || !(n == L.length)) = true
    · have ln : n < L.length := by
        rcases h0 with z | z
        · have : ab.isEmpty = false := by cases q : ab with
            | nil => exact absurd q z
            | cons a r => rfl
          rw [this, Bool.false_or, Bool.not_eq_true'] at hk
          have := beq_eq_false_iff_ne.mp hk
          omega
        · exact z
      have h : L[n]? = some (L[n]'ln) := List.getElem?_eq_getElem _
      rw [drop_some h]
      unfold tablesLoop rd
      rw [if_pos hk]
      unfold readTable
      rw [name_row h]
      have st : step ab L[n] none = (nameOf L[n] kTable (ab.map (·.name))).bind fun w => if ab.length < 5 then some (ab, some ⟨w, [], [], []⟩) else none := rfl
      rw [st]
      cases hw : nameOf L[n] kTable (ab.map (·.name)) with
      | none => rfl
      | some w =>
        dsimp only [Option.bind]
        by_cases hl : ab.length < 5
        · rw [if_pos hl, if_pos hl]
          exact (nest_table f n ab w).trans (cols_rd (fun t n2 hn2 => table_rd f n2 (ab ++ [t]) (by simp; omega) (by simp; omega) hn2 (.inl (by simp))) w 6 (n + 1) [] (by simp) (by simp))
        · rw [if_neg hl, if_neg hl]; rfl
    · have hk2 := Bool.eq_false_iff.mpr hk
      rw [Bool.or_eq_false_iff] at hk2
      have en : n = L.length := by
        have := hk2.2
        rw [Bool.not_eq_false'] at this
        exact eq_of_beq this
      unfold tablesLoop
      rw [if_neg hk, List.drop_eq_nil_of_le (by omega), en]; rfl
/-- the parser reads row by row -/
theorem parse_rd (h : L ≠ []) : parseRows L = rd L 0 [] none := by
  unfold parseRows
  rw [table_rd 6 0 [] (by simp) (by simp) (Nat.zero_le _) (.inr (List.length_pos_iff.mpr h)), List.drop_zero]
  cases rd L 0 [] none <;> rfl
end
end Cn
set_option Elab.async false
set_option linter.all false
set_option maxRecDepth 100000
set_option maxHeartbeats 2000000
/-! Cn.M15: an accepted text is the written text. -/
namespace Cn
open PySem L2
theorem pre_drop : ∀ {st r : T}, isPre st r = true → r = st ++ r.drop st.length
  | [], r, _ => rfl
  | _ :: _, [], h => by cases h
  | x :: a, y :: b, h => by
    unfold isPre at h
    rw [Bool.and_eq_true] at h
    have e := eq_of_beq h.1
    have ih := pre_drop h.2
    rw [e, List.cons_append, List.length_cons, List.drop_succ_cons, ← ih]
theorem join_split (c : Nat) : ∀ l : T, joinT [c] (splitC c l) = l
  | [] => rfl
  | x :: r => by
    have ih := join_split c r
    unfold splitC
    by_cases h : (x == c) = true
    · rw [if_pos h]
      cases q : splitC c r with
      | nil => exact absurd q (splitC_ne c r)
      | cons a s =>
        rw [q] at ih
        show [] ++ ([c] ++ joinT [c] (a :: s)) = x :: r
        rw [ih, eq_of_beq h]; rfl
    · rw [if_neg h]
      cases q : splitC c r with
      | nil => exact absurd q (splitC_ne c r)
      | cons a s =>
        rw [q] at ih
        dsimp only
        cases s with
        | nil =>
          show x :: a = x :: r
          have : a = r := ih
          rw [this]
        | cons b s =>
          show (x :: a) ++ ([c] ++ joinT [c] (b :: s)) = x :: r
          have : a ++ ([c] ++ joinT [c] (b :: s)) = r := ih
          rw [List.cons_append, this]
theorem words_row {r st : T} {ws : List T} (h : words [r] 0 st = some ws) : r = st ++ joinT [32] ws := by
  have h : (if isPre st r then some (splitC 32 (r.drop st.length)) else none) = some ws := h
  by_cases p : isPre st r = true
  · rw [if_pos p] at h
    have e := Option.some.inj h
    rw [← e, join_split]
    exact pre_drop p
  · rw [if_neg p] at h; cases h
theorem nameOf_row {r st : T} {tk : List T} {w : T} (h : nameOf r st tk = some w) : r = st ++ w := by
  unfold nameOf newName at h
  cases hw : words [r] 0 st with
  | none => rw [hw] at h; cases h
  | some ws =>
    rw [hw] at h
    dsimp only at h
    by_cases q : (ws.length == 1 && (isName (ws.headD []) && !tk.contains (ws.headD []))) = true
    · rw [if_pos q] at h
      have e : ws.headD [] = w := Option.some.inj h
      rw [Bool.and_eq_true] at q
      have l : ws.length = 1 := eq_of_beq q.1
      obtain ⟨x, rfl⟩ := List.length_eq_one_iff.mp l
      have : x = w := e
      rw [words_row hw, this]; rfl
    · rw [if_neg q] at h; cases h
theorem keyOf_row {r : T} {t : Tbl} {k : List T} (h : keyOf r t = some k) : r = kKey ++ joinT [32] k := by
  unfold keyOf at h
  cases hw : words [r] 0 kKey with
  | none => rw [hw] at h; cases h
  | some ws =>
    rw [hw] at h
    dsimp only at h
    split at h
    · cases h; exact words_row hw
    · cases h
theorem refOf_row {r : T} {t : Tbl} {ab : List Tbl} {x : List T × T × Bool} (h : refOf r t ab = some x) : r = refRow x := by
  unfold refOf readRef at h
  rw [begins_at (L := [r]) (n := 0) (r := r) rfl] at h
  cases hw : words [r] 0 (refStart (isPre kRef r)) with
  | none => rw [hw] at h; cases h
  | some ws =>
    rw [hw] at h
    dsimp only at h
    by_cases h1 : (decide (3 ≤ ws.length) && (ws.getD (ws.length - 2) [] == kArrow)) = true
    · rw [if_pos h1] at h
      split at h
      · rename_i y hy
        split at hy
        · split at hy
          · split at hy
            · cases hy
            · cases hy
              cases h
              rw [Bool.and_eq_true, decide_eq_true_eq] at h1
              obtain ⟨l3, ar⟩ := h1
              have ar := eq_of_beq ar
              have e : ws = ws.take (ws.length - 2) ++ [kArrow, ws.getD (ws.length - 1) []] := by
                have d1 : ws.drop (ws.length - 2) = [ws.getD (ws.length - 2) [], ws.getD (ws.length - 1) []] := by
                  rw [List.drop_eq_getElem_cons (by omega), List.drop_eq_getElem_cons (by omega), List.drop_eq_nil_of_le (by omega)]
                  rw [List.getD_eq_getElem?_getD, List.getD_eq_getElem?_getD, List.getElem?_eq_getElem (by omega), List.getElem?_eq_getElem (by omega)]
                  have : ws.length - 2 + 1 = ws.length - 1 := by omega
                  simp [this]
                rw [ar] at d1
                rw [← d1, List.take_append_drop]
              have n0 : ws.take (ws.length - 2) ≠ [] := fun z => by
                have := congrArg List.length z
                rw [List.length_take, List.length_nil] at this
                omega
              rw [refRow_eq _ n0]
              show r = refStart (isPre kRef r) ++ joinT [32] (ws.take (ws.length - 2) ++ [kArrow, ws.getD (ws.length - 1) []])
              rw [← e]
              exact words_row hw
          · cases hy
        · cases hy
      · cases h
    · rw [if_neg h1] at h; cases h
/-- the rows of an open table -/
def part : Option Tbl → List T
  | none => []
  | some t => bodyRows t
def Open : Option Tbl → Prop
  | none => True
  | some t => t.keys = [] → t.refs = []
theorem step_rows {ab ab' : List Tbl} {r : T} {cur cur' : Option Tbl} (o : Open cur) (h : step ab r cur = some (ab', cur')) : Open cur' ∧ ab'.flatMap tableRows ++ part cur' = ab.flatMap tableRows ++ part cur ++ [r] := by
  cases cur with
  | none =>
    unfold step at h
    dsimp only at h
    cases hw : nameOf r kTable (ab.map (·.name)) with
    | none => rw [hw] at h; cases h
    | some w =>
      rw [hw] at h
      dsimp only [Option.bind] at h
      split at h
      · cases h
        refine ⟨fun _ => rfl, ?_⟩
        rw [nameOf_row hw]
        simp [part, bodyRows]
      · cases h
  | some t =>
    have o : t.keys = [] → t.refs = [] := o
    unfold step at h
    dsimp only at h
    split at h
    · rename_i c1
      rw [Bool.and_eq_true, List.isEmpty_iff] at c1
      have k0 := c1.1
      have r0 := o k0
      cases hw : nameOf r kColumn t.cols with
      | none => rw [hw] at h; cases h
      | some w =>
        rw [hw] at h
        dsimp only [Option.bind] at h
        split at h
        · cases h
          refine ⟨fun _ => rfl, ?_⟩
          rw [nameOf_row hw]
          simp [part, bodyRows, k0, r0]
        · cases h
    · rename_i c1
      split at h
      · rename_i c2
        rw [Bool.and_eq_true, List.isEmpty_iff] at c2
        have r0 := c2.1
        cases hw : keyOf r t with
        | none => rw [hw] at h; cases h
        | some k =>
          rw [hw] at h
          cases h
          refine ⟨fun _ => rfl, ?_⟩
          rw [keyOf_row hw]
          simp [part, bodyRows, r0]
      · rename_i c2
        split at h
        · cases hw : refOf r ⟨t.name, t.cols, t.keys, []⟩ ab with
          | none => rw [hw] at h; cases h
          | some x =>
            rw [hw] at h
            dsimp only [Option.bind] at h
            split at h
            · cases h
            · split at h
              · cases h
                refine ⟨fun z => ?_, ?_⟩
                · have z : t.keys = [] := z
                  rw [z, o z] at c2
                  exact absurd rfl c2
                · rw [refOf_row hw]
                  simp [part, bodyRows]
              · cases h
        · split at h
          · rename_i q
            cases h
            refine ⟨True.intro, ?_⟩
            rw [eq_of_beq q]
            simp [part, rows_body]
          · cases h
theorem rd_rows : ∀ {L : List T} {n : Nat} {ab ts : List Tbl} {cur : Option Tbl}, Open cur → rd L n ab cur = .ok ts → ts.flatMap tableRows = ab.flatMap tableRows ++ part cur ++ L
  | [], n, ab, ts, none, o, h => by cases h; simp [part]
  | [], n, ab, ts, some t, o, h => by cases h
  | r :: rest, n, ab, ts, cur, o, h => by
    unfold rd at h
    cases hs : step ab r cur with
    | none => rw [hs] at h; cases h
    | some x =>
      obtain ⟨a, c⟩ := x
      rw [hs] at h
      obtain ⟨o2, e⟩ := step_rows o hs
      rw [rd_rows o2 h, e]
      simp
/-- an accepted text is written as it was -/
theorem text_same {t : T} {ts : List Tbl} (h : parseRows (splitC 10 t) = .ok ts) : schemaText ts = t := by
  rw [parse_rd (splitC_ne 10 t)] at h
  have e := rd_rows (cur := none) True.intro h
  unfold schemaText
  rw [e]
  simp only [List.flatMap_nil, part, List.nil_append]
  exact join_split 10 t
end Cn
set_option Elab.async false
set_option linter.all false
set_option maxRecDepth 100000
set_option maxHeartbeats 2000000
/-! Cn.M16: the second reader's checks of a row, by its words. -/
namespace Cn
open PySem L2
def wColumn : T := [99, 111, 108, 117, 109, 110]
def wKey : T := [107, 101, 121]
def wRef : T := [114, 101, 102]
def wOpt : T := [111, 112, 116, 105, 111, 110, 97, 108]
def wTable : T := [116, 97, 98, 108, 101]
/-- a row that begins with two blanks, a word and a blank -/
theorem start_words {w x : T} (hw : 32 ∉ w) : (isPre ([32, 32] ++ (w ++ [32])) (32 :: 32 :: x) = true ↔ ∃ rest, rest ≠ [] ∧ splitC 32 x = w :: rest) := by
  constructor
  · intro h
    have e := pre_drop h
    have e2 : x = w ++ 32 :: ((32 :: 32 :: x).drop ([32, 32] ++ (w ++ [32])).length) := by
      have : (32 :: 32 :: x) = 32 :: 32 :: (w ++ 32 :: ((32 :: 32 :: x).drop ([32, 32] ++ (w ++ [32])).length)) := by
        rw (config := { occs := .pos [1] }) [e]
        simp
      exact (List.cons.inj (List.cons.inj this).2).2
    rw [e2, splitC_cons 32 w _ hw]
    exact ⟨_, splitC_ne 32 _, rfl⟩
  · rintro ⟨rest, h0, h⟩
    have j := join_split 32 x
    rw [h] at j
    cases rest with
    | nil => exact absurd rfl h0
    | cons a s =>
      have j : w ++ ([32] ++ joinT [32] (a :: s)) = x := j
      rw [← j]
      have : 32 :: 32 :: (w ++ ([32] ++ joinT [32] (a :: s))) = ([32, 32] ++ (w ++ [32])) ++ joinT [32] (a :: s) := by simp
      rw [this]
      exact isPre_app _ _
theorem words_yes {w x : T} {rest : List T} (hw : 32 ∉ w) (h0 : rest ≠ []) (h : splitC 32 x = w :: rest) : words [32 :: 32 :: x] 0 ([32, 32] ++ (w ++ [32])) = some rest := by
  have p := (start_words hw).mpr ⟨rest, h0, h⟩
  show (if isPre ([32, 32] ++ (w ++ [32])) (32 :: 32 :: x) = true then some (splitC 32 ((32 :: 32 :: x).drop ([32, 32] ++ (w ++ [32])).length)) else none) = _
  rw [if_pos p]
  have e := pre_drop p
  have e2 : x = w ++ 32 :: ((32 :: 32 :: x).drop ([32, 32] ++ (w ++ [32])).length) := by
    have : (32 :: 32 :: x) = 32 :: 32 :: (w ++ 32 :: ((32 :: 32 :: x).drop ([32, 32] ++ (w ++ [32])).length)) := by
      rw (config := { occs := .pos [1] }) [e]
      simp
    exact (List.cons.inj (List.cons.inj this).2).2
  have e3 := splitC_cons 32 w ((32 :: 32 :: x).drop ([32, 32] ++ (w ++ [32])).length) hw
  rw [← e2, h] at e3
  rw [(List.cons.inj e3).2]
theorem words_not {st r : T} (h : isPre st r = false) : words [r] 0 st = none := by
  show (if isPre st r = true then _ else none) = none
  rw [h]; rfl
/-- the reader's words of a row within a table -/
def keyRight (k cols : List T) (keys : List (List T)) : Bool := (decide (1 ≤ k.length) && decide (k.length ≤ 3)) && (areDiff k cols && (!(keys.length == 3) && keys.all fun o => !(hasAll k o || hasAll o k)))
def mainOf (req : Bool) (tg : T) (t : Tbl) (ab : List Tbl) : List T := if !req && tg == t.name then t.keys.headD [] else match ab.find? fun a => a.name == tg with
  | some a => a.keys.headD []
  | none => []
def refRight (req : Bool) (ws : List T) (t : Tbl) (ab : List Tbl) : Bool :=
  decide (4 ≤ ws.length) && (ws.getD (ws.length - 2) [] == kArrow && (!t.keys.isEmpty && (!(t.refs.length == 2) && (areDiff ((ws.drop 1).take (ws.length - 3)) t.cols && (((ws.drop 1).take (ws.length - 3)).length == (mainOf req (ws.getD (ws.length - 1) []) t ab).length &&
    !((ws.drop 1).take (ws.length - 3)).any fun c => (t.refs.flatMap (·.1) ++ if req then [] else t.keys.flatMap id).contains c)))))
def pyTaken (ws : List T) (t : Tbl) (ab : List Tbl) : Option Tbl :=
  if ws.headD [] == wColumn then (if ws.length == 2 && (isName (ws.getD 1 []) && (!t.cols.contains (ws.getD 1 []) && (!(t.cols.length == 5) && (t.keys.isEmpty && t.refs.isEmpty)))) then some ⟨t.name, t.cols ++ [ws.getD 1 []], t.keys, t.refs⟩ else none)
  else if ws.headD [] == wKey then (if t.refs.isEmpty && keyRight (ws.drop 1) t.cols t.keys then some ⟨t.name, t.cols, t.keys ++ [ws.drop 1], t.refs⟩ else none)
  else if ws.headD [] == wRef || ws.headD [] == wOpt then (if refRight (ws.headD [] == wRef) ws t ab then some ⟨t.name, t.cols, t.keys, t.refs ++ [((ws.drop 1).take (ws.length - 3), ws.getD (ws.length - 1) [], ws.headD [] == wRef)]⟩ else none)
  else none
structure Fine (t : Tbl) : Prop where
  c5 : t.cols.length ≤ 5
  k3 : t.keys.length ≤ 3
  r2 : t.refs.length ≤ 2
  ck : t.cols = [] → t.keys = []
  kr : t.keys = [] → t.refs = []
theorem pre_other {v x : T} {w : T} {rest : List T} (hv : 32 ∉ v) (h : splitC 32 x = w :: rest) (ne : w ≠ v) : isPre ([32, 32] ++ (v ++ [32])) (32 :: 32 :: x) = false := by
  cases q : isPre ([32, 32] ++ (v ++ [32])) (32 :: 32 :: x) with
  | false => rfl
  | true =>
    obtain ⟨r2, _, e⟩ := (start_words hv).mp q
    rw [h] at e
    exact absurd (List.cons.inj e).1 ne
theorem pre_alone {v x : T} {w : T} (hv : 32 ∉ v) (h : splitC 32 x = [w]) : isPre ([32, 32] ++ (v ++ [32])) (32 :: 32 :: x) = false := by
  cases q : isPre ([32, 32] ++ (v ++ [32])) (32 :: 32 :: x) with
  | false => rfl
  | true =>
    obtain ⟨r2, h0, e⟩ := (start_words hv).mp q
    rw [h] at e
    exact absurd (List.cons.inj e).2.symm h0
theorem not_end (x : T) : ((32 :: 32 :: x) == kEnd) = false := by
  refine beq_eq_false_iff_ne.mpr fun z => ?_
  have := (List.cons.inj z).1
  omega
theorem kC : kColumn = [32, 32] ++ (wColumn ++ [32]) := rfl
theorem kK : kKey = [32, 32] ++ (wKey ++ [32]) := rfl
theorem kR : kRef = [32, 32] ++ (wRef ++ [32]) := rfl
theorem kO : kOpt = [32, 32] ++ (wOpt ++ [32]) := rfl
theorem emp {α} {l : List α} : l.isEmpty = true ↔ l = [] := List.isEmpty_iff
theorem step_dead {ab : List Tbl} {t : Tbl} {r : T} (hC : isPre kColumn r = false ∨ t.keys ≠ []) (hK : isPre kKey r = false) (hR : isPre kRef r = false) (hO : isPre kOpt r = false) (he : (r == kEnd) = false) : step ab r (some t) = none := by
  unfold step
  dsimp only
  rw [hK, hR, hO, he]
  by_cases k0 : t.keys = []
  · rcases hC with hC | hC
    · rw [hC]
      have n1 : nameOf r kColumn t.cols = none := by unfold nameOf newName; rw [words_not hC]
      have n2 : keyOf r t = none := by unfold keyOf; rw [words_not hK]
      rw [n1, n2]
      split
      · rfl
      · split
        · rfl
        · rfl
    · exact absurd k0 hC
  · have : t.keys.isEmpty = false := Bool.eq_false_iff.mpr fun z => k0 (emp.mp z)
    rw [this, Bool.false_and, if_neg Bool.false_ne_true, Bool.or_false, Bool.and_false, if_neg Bool.false_ne_true]; rfl
theorem step_column {ab : List Tbl} {t : Tbl} {x : T} {rest : List T} (fn : Fine t) (h0 : rest ≠ []) (hs : splitC 32 x = wColumn :: rest) : step ab (32 :: 32 :: x) (some t) =
    (if (wColumn :: rest).length == 2 && (isName ((wColumn :: rest).getD 1 []) && (!t.cols.contains ((wColumn :: rest).getD 1 []) && (!(t.cols.length == 5) && (t.keys.isEmpty && t.refs.isEmpty)))) then some (⟨t.name, t.cols ++ [(wColumn :: rest).getD 1 []], t.keys, t.refs⟩ : Tbl) else none).map fun u => (ab, some u) := by
  by_cases k0 : t.keys = []
  · have r0 := fn.kr k0
    have hC : isPre kColumn (32 :: 32 :: x) = true := (start_words (by decide)).mpr ⟨rest, h0, hs⟩
    unfold step
    dsimp only
    have e1 : (t.keys.isEmpty && (t.cols.isEmpty || isPre kColumn (32 :: 32 :: x))) = true := by rw [hC, k0]; simp
    rw [if_pos e1]
    have w := words_yes (w := wColumn) (by decide) h0 hs
    rw [← kC] at w
    unfold nameOf newName
    rw [w]
    dsimp only
    obtain ⟨a, s, rfl⟩ : ∃ a s, rest = a :: s := by
      cases rest with
      | nil => exact absurd rfl h0
      | cons a s => exact ⟨a, s, rfl⟩
    have c5 := fn.c5
    rw [k0, r0]
    show _ = Option.map _ (if ((wColumn :: a :: s).length == 2 && (isName a && (!t.cols.contains a && (!(t.cols.length == 5) && true)))) = true then _ else _)
    cases s with
    | nil =>
      show Option.bind (match (if (true && (isName a && !t.cols.contains a)) = true then Except.ok a else Except.error 0 : Except Nat T) with | .ok w => some w | .error _ => none) _ = Option.map _ (if (true && (isName a && (!t.cols.contains a && (!(t.cols.length == 5) && true)))) = true then _ else _)
      cases isName a with
      | false => rfl
      | true =>
        cases t.cols.contains a with
        | true => rfl
        | false =>
          by_cases l : t.cols.length = 5
          · have e : (t.cols.length == 5) = true := by rw [l]; rfl
            rw [e]
            show (if t.cols.length + 1 ≤ 5 then _ else none) = none
            rw [if_neg (by omega)]
          · have e : (t.cols.length == 5) = false := beq_eq_false_iff_ne.mpr l
            rw [e]
            show (if t.cols.length + 1 ≤ 5 then _ else none) = some _
            rw [if_pos (by omega)]; rfl
    | cons b s =>
      have e : ((a :: b :: s).length == 1) = false := by simp
      have e2 : ((wColumn :: a :: b :: s).length == 2) = false := by simp
      rw [e, e2]; rfl
  · have : t.keys.isEmpty = false := Bool.eq_false_iff.mpr fun z => k0 (emp.mp z)
    rw [step_dead (.inr k0) (pre_other (v := wKey) (by decide) hs (by decide)) (pre_other (v := wRef) (by decide) hs (by decide)) (pre_other (v := wOpt) (by decide) hs (by decide)) (not_end x), this]
    simp
theorem step_key {ab : List Tbl} {t : Tbl} {x : T} {rest : List T} (fn : Fine t) (h0 : rest ≠ []) (hs : splitC 32 x = wKey :: rest) : step ab (32 :: 32 :: x) (some t) =
    (if t.refs.isEmpty && keyRight rest t.cols t.keys then some (⟨t.name, t.cols, t.keys ++ [rest], t.refs⟩ : Tbl) else none).map fun u => (ab, some u) := by
  have hC : isPre kColumn (32 :: 32 :: x) = false := pre_other (v := wColumn) (by decide) hs (by decide)
  have hK : isPre kKey (32 :: 32 :: x) = true := (start_words (by decide)).mpr ⟨rest, h0, hs⟩
  have hR : isPre kRef (32 :: 32 :: x) = false := pre_other (v := wRef) (by decide) hs (by decide)
  have hO : isPre kOpt (32 :: 32 :: x) = false := pre_other (v := wOpt) (by decide) hs (by decide)
  have w := words_yes (w := wKey) (by decide) h0 hs
  rw [← kK] at w
  have l1 : 1 ≤ rest.length := List.length_pos_iff.mpr h0
  by_cases c0 : t.cols = []
  · have k0 := fn.ck c0
    have r0 := fn.kr k0
    unfold step
    dsimp only
    rw [hC, k0, c0]
    have n1 : nameOf (32 :: 32 :: x) kColumn [] = none := by unfold nameOf newName; rw [words_not hC]
    have e : keyRight rest [] [] = false := by
      unfold keyRight areDiff hasAll
      obtain ⟨a, s, rfl⟩ : ∃ a s, rest = a :: s := by
        cases rest with
        | nil => exact absurd rfl h0
        | cons a s => exact ⟨a, s, rfl⟩
      simp
    rw [n1, e]
    simp
  · have c1 : t.cols.isEmpty = false := Bool.eq_false_iff.mpr fun z => c0 (emp.mp z)
    unfold step
    dsimp only
    rw [hC, c1, Bool.or_false, Bool.and_false, if_neg Bool.false_ne_true, hK, Bool.or_true, Bool.and_true, hR, hO, not_end]
    cases hr : t.refs with
    | cons a s => rfl
    | nil =>
      rw [List.isEmpty_nil, if_pos rfl]
      unfold keyOf
      rw [w]
      dsimp only
      have k3 := fn.k3
      have e : keyRight rest t.cols t.keys = ((decide (rest.length ≤ 3) && areDiff rest t.cols) && (!(t.keys.any fun o => hasAll rest o || hasAll o rest) && decide (t.keys.length + 1 ≤ 3))) := by
        unfold keyRight
        have a1 : (t.keys.all fun o => !(hasAll rest o || hasAll o rest)) = !(t.keys.any fun o => hasAll rest o || hasAll o rest) := by
          rw [List.not_any_eq_all_not]
        have a2 : (!(t.keys.length == 3)) = decide (t.keys.length + 1 ≤ 3) := by
          by_cases l : t.keys.length = 3
          · rw [l]; rfl
          · rw [beq_eq_false_iff_ne.mpr l, decide_eq_true (by omega)]; rfl
        rw [a1, a2, decide_eq_true l1, Bool.true_and]
        cases decide (rest.length ≤ 3) <;> cases areDiff rest t.cols <;> cases decide (t.keys.length + 1 ≤ 3) <;> cases (t.keys.any fun o => hasAll rest o || hasAll o rest) <;> rfl
      rw [e, Bool.true_and]
      split <;> rfl
theorem filter_find {n : T} : ∀ {l : List Tbl}, (l.map (·.name)).Nodup → (l.filter fun a => a.name == n) = (l.find? fun a => a.name == n).toList
  | [], _ => rfl
  | a :: r, h => by
    rw [List.map_cons, List.nodup_cons] at h
    have ih := filter_find (n := n) h.2
    rw [List.filter_cons, List.find?_cons]
    cases q : a.name == n with
    | true =>
      have e : (r.filter fun a => a.name == n) = [] := List.filter_eq_nil_iff.mpr fun b hb z => h.1 (List.mem_map.mpr ⟨b, hb, by rw [eq_of_beq z, eq_of_beq q]⟩)
      rw [if_pos rfl, e]; rfl
    | false =>
      rw [if_neg Bool.false_ne_true]
      exact ih
theorem fits_main {req : Bool} {tg : T} {t : Tbl} {ab : List Tbl} {p : List T} (nd : (ab.map (·.name)).Nodup) (new : t.name ∉ ab.map (·.name)) (h0 : p ≠ []) : fits (foundIn req ⟨t.name, t.cols, t.keys, []⟩ ab tg) p = (p.length == (mainOf req tg t ab).length) := by
  have p0 : p.length ≠ 0 := fun z => h0 (List.eq_nil_of_length_eq_zero z)
  have base : fits (ab.filter fun a => a.name == tg) p = (p.length == (match (ab.find? fun a : Tbl => a.name == tg) with
      | some a => a.keys.headD []
      | none => ([] : List T)).length) := by
    rw [filter_find nd]
    cases (ab.find? fun a : Tbl => a.name == tg) with
    | none => exact (beq_eq_false_iff_ne.mpr p0).symm
    | some a =>
      show ((a.keys.headD []).length == p.length) = (p.length == (a.keys.headD []).length)
      exact BEq.comm
  unfold foundIn targets mainOf
  cases req with
  | true => exact base
  | false =>
    show fits ((ab ++ [(⟨t.name, t.cols, t.keys, []⟩ : Tbl)]).filter fun a => a.name == tg) p = _
    rw [List.filter_append, Bool.not_false, Bool.true_and]
    by_cases e : tg = t.name
    · have e1 : (ab.filter fun a => a.name == tg) = [] := List.filter_eq_nil_iff.mpr fun a ha z => new (List.mem_map.mpr ⟨a, ha, by rw [eq_of_beq z, e]⟩)
      have e2 : ([⟨t.name, t.cols, t.keys, []⟩] : List Tbl).filter (fun a => a.name == tg) = [⟨t.name, t.cols, t.keys, []⟩] := by
        rw [List.filter_cons, if_pos (by rw [e]; exact beq_self_eq_true _)]; rfl
      have e3 : (tg == t.name) = true := by rw [e]; exact beq_self_eq_true _
      rw [e1, e2, if_pos e3]
      show ((t.keys.headD []).length == p.length) = (p.length == (t.keys.headD []).length)
      exact BEq.comm
    · have e2 : ([⟨t.name, t.cols, t.keys, []⟩] : List Tbl).filter (fun a => a.name == tg) = [] := by
        rw [List.filter_cons, if_neg (by simpa using fun z => e z.symm)]; rfl
      rw [e2, List.append_nil, if_neg (by simpa using e)]
      exact base
theorem any_app (p : List T) (a b : List T) : (p.any fun c => (a ++ b).contains c) = ((p.any fun c => a.contains c) || p.any fun c => b.contains c) := by
  induction p with
  | nil => rfl
  | cons x r ih =>
    rw [List.any_cons, List.any_cons, List.any_cons, ih, List.contains_append]
    cases a.contains x <;> cases b.contains x <;> cases (r.any fun c => a.contains c) <;> cases (r.any fun c => b.contains c) <;> rfl
theorem any_keys (p : List T) (ks : List (List T)) : (p.any fun c => (ks.flatMap id).contains c) = ks.any fun k => p.any fun c => k.contains c := by
  rw [Bool.eq_iff_iff]
  simp only [List.any_eq_true, List.contains_iff_mem, List.mem_flatMap, id]
  constructor
  · rintro ⟨c, hc, k, hk, h⟩; exact ⟨k, hk, c, hc, h⟩
  · rintro ⟨k, hk, c, hc, h⟩; exact ⟨c, hc, k, hk, h⟩
theorem step_ref {ab : List Tbl} {t : Tbl} {x w : T} {rest : List T} (req : Bool) (hw : w = if req then wRef else wOpt) (fn : Fine t) (nd : (ab.map (·.name)).Nodup) (new : t.name ∉ ab.map (·.name)) (h0 : rest ≠ []) (hs : splitC 32 x = w :: rest) : step ab (32 :: 32 :: x) (some t) =
    (if refRight req (w :: rest) t ab then some (⟨t.name, t.cols, t.keys, t.refs ++ [(((w :: rest).drop 1).take ((w :: rest).length - 3), (w :: rest).getD ((w :: rest).length - 1) [], req)]⟩ : Tbl) else none).map fun u => (ab, some u) := by
  have ne1 : w ≠ wColumn := by rw [hw]; cases req <;> decide
  have ne2 : w ≠ wKey := by rw [hw]; cases req <;> decide
  have nw : 32 ∉ w := by rw [hw]; cases req <;> decide
  have hC : isPre kColumn (32 :: 32 :: x) = false := pre_other (v := wColumn) (by decide) hs ne1
  have hK : isPre kKey (32 :: 32 :: x) = false := pre_other (v := wKey) (by decide) hs ne2
  have hR : isPre kRef (32 :: 32 :: x) = req := by
    cases req with
    | true => exact (start_words (w := wRef) (by decide)).mpr ⟨rest, h0, by rw [hs, hw]; rfl⟩
    | false => exact pre_other (v := wRef) (by decide) hs (by rw [hw]; decide)
  have hO : isPre kOpt (32 :: 32 :: x) = !req := by
    cases req with
    | false => exact (start_words (w := wOpt) (by decide)).mpr ⟨rest, h0, by rw [hs, hw]; rfl⟩
    | true => exact pre_other (v := wOpt) (by decide) hs (by rw [hw]; decide)
  have wd : words [32 :: 32 :: x] 0 (refStart req) = some rest := by
    have := words_yes nw h0 hs
    rw [hw] at this
    cases req <;> exact this
  by_cases k0 : t.keys = []
  · have e : refRight req (w :: rest) t ab = false := by
      unfold refRight
      rw [k0, List.isEmpty_nil, Bool.not_true, Bool.false_and, Bool.and_false, Bool.and_false]
    rw [e]
    have n1 : nameOf (32 :: 32 :: x) kColumn t.cols = none := by unfold nameOf newName; rw [words_not hC]
    have n2 : keyOf (32 :: 32 :: x) t = none := by unfold keyOf; rw [words_not hK]
    unfold step
    dsimp only
    rw [n1, n2, fn.kr k0, k0]
    split <;> rfl
  · have k1 : t.keys.isEmpty = false := Bool.eq_false_iff.mpr fun z => k0 (emp.mp z)
    unfold step
    dsimp only
    rw [k1, Bool.false_and, if_neg Bool.false_ne_true, hK, Bool.or_false, Bool.and_false, if_neg Bool.false_ne_true, hR, hO]
    have e1 : (req || !req) = true := by cases req <;> rfl
    rw [e1, if_pos rfl]
    unfold refOf readRef
    rw [begins_at (L := [32 :: 32 :: x]) (n := 0) (r := 32 :: 32 :: x) rfl, hR, wd]
    dsimp only
    have len : (w :: rest).length = rest.length + 1 := rfl
    unfold refRight
    rw [k1, len, Bool.not_false, Bool.true_and]
    by_cases l3 : 3 ≤ rest.length
    · have d1 : (w :: rest).getD (rest.length + 1 - 2) [] = rest.getD (rest.length - 2) [] := by
        have : rest.length + 1 - 2 = (rest.length - 2) + 1 := by omega
        rw [this]; rfl
      have d2 : (w :: rest).getD (rest.length + 1 - 1) [] = rest.getD (rest.length - 1) [] := by
        have : rest.length + 1 - 1 = (rest.length - 1) + 1 := by omega
        rw [this]; rfl
      have d3 : ((w :: rest).drop 1).take (rest.length + 1 - 3) = rest.take (rest.length - 2) := by
        have : rest.length + 1 - 3 = rest.length - 2 := by omega
        rw [this]; rfl
      rw [d1, d2, d3, decide_eq_true l3, decide_eq_true (by omega : 4 ≤ rest.length + 1), Bool.true_and, Bool.true_and]
      have p0 : rest.take (rest.length - 2) ≠ [] := fun z => by
        have := congrArg List.length z
        rw [List.length_take, List.length_nil] at this
        omega
      rw [fits_main nd new p0]
      have r2 := fn.r2
      have a2 : (!(t.refs.length == 2)) = decide (t.refs.length + 1 ≤ 2) := by
        by_cases l : t.refs.length = 2
        · rw [l]; rfl
        · rw [beq_eq_false_iff_ne.mpr l, decide_eq_true (by omega)]; rfl
      have a3 : barred req ⟨t.name, t.cols, t.keys, []⟩ (rest.take (rest.length - 2)) = ((rest.take (rest.length - 2)).any fun c => (if req then [] else t.keys.flatMap id).contains c) := by
        unfold barred
        cases req with
        | true =>
          show false = _
          symm
          rw [List.any_eq_false]
          intro c _
          simp
        | false => exact (any_keys _ _).symm
      rw [a2, a3, any_app]
      generalize (rest.take (rest.length - 2)).any (fun c => (if req then [] else t.keys.flatMap id).contains c) = b1
      generalize rest.take (rest.length - 2) = pp at p0
      generalize rest.getD (rest.length - 1) [] = tg
      generalize rest.getD (rest.length - 2) [] = ar
      generalize (pp.length == (mainOf req tg t ab).length) = b2
      generalize areDiff pp t.cols = b3
      cases hq : (ar == kArrow) with
      | false => rfl
      | true =>
        cases b2 with
        | false => cases b3 <;> cases decide (t.refs.length + 1 ≤ 2) <;> rfl
        | true =>
          cases b3 with
          | false => cases decide (t.refs.length + 1 ≤ 2) <;> rfl
          | true =>
            cases b1 with
            | true => cases decide (t.refs.length + 1 ≤ 2) <;> cases (pp.any fun c => (t.refs.flatMap (·.1)).contains c) <;> rfl
            | false =>
              show (if (pp.any fun c => (t.refs.flatMap (·.1)).contains c) = true then none else if t.refs.length + 1 ≤ 2 then _ else none) = _
              cases (pp.any fun c => (t.refs.flatMap (·.1)).contains c) with
              | true => cases decide (t.refs.length + 1 ≤ 2) <;> rfl
              | false =>
                rw [if_neg Bool.false_ne_true]
                by_cases l : t.refs.length + 1 ≤ 2
                · rw [if_pos l, decide_eq_true l]; rfl
                · rw [if_neg l, decide_eq_false l]; rfl
    · rw [decide_eq_false l3, decide_eq_false (by omega : ¬ 4 ≤ rest.length + 1)]; rfl
/-- within a table: a row of two blanks and words -/
theorem step_words {ab : List Tbl} {t : Tbl} {x : T} (fn : Fine t) (nd : (ab.map (·.name)).Nodup) (new : t.name ∉ ab.map (·.name)) : step ab (32 :: 32 :: x) (some t) = (pyTaken (splitC 32 x) t ab).map fun u => (ab, some u) := by
  obtain ⟨w, rest, hs⟩ : ∃ w rest, splitC 32 x = w :: rest := by
    cases h : splitC 32 x with
    | nil => exact absurd h (splitC_ne 32 x)
    | cons w r => exact ⟨w, r, rfl⟩
  have dead : rest = [] → step ab (32 :: 32 :: x) (some t) = none := fun z => by
    rw [z] at hs
    exact step_dead (.inl (pre_alone (v := wColumn) (by decide) hs)) (pre_alone (v := wKey) (by decide) hs) (pre_alone (v := wRef) (by decide) hs) (pre_alone (v := wOpt) (by decide) hs) (not_end x)
  unfold pyTaken
  rw [hs]
  show _ = Option.map _ (if (w == wColumn) = true then _ else if (w == wKey) = true then _ else if (w == wRef || w == wOpt) = true then _ else none)
  by_cases hc : w = wColumn
  · subst hc
    rw [if_pos (beq_self_eq_true _)]
    by_cases h0 : rest = []
    · rw [dead h0, h0]; rfl
    · exact step_column fn h0 hs
  · rw [if_neg (by simpa using hc)]
    by_cases hk : w = wKey
    · subst hk
      rw [if_pos (beq_self_eq_true _)]
      by_cases h0 : rest = []
      · rw [dead h0, h0]
        have : keyRight ((wKey :: []).drop 1) t.cols t.keys = false := rfl
        rw [this, Bool.and_false]; rfl
      · exact step_key fn h0 hs
    · rw [if_neg (by simpa using hk)]
      by_cases hr : w = wRef
      · subst hr
        have e : (wRef == wRef || wRef == wOpt) = true := by decide
        rw [if_pos e]
        by_cases h0 : rest = []
        · rw [dead h0, h0]; rfl
        · exact step_ref true rfl fn nd new h0 hs
      · by_cases ho : w = wOpt
        · subst ho
          have e : (wOpt == wRef || wOpt == wOpt) = true := by decide
          rw [if_pos e]
          by_cases h0 : rest = []
          · rw [dead h0, h0]; rfl
          · exact step_ref false rfl fn nd new h0 hs
        · rw [if_neg (by simpa using ⟨hr, ho⟩)]
          rw [step_dead (.inl (pre_other (v := wColumn) (by decide) hs hc)) (pre_other (v := wKey) (by decide) hs hk) (pre_other (v := wRef) (by decide) hs hr) (pre_other (v := wOpt) (by decide) hs ho) (not_end x)]; rfl
end Cn
set_option Elab.async false
set_option linter.all false
set_option maxRecDepth 100000
set_option maxHeartbeats 2000000
/-! Cn.M17: the rows outside tables, the ends, the other rows; what every state keeps. -/
namespace Cn
open PySem L2
theorem start_word0 {w x : T} (hw : 32 ∉ w) : isPre (w ++ [32]) x = true ↔ ∃ rest, rest ≠ [] ∧ splitC 32 x = w :: rest := by
  have e : isPre ([32, 32] ++ (w ++ [32])) (32 :: 32 :: x) = isPre (w ++ [32]) x := by
    show ((32 : Nat) == 32 && ((32 : Nat) == 32 && isPre (w ++ [32]) x)) = _
    rw [beq_self_eq_true, Bool.true_and, Bool.true_and]
  rw [← e]
  exact start_words hw
theorem words_yes0 {w x : T} {rest : List T} (hw : 32 ∉ w) (h0 : rest ≠ []) (h : splitC 32 x = w :: rest) : words [x] 0 (w ++ [32]) = some rest := by
  have p := (start_word0 hw).mpr ⟨rest, h0, h⟩
  show (if isPre (w ++ [32]) x = true then some (splitC 32 (x.drop (w ++ [32]).length)) else none) = _
  rw [if_pos p]
  have e2 : x = w ++ 32 :: (x.drop (w ++ [32]).length) := by
    have := pre_drop p
    rw (config := { occs := .pos [1] }) [this]
    simp
  have e3 := splitC_cons 32 w (x.drop (w ++ [32]).length) hw
  rw [← e2, h] at e3
  rw [(List.cons.inj e3).2]
theorem kT : kTable = wTable ++ [32] := rfl
/-- outside of tables -/
theorem step_table {ab : List Tbl} {x : T} (l5 : ab.length ≤ 5) : step ab x none = if (splitC 32 x).length == 2 && ((splitC 32 x).headD [] == wTable && (isName ((splitC 32 x).getD 1 []) && (!(ab.map (·.name)).contains ((splitC 32 x).getD 1 []) && !(ab.length == 5)))) then some (ab, some ⟨(splitC 32 x).getD 1 [], [], [], []⟩) else none := by
  obtain ⟨w, rest, hs⟩ : ∃ w rest, splitC 32 x = w :: rest := by
    cases h : splitC 32 x with
    | nil => exact absurd h (splitC_ne 32 x)
    | cons w r => exact ⟨w, r, rfl⟩
  rw [hs]
  unfold step nameOf newName
  dsimp only
  by_cases ok : w = wTable ∧ rest ≠ []
  · obtain ⟨rfl, h0⟩ := ok
    have wd := words_yes0 (w := wTable) (by decide) h0 hs
    rw [← kT] at wd
    rw [wd]
    dsimp only
    obtain ⟨a, s, rfl⟩ : ∃ a s, rest = a :: s := by
      cases rest with
      | nil => exact absurd rfl h0
      | cons a s => exact ⟨a, s, rfl⟩
    cases s with
    | nil =>
      show Option.bind (match (if (true && (isName a && !(ab.map (·.name)).contains a)) = true then Except.ok a else Except.error 0 : Except Nat T) with | .ok w => some w | .error _ => none) _ = if (true && (wTable == wTable && (isName a && (!(ab.map (·.name)).contains a && !(ab.length == 5))))) = true then some (ab, some (⟨a, [], [], []⟩ : Tbl)) else none
      rw [beq_self_eq_true]
      cases isName a with
      | false => rfl
      | true =>
        cases (ab.map (·.name)).contains a with
        | true => rfl
        | false =>
          by_cases l : ab.length = 5
          · have e : (ab.length == 5) = true := by rw [l]; rfl
            rw [e]
            show (if ab.length < 5 then _ else none) = none
            rw [if_neg (by omega)]
          · have e : (ab.length == 5) = false := beq_eq_false_iff_ne.mpr l
            rw [e]
            show (if ab.length < 5 then _ else none) = some _
            rw [if_pos (by omega)]
    | cons b s =>
      have e : ((a :: b :: s).length == 1) = false := by simp
      have e2 : ((wTable :: a :: b :: s).length == 2) = false := by simp
      rw [e, e2]; rfl
  · have p : isPre kTable x = false := by
      cases q : isPre kTable x with
      | false => rfl
      | true =>
        rw [kT] at q
        obtain ⟨r2, h0, e⟩ := (start_word0 (by decide)).mp q
        rw [hs] at e
        exact absurd ⟨(List.cons.inj e).1, by rw [(List.cons.inj e).2]; exact h0⟩ ok
    rw [words_not p]
    show none = if ((w :: rest).length == 2 && (w == wTable && _)) = true then _ else none
    by_cases hw : w = wTable
    · have r0 : rest = [] := Classical.byContradiction fun z => ok ⟨hw, z⟩
      rw [r0]; rfl
    · rw [beq_eq_false_iff_ne.mpr hw, Bool.false_and, Bool.and_false]; rfl
theorem step_dead_end {ab : List Tbl} {t : Tbl} (hC : isPre kColumn kEnd = false ∨ t.keys ≠ []) (k0 : t.keys = []) (fn : Fine t) : step ab kEnd (some t) = none := by
  have n1 : nameOf kEnd kColumn t.cols = none := by unfold nameOf newName; rw [words_not (by decide)]
  have n2 : keyOf kEnd t = none := by unfold keyOf; rw [words_not (by decide)]
  unfold step
  dsimp only
  rw [n1, n2, k0, fn.kr k0]
  split <;> rfl
/-- the end of a table -/
theorem step_end {ab : List Tbl} {t : Tbl} (fn : Fine t) : step ab kEnd (some t) = if t.keys.isEmpty then none else some (ab ++ [t], none) := by
  have hC : isPre kColumn kEnd = false := by decide
  have hK : isPre kKey kEnd = false := by decide
  by_cases k0 : t.keys = []
  · rw [step_dead_end (.inl hC) k0 fn, k0]; rfl
  · have k1 : t.keys.isEmpty = false := Bool.eq_false_iff.mpr fun z => k0 (emp.mp z)
    unfold step
    dsimp only
    rw [k1, Bool.false_and, if_neg Bool.false_ne_true, hK, Bool.or_false, Bool.and_false, if_neg Bool.false_ne_true]
    rfl
/-- any other row within a table -/
theorem step_other {ab : List Tbl} {t : Tbl} {r : T} (h2 : ∀ x, r ≠ 32 :: 32 :: x) (he : (r == kEnd) = false) : step ab r (some t) = none := by
  have no : ∀ s, isPre ([32, 32] ++ s) r = false := fun s => by
    cases q : isPre ([32, 32] ++ s) r with
    | false => rfl
    | true => exact absurd (by rw (config := { occs := .pos [1] }) [pre_drop q]; rfl) (h2 (s ++ r.drop ([32, 32] ++ s).length))
  exact step_dead (.inl (no _)) (no _) (no _) (no _) he
structure Good (ab : List Tbl) (cur : Option Tbl) : Prop where
  nd : (ab.map (·.name)).Nodup
  l5 : ab.length ≤ 5
  fn : ∀ t, cur = some t → Fine t ∧ t.name ∉ ab.map (·.name) ∧ ab.length < 5 ∧ ∀ k ∈ t.keys, k.Nodup
theorem nameOf_new {r st : T} {tk : List T} {w : T} (h : nameOf r st tk = some w) : w ∉ tk := by
  unfold nameOf newName at h
  cases hw : words [r] 0 st with
  | none => rw [hw] at h; cases h
  | some ws =>
    rw [hw] at h
    dsimp only at h
    by_cases q : (ws.length == 1 && (isName (ws.headD []) && !tk.contains (ws.headD []))) = true
    · rw [if_pos q] at h
      have e : ws.headD [] = w := Option.some.inj h
      rw [Bool.and_eq_true, Bool.and_eq_true] at q
      have n := q.2.2
      rw [e, Bool.not_eq_true'] at n
      exact fun z => by
        rw [List.contains_iff_mem.mpr z] at n
        cases n
    · rw [if_neg q] at h; cases h
theorem words_some {r st : T} {ws : List T} (h : words [r] 0 st = some ws) : ws ≠ [] := by
  have h : (if isPre st r then some (splitC 32 (r.drop st.length)) else none) = some ws := h
  split at h
  · cases h; exact splitC_ne 32 _
  · cases h
theorem keyOf_ok {r : T} {t : Tbl} {k : List T} (h : keyOf r t = some k) : k ≠ [] ∧ areDiff k t.cols = true ∧ t.keys.length + 1 ≤ 3 := by
  unfold keyOf at h
  cases hw : words [r] 0 kKey with
  | none => rw [hw] at h; cases h
  | some ws =>
    rw [hw] at h
    dsimp only at h
    split at h
    · rename_i q
      cases h
      rw [Bool.and_eq_true, Bool.and_eq_true, Bool.and_eq_true] at q
      exact ⟨words_some hw, q.1.2, of_decide_eq_true q.2.2⟩
    · cases h
/-- every state keeps it -/
theorem step_good {ab ab' : List Tbl} {r : T} {cur cur' : Option Tbl} (g : Good ab cur) (h : step ab r cur = some (ab', cur')) : Good ab' cur' := by
  cases cur with
  | none =>
    unfold step at h
    dsimp only at h
    cases hw : nameOf r kTable (ab.map (·.name)) with
    | none => rw [hw] at h; cases h
    | some w =>
      rw [hw] at h
      dsimp only [Option.bind] at h
      split at h
      · rename_i l
        cases h
        refine ⟨g.nd, g.l5, fun t e => ?_⟩
        cases e
        exact ⟨⟨by simp, by simp, by simp, fun _ => rfl, fun _ => rfl⟩, nameOf_new hw, l, by simp⟩
      · cases h
  | some t =>
    obtain ⟨fn, new, l, kn⟩ := g.fn t rfl
    unfold step at h
    dsimp only at h
    split at h
    · cases hw : nameOf r kColumn t.cols with
      | none => rw [hw] at h; cases h
      | some w =>
        rw [hw] at h
        dsimp only [Option.bind] at h
        split at h
        · rename_i l5
          cases h
          refine ⟨g.nd, g.l5, fun u e => ?_⟩
          cases e
          exact ⟨⟨by simpa using l5, by simp, by simp, fun _ => rfl, fun _ => rfl⟩, new, l, by simp⟩
        · cases h
    · split at h
      · cases hw : keyOf r t with
        | none => rw [hw] at h; cases h
        | some k =>
          rw [hw] at h
          cases h
          obtain ⟨k0, kd, kl⟩ := keyOf_ok hw
          refine ⟨g.nd, g.l5, fun u e => ?_⟩
          cases e
          refine ⟨⟨fn.c5, by simpa using kl, by simp, fun z => ?_, fun _ => rfl⟩, new, l, fun o ho => ?_⟩
          · have z : t.cols = [] := z
            rw [z] at kd
            obtain ⟨a, s, rfl⟩ : ∃ a s, k = a :: s := by
              cases k with
              | nil => exact absurd rfl k0
              | cons a s => exact ⟨a, s, rfl⟩
            exact absurd (diff_sub kd a List.mem_cons_self) (by simp)
          · have ho : o ∈ t.keys ++ [k] := ho
            rcases List.mem_append.mp ho with z | z
            · exact kn o z
            · rw [List.mem_singleton.mp z]; exact areDiff_nd kd
      · rename_i c2
        split at h
        · cases hw : refOf r ⟨t.name, t.cols, t.keys, []⟩ ab with
          | none => rw [hw] at h; cases h
          | some x =>
            rw [hw] at h
            dsimp only [Option.bind] at h
            split at h
            · cases h
            · split at h
              · rename_i l2
                cases h
                refine ⟨g.nd, g.l5, fun u e => ?_⟩
                cases e
                refine ⟨⟨fn.c5, fn.k3, by simpa using l2, fn.ck, fun z => ?_⟩, new, l, kn⟩
                have z : t.keys = [] := z
                rw [z, fn.kr z] at c2
                exact absurd rfl c2
              · cases h
        · split at h
          · cases h
            refine ⟨?_, by simp; omega, fun u e => by cases e⟩
            rw [List.map_append, List.map_singleton]
            refine List.nodup_append.mpr ⟨g.nd, by simp, fun a ha b hb e => ?_⟩
            rw [List.mem_singleton.mp hb] at e
            exact new (e ▸ ha)
          · cases h
theorem good0 : Good [] none := ⟨by simp, by simp, fun t e => by cases e⟩
end Cn
set_option Elab.async false
set_option linter.all false
set_option maxRecDepth 100000
set_option maxHeartbeats 2000000
/-! Cn.M18: texts with things changed: how long they get, how many blanks they have, which signs. -/
namespace Cn
open PySem L2
/-- signs and blanks of pieces that are joined by a sign -/
theorem join_len (c : Nat) : ∀ ps : List T, ps ≠ [] → (joinT [c] ps).length + 1 = (ps.map List.length).sum + ps.length
  | [], h => absurd rfl h
  | [p], _ => by simp [joinT]
  | p :: q :: r, _ => by
    have ih := join_len c (q :: r) (by simp)
    simp only [joinT, List.length_append, List.map_cons, List.sum_cons, List.length_cons, List.length_nil] at ih ⊢
    omega
theorem join_cnt (c x : Nat) : ∀ ps : List T, ps ≠ [] → (joinT [c] ps).count x + (if c = x then 1 else 0) = (ps.map (List.count x)).sum + (if c = x then ps.length else 0)
  | [], h => absurd rfl h
  | [p], _ => by simp [joinT]
  | p :: q :: r, _ => by
    have ih := join_cnt c x (q :: r) (by simp)
    simp only [joinT, List.count_append, List.map_cons, List.sum_cons, List.length_cons, List.length_nil, List.count_cons, List.count_nil] at ih ⊢
    by_cases h : c = x
    · subst h
      simp at ih ⊢
      omega
    · have h2 : (c == x) = false := beq_eq_false_iff_ne.mpr h
      simp [h, h2] at ih ⊢
      omega
theorem join_mem {c x : Nat} : ∀ {ps : List T}, x ∈ joinT [c] ps → x = c ∨ ∃ p ∈ ps, x ∈ p
  | [], h => by simp [joinT] at h
  | [p], h => .inr ⟨p, by simp, by simpa [joinT] using h⟩
  | p :: q :: r, h => by
    simp only [joinT, List.mem_append] at h
    rcases h with h | h | h
    · exact .inr ⟨p, by simp, h⟩
    · exact .inl (by simpa using h)
    · rcases join_mem h with z | ⟨o, ho, z⟩
      · exact .inl z
      · exact .inr ⟨o, List.mem_cons_of_mem _ ho, z⟩
/-- the weight of pieces: their signs, or their x-s, and one each -/
def wl (ps : List T) : Nat := (ps.map List.length).sum + ps.length
def wx (c x : Nat) (ps : List T) : Nat := (ps.map (List.count x)).sum + (if c = x then ps.length else 0)
theorem wl_split (c : Nat) (t : T) : wl (splitC c t) = t.length + 1 := by
  have := join_len c (splitC c t) (splitC_ne c t)
  rw [join_split] at this
  exact this.symm
theorem wx_split (c x : Nat) (t : T) : wx c x (splitC c t) = t.count x + (if c = x then 1 else 0) := by
  have := join_cnt c x (splitC c t) (splitC_ne c t)
  rw [join_split] at this
  exact this.symm
theorem wl_app (a b : List T) : wl (a ++ b) = wl a + wl b := by simp [wl]; omega
theorem wx_app (c x : Nat) (a b : List T) : wx c x (a ++ b) = wx c x a + wx c x b := by
  unfold wx
  by_cases h : c = x <;> simp [h] <;> omega
theorem wl_one (p : T) : wl [p] = p.length + 1 := by simp [wl]
theorem wx_one (c x : Nat) (p : T) : wx c x [p] = p.count x + (if c = x then 1 else 0) := by
  unfold wx; by_cases h : c = x <;> simp [h]
theorem wl_perm {a b : List T} (h : a.Perm b) : wl a = wl b := by
  unfold wl
  rw [h.length_eq, (h.map List.length).sum_nat]
theorem wx_perm {c x : Nat} {a b : List T} (h : a.Perm b) : wx c x a = wx c x b := by
  unfold wx
  rw [h.length_eq, (h.map (List.count x)).sum_nat]
theorem wl_mem {p : T} : ∀ {ps : List T}, p ∈ ps → p.length + 1 ≤ wl ps
  | q :: r, h => by
    have e : wl (q :: r) = wl [q] + wl r := wl_app [q] r
    rw [e, wl_one]
    rcases List.mem_cons.mp h with z | z
    · rw [z]; omega
    · have := wl_mem z; omega
theorem wx_mem {c x : Nat} {p : T} : ∀ {ps : List T}, p ∈ ps → p.count x + (if c = x then 1 else 0) ≤ wx c x ps
  | q :: r, h => by
    have e : wx c x (q :: r) = wx c x [q] + wx c x r := wx_app c x [q] r
    rw [e, wx_one]
    rcases List.mem_cons.mp h with z | z
    · rw [z]; omega
    · have := wx_mem (c := c) (x := x) z; omega
theorem wl_split2 (ps : List T) (i : Nat) : wl ps = wl (ps.take i) + wl (ps.drop i) := by rw [← wl_app, List.take_append_drop]
theorem wx_split2 (c x : Nat) (ps : List T) (i : Nat) : wx c x ps = wx c x (ps.take i) + wx c x (ps.drop i) := by rw [← wx_app, List.take_append_drop]
theorem wl_set (ps : List T) (i : Nat) (p : T) : wl (ps.set i p) ≤ wl ps + (p.length + 1) := by
  by_cases h : i < ps.length
  · rw [List.set_eq_take_append_cons_drop, if_pos h]
    have e : ps.take i ++ p :: ps.drop (i + 1) = ps.take i ++ ([p] ++ ps.drop (i + 1)) := rfl
    have e2 := wl_split2 ps i
    have e3 := wl_split2 (ps.drop i) 1
    rw [List.drop_drop] at e3
    rw [e, wl_app, wl_app, wl_one]
    have : i + 1 = 1 + i := by omega
    omega
  · rw [List.set_eq_of_length_le (by omega)]; omega
theorem wx_set (c x : Nat) (ps : List T) (i : Nat) (p : T) : wx c x (ps.set i p) ≤ wx c x ps + (p.count x + 1) := by
  by_cases h : i < ps.length
  · rw [List.set_eq_take_append_cons_drop, if_pos h]
    have e : ps.take i ++ p :: ps.drop (i + 1) = ps.take i ++ ([p] ++ ps.drop (i + 1)) := rfl
    have e2 := wx_split2 c x ps i
    have e3 := wx_split2 c x (ps.drop i) 1
    rw [List.drop_drop] at e3
    rw [e, wx_app, wx_app, wx_one]
    have : (if c = x then 1 else 0) ≤ 1 := by split <;> omega
    omega
  · rw [List.set_eq_of_length_le (by omega)]; omega
theorem wl_ins (ps : List T) (i : Nat) (p : T) : wl (ps.take i ++ [p] ++ ps.drop i) = wl ps + (p.length + 1) := by
  rw [wl_app, wl_app, wl_one]
  have := wl_split2 ps i
  omega
theorem wx_ins (c x : Nat) (ps : List T) (i : Nat) (p : T) : wx c x (ps.take i ++ [p] ++ ps.drop i) ≤ wx c x ps + (p.count x + 1) := by
  rw [wx_app, wx_app, wx_one]
  have := wx_split2 c x ps i
  have : (if c = x then 1 else 0) ≤ 1 := by split <;> omega
  omega
theorem wl_erase (ps : List T) (i : Nat) : wl (ps.eraseIdx i) ≤ wl ps := by
  rw [List.eraseIdx_eq_take_drop_succ, wl_app]
  have e2 := wl_split2 ps i
  have e3 := wl_split2 (ps.drop i) 1
  rw [List.drop_drop] at e3
  omega
theorem wx_erase (c x : Nat) (ps : List T) (i : Nat) : wx c x (ps.eraseIdx i) ≤ wx c x ps := by
  rw [List.eraseIdx_eq_take_drop_succ, wx_app]
  have e2 := wx_split2 c x ps i
  have e3 := wx_split2 c x (ps.drop i) 1
  rw [List.drop_drop] at e3
  omega
theorem wl_take (ps : List T) (i : Nat) : wl (ps.take i) ≤ wl ps := by have := wl_split2 ps i; omega
theorem wx_take (c x : Nat) (ps : List T) (i : Nat) : wx c x (ps.take i) ≤ wx c x ps := by have := wx_split2 c x ps i; omega
theorem join_wl (c : Nat) (ps : List T) : (joinT [c] ps).length ≤ wl ps := by
  cases ps with
  | nil => simp [joinT]
  | cons p r =>
    have : (joinT [c] (p :: r)).length + 1 = wl (p :: r) := join_len c (p :: r) (by simp)
    omega
theorem join_wx (c x : Nat) (ps : List T) : (joinT [c] ps).count x ≤ wx c x ps := by
  cases ps with
  | nil => simp [joinT]
  | cons p r =>
    have : _ = wx c x (p :: r) := join_cnt c x (p :: r) (by simp)
    omega
theorem split_mem {c x : Nat} {t p : T} (hp : p ∈ splitC c t) (hx : x ∈ p) : x ∈ t := by
  have e := join_split c t
  have : ∀ {ps : List T}, p ∈ ps → x ∈ joinT [c] ps := fun {ps} => by
    induction ps with
    | nil => intro h; cases h
    | cons q r ih =>
      intro h
      cases r with
      | nil => rw [List.mem_singleton.mp h] at hx; simpa [joinT] using hx
      | cons s r =>
        simp only [joinT, List.mem_append]
        rcases List.mem_cons.mp h with z | z
        · exact .inl (by rw [← z]; exact hx)
        · exact .inr (.inr (ih z))
  rw [← e]
  exact this hp
theorem swap_perm {ps : List T} {i j : Nat} {a b : T} (hi : ps[i]? = some a) (hj : ps[j]? = some b) : ((ps.set i b).set j a).Perm ps := by
  obtain ⟨h1, rfl⟩ := List.getElem?_eq_some_iff.mp hi
  obtain ⟨h2, rfl⟩ := List.getElem?_eq_some_iff.mp hj
  exact List.set_set_perm h1 h2
/-- words of a row -/
theorem words_cnt {c : Nat} {t r : T} (h : r ∈ splitC c t) : (splitC 32 r).length ≤ t.count 32 + 1 := by
  have h1 := wx_split 32 32 r
  have h2 := wx_mem (c := c) (x := 32) h
  rw [wx_split] at h2
  have e : (splitC 32 r).length ≤ wx 32 32 (splitC 32 r) := by unfold wx; simp
  simp only [if_true] at h1
  omega
theorem split_row_len {c : Nat} {t r : T} (h : r ∈ splitC c t) : r.length ≤ t.length := splitC_mem c t r h
end Cn
set_option Elab.async false
set_option linter.all false
set_option maxRecDepth 100000
set_option maxHeartbeats 4000000
/-! Cn.B22: len(set(l)), l a list of texts. -/
namespace Cn
open PySem PySem.Spec PyProof.Rows L2
section
variable {prog : Program} {w : World} {A : Around} {E : Value → Shared → Prop} {s : Shared}
/-- set(l) -/
theorem set_of_list {l : Addr} {its : Array Value} {xs : List Str} {Q : Value → Shared → Prop} (hh : A.handled = none) (hl : s.heap.IsList l its) (hi : StrsAre its.toList xs) (hb : xs.length + 1 < scanBound)
    (h : ∀ (h' : Heap) (tk : Nat), h'.SetOf (PySem.strKind prog w) s.heap.objs.size (fun k => (met xs xs.length).any (· == k)) (met xs xs.length).length → (∀ b o, b < s.heap.objs.size → s.heap.get? b = some o → h'.get? b = some o) →
      Q (.ref s.heap.objs.size) { s with heap := h', toks := tk }) : wpAny (model prog w) A (call (.type "set") [.ref l]) Q E s := by
  obtain ⟨c, tl, mro⟩ := PySem.F.called_set.mro
  have made := PySem.F.called_set.made
  have sub := PySem.F.called_set.sub
  refine wpAny_call (codeAny_of_tree ?_)
  show wpAny _ _ (callAny (.type "set") _) _ _ _
  refine wpAny_pure ⟨Code.quiet_builtin _ (by decide +kernel), codeAny_builtin PySem.F.entry_type_call ?_⟩
  rw [Around.under_plain (weight_type_call_type "set" [.ref l] []) rfl]
  have nt := PySem.F.called_set.notType
  have cc := PySem.F.called_set.canCreate
  have tc := PySem.F.typeCall_set_1 (.ref l)
  repeat (any_goals (first | assumption | wp_step))
  refine codeAny_mono (code_set_new_1 (.ref l) (E := E) (Q₁ := fun u s1 => ∃ led, u = .ref s.heap.objs.size ∧ s1 = { s with heap := s.heap.push (newSet led) }) fun led => ⟨led, rfl, rfl⟩) fun r s1 hr => ?_
  cases r with
  | error e => exact hr
  | ok fl =>
    cases fl with
    | ret u =>
      obtain ⟨led, rfl, rfl⟩ := hr
      have atS : (s.heap.push (newSet led)).get? s.heap.objs.size = some (newSet led) := Heap.get?_push_size _ rfl
      have isS : Shared.TypeIs { s with heap := s.heap.push (newSet led) } (.ref s.heap.objs.size) "set" := ⟨_, atS, rfl⟩
      have il := PySem.F.called_set.init.lookup
      have ib := PySem.F.called_set.init.bind (.ref s.heap.objs.size)
      repeat (any_goals (first | assumption | wp_step))
      refine codeAny_mono (codeAny_call_builtin (R := wants (fun u s2 => u = .none ∧ ∃ h' tk, s2 = { s with heap := h', toks := tk } ∧ h'.SetOf (PySem.strKind prog w) s.heap.objs.size (fun k => (met xs xs.length).any (· == k)) (met xs xs.length).length ∧
        (∀ b o, b < s.heap.objs.size → s.heap.get? b = some o → h'.get? b = some o)) E) PySem.F.called_set.init.plain PySem.F.entry_set_init (check_set_init_1 isS ?_)) fun r2 s2 hr2 => ?_
      · obtain ⟨⟨oc, od, odt, osl⟩, ho, ec, nl, ed⟩ := hl
        simp only at ec ed
        subst ec; subst ed
        have ho' : (s.heap.push (newSet led)).get? l = some { cls := .type "list", dict := od, data := .seq its nl, slots := osl } := Heap.get?_push_of_some _ ho
        have s1 := PySem.F.sub_list_set
        have s2 := PySem.F.sub_list_frozenset
        have nd : (Value.type "list" == Value.type "dict") = false := by decide
        have hl1 : (s.heap.push (newSet led)).IsList l its := ⟨_, ho', rfl, nl, rfl⟩
        unfold Builtin.«set.__init__» noKeywords Builtin.Frozenset.updateFrom
        generalize gP : pyIter = PI
        wp_walk
        subst gP
        refine wpAny_pyIter_list hl1 (wpAny_bind (wpAny_runValue ?_))
        have ltl : l < s.heap.objs.size := Heap.lt_size ho
        have h3 : A.in1.in1.in1.handled = none := by simp [hh]
        have nI : l ≠ (s.heap.push (newSet led)).objs.size := by
          rw [Heap.size_push]
          exact Nat.ne_of_lt (Nat.lt_succ_of_lt ltl)
        have nF : s.heap.objs.size ∉ [(s.heap.push (newSet led)).objs.size, l] := by
          rw [Heap.size_push]
          simp only [List.mem_cons, List.not_mem_nil, or_false, not_or]
          exact ⟨Nat.ne_of_lt (Nat.lt_succ_self _), Nat.ne_of_gt ltl⟩
        have sz : xs.length = its.size := by rw [← StrsAre.len_eq hi, Array.length_toList]
        refine fill_texts ((Walks.list h3 _ l nI its).toS) s.heap.objs.size nF xs sz (by rw [← sz]; exact hb) (fun i v hix e => str_item hi i v hix (by rw [Array.getElem?_toList]; exact e)) (its.size - 0) 0 _ (by omega) (Nat.zero_le _)
          ⟨⟨_, Heap.get?_push_size _ rfl, rfl, rfl⟩, (hl1.push _)⟩ ?c1 ?c2
        case c1 =>
          exact SetOf_congr ((setObjOf_fresh (knd := PySem.strKind prog w) led).setOf (Heap.get?_push_of_some _ atS) (by unfold scanBound; omega)) (fun _ => rfl) rfl
        case c2 =>
          rw [← sz]
          rintro ⟨h', g', d', tk', os'⟩ mv hS'
          have eg : g' = s.gens := mv.gens
          have ed : d' = s.drawn := mv.drawn
          have eo : os' = s.os := mv.os
          subst eg; subst ed; subst eo
          show wpAny _ _ _ _ _ _
          refine wpAny_pure ?_
          show wpAny _ _ (ret Value.none) _ _ _
          refine wpAny_pure ⟨rfl, h', tk', rfl, hS', fun b o hlt e => ?_⟩
          refine mv.heap b o ?_ (Heap.get?_push_of_some _ (Heap.get?_push_of_some _ e))
          rw [Heap.size_push]
          simp only [List.mem_cons, List.not_mem_nil, or_false, not_or]
          exact ⟨Nat.ne_of_lt hlt, Nat.ne_of_lt (Nat.lt_succ_of_lt hlt)⟩
      · cases r2 with
        | error e => exact hr2
        | ok f2 =>
          cases f2 with
          | ret u2 =>
            obtain ⟨rfl, h', tk, rfl, hS', hk⟩ := hr2
            repeat (any_goals (first | assumption | wp_step))
            exact h _ _ hS' hk
          | _ => exact hr2.elim
    | _ => exact hr.elim
end
section
variable {X : Cx}
/-- len(set(l)) -/
def tLenSetL (K : PySem.W.Frag) (ta : TE) : TE := fun σ H Q => ta σ H fun x H1 => ∃ l, ∃ xs : List Str, x = .ref l ∧ SqL K H1 l (xs.map V.str) ∧ xs.length ≤ 4000 ∧ Q (.int ((met xs xs.length).length : Nat)) H1
theorem p_lenSetL {a : Expr} {ta : TE} {p p2 q pos : Pos} (hc : X.calm = true) (hg : Gl X "len") (hm : X.mg "len" = none) (hg2 : Gl X "set") (hm2 : X.mg "set" = none) (ha : PE X a ta)
    (na : starEach [a] X.env = (false, eval a X.env) :: starEach [] X.env := by rfl) : PE X (.Call (.Name "len" p) [.Call (.Name "set" p2) [a] [] q] [] pos) (tLenSetL X.K ta) := by
  refine ⟨fun pins s σ H Q I h => Call_ (ld_blt I hg hm boot_len (callWith_builtin1 (args_cons ?_ rfl) rfl rfl))⟩
  refine Call_ (ld_blt I hg2 hm2 boot_set (callWith_type1 (args_cons (thn (ha.run pins s σ H _ I h) fun v s1 ⟨x, H1, I1, r1, q1⟩ => args_nil ?_) na) na rfl))
  obtain ⟨l, xs, rfl, hq, hz, q1⟩ := q1
  cases r1
  obtain ⟨its, r, ⟨oo, nn, pe, pc, _, pd⟩, _⟩ := I1.list hq
  refine set_of_list (I1.ok.hd hc) ⟨oo, pe, pc, nn, pd⟩ (by simpa using strsAre_of r) (by unfold scanBound; omega) fun h' tk hS hk => args_nil ?_
  obtain ⟨o, es, ep, t, ho, hex, hd, _, _, _, hf, hn⟩ := hS
  have I2 : Inv X pins σ H1 { s1 with heap := h', toks := tk } := I1.kept fun b o e => hk b o (Heap.lt_size e) e
  have le := met_le xs xs.length (Nat.le_refl _)
  exact call_len_set ho hex hd hf (by rw [hn]; omega) ⟨.int ((met xs xs.length).length : Nat), H1, I2.tok _, ⟨_, by rw [hn]⟩, q1⟩
theorem p_lenSetLK {a : Expr} {ta : TE} {p p2 q pos : Pos} (K : PySem.W.Frag) (h : X.K = K) (hc : X.calm = true) (hg : Gl X "len") (hm : X.mg "len" = none) (hg2 : Gl X "set") (hm2 : X.mg "set" = none) (ha : PE X a ta)
    (na : starEach [a] X.env = (false, eval a X.env) :: starEach [] X.env := by rfl) : PE X (.Call (.Name "len" p) [.Call (.Name "set" p2) [a] [] q] [] pos) (tLenSetL K ta) := by subst h; exact p_lenSetL hc hg hm hg2 hm2 ha na
end
end Cn
set_option Elab.async false
set_option linter.all false
set_option maxRecDepth 100000
set_option maxHeartbeats 2000000
/-! Cn.B23: a dict from the names of tables to their main keys as lists; what stands for an open table. -/
namespace Cn
open PySem L2
/-- a list of words -/
def LR (H : Hp) (v : V) (o : List T) : Prop := ∃ p, v = .ref p ∧ H p = some (.lst (svs o))
def DictL (H : Hp) (d : Addr) (ab : List Tbl) : Prop := ∃ vs, H d = some (.dK (dk ab vs)) ∧ Each (LR H) vs (ab.map fun t => t.keys.headD [])
theorem DictL.get {H : Hp} {d : Addr} {ab : List Tbl} (h : DictL H d ab) (nd : (ab.map (·.name)).Nodup) (n : T) : ∃ o, DGet H d (sv n) o ∧ ((ab.find? fun a => a.name == n) = none → o = none) ∧ ∀ a, (ab.find? fun a => a.name == n) = some a → ∃ v, o = some v ∧ LR H v (a.keys.headD []) := by
  obtain ⟨vs, e, hk⟩ := h
  refine ⟨valV (dk ab vs) (.inr (S n)), DGet.k (k := .inr (S n)) e, fun hn => ?_, fun a ha => ?_⟩
  · refine dk_none fun z => ?_
    obtain ⟨t, ht, en⟩ := List.mem_map.mp z
    have := List.find?_eq_none.mp hn t ht
    exact this (by rw [en]; exact beq_self_eq_true _)
  · have hm := List.mem_of_find?_eq_some ha
    have en : a.name = n := eq_of_beq (List.find?_some (p := fun a : Tbl => a.name == n) ha)
    obtain ⟨i, hi, rfl⟩ := List.getElem_of_mem hm
    have h1 : ab[i]? = some ab[i] := List.getElem?_eq_getElem hi
    have h2 : (ab.map fun t => t.keys.headD [])[i]? = some (ab[i].keys.headD []) := by rw [List.getElem?_map, h1]; rfl
    obtain ⟨v, hv, kv⟩ := hk.atx h2
    have g := dk_get nd h1 hv
    rw [en] at g
    exact ⟨v, g, kv⟩
theorem DictL.keep {H H' : Hp} {d : Addr} {ab : List Tbl} (b : But [] H H') (h : DictL H d ab) : DictL H' d ab := by
  obtain ⟨vs, e, hk⟩ := h
  exact ⟨vs, b.at e, hk.mono fun _ _ ⟨p, q, z⟩ => ⟨p, q, b.at z⟩⟩
/-- an open table: its lists stand apart -/
structure OpenR (H : Hp) (ta cl kl rl : Addr) (vk vr : List V) (t : Tbl) : Prop where
  tup : H ta = some (.tup [sv t.name, .ref cl, .ref kl, .ref rl])
  cols : H cl = some (.lst (svs t.cols))
  keys : H kl = some (.lst vk)
  refs : H rl = some (.lst vr)
  ek : Each (LR H) vk t.keys
  er : Each (LR H) vr (t.refs.map (·.1))
  ck : cl ≠ kl
  cr : cl ≠ rl
  kr : kl ≠ rl
  apart : ∀ p, (V.ref p ∈ vk ∨ V.ref p ∈ vr) → p ≠ cl ∧ p ≠ kl ∧ p ≠ rl
theorem OpenR.keep {H H' : Hp} {ta cl kl rl : Addr} {vk vr : List V} {t : Tbl} (b : But [] H H') (h : OpenR H ta cl kl rl vk vr t) : OpenR H' ta cl kl rl vk vr t :=
  ⟨b.at h.tup, b.at h.cols, b.at h.keys, b.at h.refs, h.ek.mono fun _ _ ⟨p, q, z⟩ => ⟨p, q, b.at z⟩, h.er.mono fun _ _ ⟨p, q, z⟩ => ⟨p, q, b.at z⟩, h.ck, h.cr, h.kr, h.apart⟩
end Cn
set_option Elab.async false
set_option linter.all false
set_option maxRecDepth 100000
set_option maxHeartbeats 4000000
/-! the second reader: names, columns, keys -/
namespace Cn
open PySem L2
/-- a text whose signs can be written -/
def okS (t : Cn.T) : Prop := PyData.strOk (S t) = true
theorem okS_iff {t : Cn.T} : okS t ↔ ∀ c ∈ t, PyData.strOk (S [c]) = true := by
  unfold okS PyData.strOk S
  simp only [List.all_toArray, List.all_eq_true, List.mem_singleton, forall_eq]
theorem lay_any : ∀ xs : List Cn.T, (∀ w ∈ xs, okS w) → PyData.canLayAll0 (xs.map fun l => PyData.str (S l)) = true ∧ PyData.depthAll (xs.map fun l => PyData.str (S l)) ≤ 1
  | [], _ => ⟨by simp [PyData.canLayAll0], by simp [PyData.depthAll]⟩
  | a :: r, hn => by
    obtain ⟨h1, h2⟩ := lay_any r fun w hw => hn w (List.mem_cons_of_mem _ hw)
    have h0 : PyData.strOk (S a) = true := hn a List.mem_cons_self
    rw [List.map_cons]
    refine ⟨by simp [PyData.canLayAll0, PyData.canLay0, h1, h0], ?_⟩
    simp only [PyData.depthAll, PyData.depth]
    omega
theorem shaped_any (ls : List Cn.T) (hn : ∀ w ∈ ls, okS w) : SeqAt.shaped (.list (ls.map fun l => PyData.str (S l))) = true := by
  obtain ⟨h1, h2⟩ := lay_any ls hn
  unfold SeqAt.shaped
  simp only [PyData.canLay0, PyData.depth, h1, Bool.true_and]
  exact decide_eq_true (by omega)
/-- a list of texts at a place == [] -/
theorem eq_nilV {K : PySem.W.Frag} {H : Hp} {a : Addr} {ls : List Cn.T} {σ : L2.St} {Q : VK} (e : H a = some (.lst (svs ls))) (hn : ∀ w ∈ ls, okS w) (k : ∀ H', But [] H H' → Q (.bl ls.isEmpty) H') :
    tLst tNil σ H fun y H2 => rEqD K (.ref a) y H2 Q := by
  refine ⟨szl (by simp), fun p hp => ?_⟩
  refine ⟨.list (ls.map fun l => .str (S l)), .list [], .lst (SqL.of ((newB hp).at e)) (dpAll_svs ls), .lst (SqL.of upd_same) .nil, shaped_any ls hn, rfl, ?_⟩
  have e2 : (PyData.list (ls.map fun l => PyData.str (S l))).eqv (PyData.list []) = ls.isEmpty := by cases ls <;> rfl
  rw [e2]
  exact k _ (newB hp)
def azL : Cn.T := [97, 98, 99, 100, 101, 102, 103, 104, 105, 106, 107, 108, 109, 110, 111, 112, 113, 114, 115, 116, 117, 118, 119, 120, 121, 122]
theorem az_mem (c : Nat) : decide (c ∈ azL) = (decide (97 ≤ c) && decide (c ≤ 122)) := by
  rw [Bool.eq_iff_iff]
  simp only [azL, List.mem_cons, List.not_mem_nil, or_false, decide_eq_true_eq, Bool.and_eq_true]
  omega
theorem az_filter : ∀ l : Cn.T, (chs l).filterMap (fun v => match v with | .str z => if (!decide (z.cps.toList.headD 0 ∈ azL)) = true then some v else none | _ => none) = svs ((l.filter fun c => !decide (c ∈ azL)).map fun c => [c])
  | [] => rfl
  | c :: r => by
    have ih := az_filter r
    show ((V.str ⟨#[c]⟩ :: chs r).filterMap _) = _
    rw [List.filter_cons, List.filterMap_cons]
    have hc : ((⟨#[c]⟩ : Str).cps.toList.headD 0) = c := rfl
    dsimp only
    rw [hc]
    by_cases h : (!decide (c ∈ azL)) = true
    · rw [if_pos h, if_pos h, ih]; rfl
    · rw [if_neg h, if_neg h, ih]
theorem out_svs (cs : List Cn.T) : ∀ o : List Cn.T, (svs o).filterMap (fun v => if inV v (svs cs) then none else some v) = svs (o.filter fun c => !cs.contains c)
  | [] => rfl
  | c :: r => by
    have ih := out_svs cs r
    show ((sv c :: svs r).filterMap fun v => if inV v (svs cs) then none else some v) = _
    rw [List.filterMap_cons, inV_svs, List.filter_cons]
    cases cs.contains c with
    | true => exact ih
    | false =>
      show sv c :: _ = _
      rw [ih]; rfl
theorem sq_guard {tt : TT} {x u : TS} {D : Ends} {σ : L2.St} {H : Hp} (c : Bool) (h : ∀ Q' : Bool → Hp → Prop, (∀ H', But [] H H' → Q' c H') → tt σ H Q') (ky : c = true → ∀ H', But [] H H' → x { D with nx := u D } σ H') (kn : c = false → ∀ H', But [] H H' → u D σ H') : tSeq (tIfS tt x tNext) u D σ H :=
  h _ fun H' b => by
    cases c with
    | true => exact iteT (ky rfl H' b)
    | false => exact iteF (kn rfl H' b)
theorem if_guard {tt : TT} {x : TS} {D : Ends} {σ : L2.St} {H : Hp} (c : Bool) (h : ∀ Q' : Bool → Hp → Prop, (∀ H', But [] H H' → Q' c H') → tt σ H Q') (ky : c = true → ∀ H', But [] H H' → x D σ H') (kn : c = false → ∀ H', But [] H H' → D.nx σ H') : tIfS tt x tNext D σ H :=
  h _ fun H' b => by
    cases c with
    | true => exact iteT (ky rfl H' b)
    | false => exact iteF (kn rfl H' b)
section
variable {P : Program} {w : World} {K : PySem.W.Frag} {mg : Str → Option Value} {base : Heap} {CR CT CS CI : Addr} {f : Addr} {fd : FuncData}
theorem sc__law_is_name : FnScope ["word", "sign"] ["word"] (defScope s__law_is_name) := ⟨rfl, rfl, rfl, by decide +kernel, rfl, by decide +kernel, by decide +kernel⟩
theorem sc__law_are_columns : FnScope ["part", "columns", "one"] ["part", "columns"] (defScope s__law_are_columns) := ⟨rfl, rfl, rfl, by decide +kernel, rfl, by decide +kernel, by decide +kernel⟩
theorem sc__law_is_key : FnScope ["key", "columns", "keys", "other", "shared", "column"] ["key", "columns", "keys"] (defScope s__law_is_key) := ⟨rfl, rfl, rfl, by decide +kernel, rfl, by decide +kernel, by decide +kernel⟩
def sp_isname4 : Sp := fun vs H Q _ => ∃ l : Cn.T, vs = [sv l] ∧ l.length ≤ 1000001 ∧ okS l ∧ ∀ H', But [] H H' → Q (.bl (isName l)) H'
theorem ok_isname4 (F : Fun K "_law_is_name" "_law_is_name" s__law_is_name f fd) (T : LTx K mg CR CT CS CI) : FnOk P w K mg base (L2.CX P w) 1 f fd ["word"] sp_isname4 := by
  refine F.okX sc__law_is_name (fun vs H Q E h => ?_) (fun cdv A outer s H vs Q E hr h => ?_)
  · obtain ⟨l, rfl, _⟩ := h
    rfl
  · obtain ⟨l, rfl, hz, hok, k⟩ := h
    have hz' : (S l).length ≤ sizeLine := szl (by rw [S_len]; omega)
    refine ⟨_, (pss_cons (ps_if (pt_not (pt_chain op_le op_le pe_int (pe_callB call_len_str (by rfl) T.b_len (by decide +kernel) (pa_cons (pv 0) pa_nil)) pe_int))
  (pss_one (ps_ret pe_bl))
  pss_nil)
  (pss_one (ps_ret (pe_cmpR (op_eqDK K rfl hr.units) (pe_lc (own := [("sign", 1)]) (g := gName 1) (by rfl) sc__law_is_name.nd (pi_str (pv 0)) (blkOk_by (own := [("sign", 1)]) (N := ["word", "sign"]) (sc := (defScope s__law_is_name)) (by decide +kernel)) (fun _ _ _ _ _ => (pg_name (i := 1) sc__law_is_name.nd rfl (Or.inl rfl))) (fun _ _ _ _ _ => (pts_one (pt_cmpR L2.op_notInS (pv 1) pe_str (by rfl)))) (fun _ _ _ _ _ => (pv 1))) (pe_lst pa_nil) (nomark _))))), ?_⟩
    unfold isName at k
    refine ⟨_, rfl, _, rfl, hz', 1, ((S l).length : Nat), rfl, rfl, _, rfl, ?_⟩
    rw [S_len]
    refine ite2 (fun h1 => ?_) (fun h1 => ?_)
    · have h1' : 1 ≤ l.length := by have := of_decide_eq_true h1; omega
      rw [decide_eq_true h1', Bool.true_and] at k
      refine ⟨_, 8, rfl, rfl, _, rfl, ?_⟩
      refine ite2 (fun h2 => ?_) (fun h2 => ?_)
      · have h2' : ¬ l.length ≤ 8 := fun z => by
          have : decide ((l.length : Int) ≤ 8) = true := decide_eq_true (by omega)
          rw [this] at h2
          cases h2
        rw [decide_eq_false h2', Bool.false_and] at k
        exact k _ But.refl
      · have h2' : l.length ≤ 8 := by
          by_cases z : (l.length : Int) ≤ 8
          · omega
          · rw [decide_eq_false z] at h2; exact absurd rfl h2
        rw [decide_eq_true h2', Bool.true_and] at k
        refine ⟨_, rfl, _, rfl, fun D hD => ?_⟩
        refine lc_pure (chs l) (fun v => match v with | .str z => if (!decide (z.cps.toList.headD 0 ∈ azL)) = true then some v else none | _ => none) walk_S rfl yat (fun _ => trivial) (fun i x acc N hx hl hy hn => ?_) ?_
        · obtain ⟨c, hc, rfl⟩ : ∃ c, l[i]? = some c ∧ x = .str ⟨#[c]⟩ := by
            unfold chs at hx
            rw [List.getElem?_map] at hx
            cases e : l[i]? with
            | none => rw [e] at hx; cases hx
            | some c => rw [e] at hx; exact ⟨c, rfl, (Option.some.inj hx).symm⟩
          have hl' : acc.length < sizeLine := szt (by have := (List.getElem?_eq_some_iff.mp hc).1; omega)
          refine ⟨rfl, _, rfl, c, _, rfl, rfl, _, rfl, ?_⟩
          refine ite2 (fun h3 => ?_) (fun h3 => ?_)
          · exact ⟨_, rfl, lc_put hl' (hy _ (if_pos h3))⟩
          · exact hn (if_neg h3)
        · have ef : (chs l).filterMap (fun v => match v with | .str z => if (!decide (z.cps.toList.headD 0 ∈ azL)) = true then some v else none | _ => none) = svs ((l.filter fun c => !decide (c ∈ azL)).map fun c => [c]) := az_filter l
          rw [ef]
          refine eq_nilV (ls := (l.filter fun c => !decide (c ∈ azL)).map fun c => [c]) upd_same (fun w hw => ?_) fun H' b => ?_
          · obtain ⟨c, hc, rfl⟩ := List.mem_map.mp hw
            exact okS_iff.mp hok c (List.mem_filter.mp hc).1
          · have e : ((l.filter fun c => !decide (c ∈ azL)).map fun c => ([c] : Cn.T)).isEmpty = l.all fun c => decide (97 ≤ c) && decide (c ≤ 122) := by
              rw [List.isEmpty_map, Bool.eq_iff_iff, List.isEmpty_iff, List.filter_eq_nil_iff, List.all_eq_true]
              refine forall_congr' fun c => forall_congr' fun hc => ?_
              rw [az_mem c]
              cases (decide (97 ≤ c) && decide (c ≤ 122)) <;> simp
            rw [e]
            exact k _ ((newB hD).trans b)
    · have h1' : ¬ 1 ≤ l.length := fun z => h1 (decide_eq_true (by omega))
      rw [decide_eq_false h1', Bool.false_and] at k
      exact ⟨_, rfl, iteT (k _ But.refl)⟩
def sp_arecols (K : PySem.W.Frag) : Sp := fun vs H Q _ => ∃ (a b : Addr) (ks cs : List Cn.T), vs = [.ref a, .ref b] ∧ H a = some (.lst (svs ks)) ∧ H b = some (.lst (svs cs)) ∧ ks.length ≤ 4000 ∧ (∀ k ∈ ks, okS k) ∧ ∀ H', But [] H H' → Q (.bl (areDiff ks cs)) H'
theorem ok_arecols (F : Fun K "_law_are_columns" "_law_are_columns" s__law_are_columns f fd) (T : LTx K mg CR CT CS CI) : FnOk P w K mg base (L2.CX P w) 1 f fd ["part", "columns"] (sp_arecols K) := by
  refine F.okX sc__law_are_columns (fun vs H Q E h => ?_) (fun cdv A outer s H vs Q E hr h => ?_)
  · obtain ⟨a, b, _, _, rfl, _⟩ := h
    rfl
  · obtain ⟨a, b, ks, cs, rfl, ha, hb, hz, hok, k⟩ := h
    refine ⟨_, (pss_one (ps_ret (pe_and (pe_cmpR op_eq (p_lenSetLK K rfl (by rfl) (by rfl) T.b_len (by rfl) T.b_set (pv 0)) (pe_callB (call_len_seqK K rfl) (by rfl) T.b_len (by decide +kernel) (pa_cons (pv 0) pa_nil)) (nomark _)) (pe_one (pe_cmpR (op_eqDK K rfl hr.units) (pe_lc (own := [("one", 2)]) (g := gName 2) (by rfl) sc__law_are_columns.nd (pi_listK K rfl (pv 0)) (blkOk_by (own := [("one", 2)]) (N := ["part", "columns", "one"]) (sc := (defScope s__law_are_columns)) (by decide +kernel)) (fun _ _ _ _ _ => (pg_name (i := 2) sc__law_are_columns.nd rfl (Or.inl rfl))) (fun _ _ _ _ _ => (pts_one (pt_cmpR (op_notIn_seqK K rfl) (pv 2) (pv 1) (by rfl)))) (fun _ _ _ _ _ => (pv 2))) (pe_lst pa_nil) (nomark _)))))), ?_⟩
    refine ⟨_, rfl, a, ks.map S, rfl, by rw [← svs_str]; exact SqL.of ha, by rw [List.length_map]; exact hz, _, rfl, a, _, rfl, .inl (SqL.of ha), rfl, _, rfl, ?_⟩
    have e : decide (V.int (((met (ks.map S) (ks.map S).length).length : Nat) : Int) = V.int ((svs ks).length : Nat)) = decide ks.Nodup := by
      rw [svs_len, met_nodup]
    rw [e]
    unfold areDiff hasAll at k
    refine ite2 (fun hd => ?_) (fun hd => ?_)
    · rw [hd, Bool.true_and] at k
      refine ⟨_, rfl, a, rfl, ⟨_, SqL.of ha⟩, fun D hD => ?_⟩
      refine lc_pure (svs ks) (fun v => if inV v (svs cs) then none else some v) (walk_list (K := K) (a := a)) rfl yat (fun acc => SqL.of ((newB hD).at ha)) (fun m x acc N hx2 hl2 hy1 hy2 => ?_) ?_
      · obtain ⟨c, hc, rfl⟩ := svs_get hx2
        refine ⟨rfl, _, rfl, _, rfl, b, svs cs, rfl, .inl (SqL.of ((newB hD).at hb)), rfl, flat_svs _, _, rfl, ?_⟩
        have hm : m < ks.length := (List.getElem?_eq_some_iff.mp hc).1
        refine ite2 (fun h => ?_) (fun h => ?_)
        · refine ⟨_, rfl, lc_put (szt (by omega)) (hy1 _ ?_)⟩
          have h : (!inV (sv c) (svs cs)) = true := h
          show (if inV (sv c) (svs cs) = true then none else some (sv c)) = some (sv c)
          rw [Bool.not_eq_true'] at h
          rw [h]; rfl
        · refine hy2 ?_
          have h : ¬ (!inV (sv c) (svs cs)) = true := h
          show (if inV (sv c) (svs cs) = true then none else some (sv c)) = none
          have h2 : inV (sv c) (svs cs) = true := by
            cases q : inV (sv c) (svs cs) with
            | true => rfl
            | false => rw [q] at h; exact absurd rfl h
          rw [h2]; rfl
      · have ef : (svs ks).filterMap (fun v => if inV v (svs cs) then none else some v) = svs (ks.filter fun c => !cs.contains c) := out_svs cs ks
        rw [ef]
        refine eq_nilV (ls := ks.filter fun c => !cs.contains c) upd_same (fun w hw => hok w (List.mem_filter.mp hw).1) fun H' b2 => ?_
        have e2 : (ks.filter fun c => !cs.contains c).isEmpty = ks.all fun o => cs.contains o := by
          rw [Bool.eq_iff_iff, List.isEmpty_iff, List.filter_eq_nil_iff, List.all_eq_true]
          refine forall_congr' fun c => forall_congr' fun hc => ?_
          cases cs.contains c <;> simp
        rw [e2]
        exact k _ ((newB hD).trans b2)
    · rw [Bool.not_eq_true] at hd
      rw [hd, Bool.false_and] at k
      exact k _ But.refl
def sp_iskey (K : PySem.W.Frag) : Sp := fun vs H Q _ => ∃ (a b c : Addr) (k cs : List Cn.T) (vk : List V) (ks : List (List Cn.T)), vs = [.ref a, .ref b, .ref c] ∧ H a = some (.lst (svs k)) ∧ H b = some (.lst (svs cs)) ∧ H c = some (.lst vk) ∧ Each (fun v o => ∃ p, v = .ref p ∧ H p = some (.lst (svs o))) vk ks ∧ k.length ≤ 4000 ∧ (∀ o ∈ ks, o.Nodup) ∧ (∀ w ∈ k, okS w) ∧
  ∀ H', But [] H H' → Q (.bl (keyRight k cs ks)) H'
theorem ok_iskey (F : Fun K "_law_is_key" "_law_is_key" s__law_is_key f fd) (T : LTx K mg CR CT CS CI) (c__law_are_columns : Cal P w K mg base 1 "_law_are_columns" (sp_arecols K)) : FnOk P w K mg base (L2.CX P w) 2 f fd ["key", "columns", "keys"] (sp_iskey K) := by
  refine F.okX sc__law_is_key (fun vs H Q E h => ?_) (fun cdv A outer s H vs Q E hr h => ?_)
  · obtain ⟨a, b, c, _, _, _, _, rfl, _⟩ := h
    rfl
  · obtain ⟨a, b, c, ke, cs, vk, ks, rfl, ha, hb, hc, hk, hz, hnd, hok, k⟩ := h
    refine ⟨_, (pss_cons (ps_if (PW.pt (pw_or (pt_not (pt_chain op_le op_le pe_int (pe_callB (call_len_seqK K rfl) (by rfl) T.b_len (by decide +kernel) (pa_cons (pv 0) pa_nil)) pe_int)) (pw_or (pt_not (pt_val (p_call E c__law_are_columns hr (by decide) (by rfl) (passX rfl rfl rfl (takes_of rfl rfl rfl rfl)) (pa_cons (pv 0) (pa_cons (pv 1) pa_nil))))) (pw_or1 (pt_cmpR op_eq (pe_callB (call_len_seqK K rfl) (by rfl) T.b_len (by decide +kernel) (pa_cons (pv 2) pa_nil)) pe_int (nomark _))))))
  (pss_one (ps_ret pe_bl))
  pss_nil)
  (pss_cons (ps_for (passes_of rfl) (by rfl) (pi_listK K rfl (pv 2)) (pg_name (i := 3) sc__law_is_key.nd rfl (Or.inr rfl))
  (pss_cons (ps_setLc (i := 4) (own := [("column", 5)]) (g := gName 5) (by rfl) sc__law_is_key.nd rfl rfl (sw_true rfl rfl rfl (by decide +kernel)) (pi_listK K rfl (pv 0)) (blkOk_by (own := [("column", 5)]) (N := ["key", "columns", "keys", "other", "shared", "column"]) (sc := (defScope s__law_is_key)) (by decide +kernel)) (fun _ _ _ _ _ => (pg_name (i := 5) sc__law_is_key.nd rfl (Or.inl rfl))) (fun _ _ _ _ _ => (pts_one (pt_cmpR (op_in_seqK K rfl) (pv 5) (pv 3) (by rfl)))) (fun _ _ _ _ _ => (pv 5)))
  (pss_one (ps_if (pt_cmpR (op_in_seqK K rfl) (pe_callB (call_len_seqK K rfl) (by rfl) T.b_len (by decide +kernel) (pa_cons (pv 4) pa_nil)) (pe_lst (pa_cons (pe_callB (call_len_seqK K rfl) (by rfl) T.b_len (by decide +kernel) (pa_cons (pv 0) pa_nil)) (pa_cons (pe_callB (call_len_seqK K rfl) (by rfl) T.b_len (by decide +kernel) (pa_cons (pv 3) pa_nil)) pa_nil))) (by rfl))
  (pss_one (ps_ret pe_bl))
  pss_nil))))
  (pss_one (ps_ret pe_bl)))), ?_⟩
    refine sq_guard (!(((decide (1 ≤ ke.length) && decide (ke.length ≤ 3)) && areDiff ke cs) && !(ks.length == 3))) (fun Q' y => ?_) (fun hc0 H' b0 => ?_) (fun hc0 H' b0 => ?_)
    · refine ⟨_, rfl, a, _, rfl, .inl (SqL.of ha), 1, _, rfl, rfl, _, rfl, ?_⟩
      rw [svs_len]
      refine ite2 (fun h1 => ?_) (fun h1 => ?_)
      · have h1' : 1 ≤ ke.length := by have := of_decide_eq_true h1; omega
        refine ⟨_, 3, rfl, rfl, _, rfl, ?_⟩
        refine ite2 (fun h2 => ?_) (fun h2 => ?_)
        · have h2' : ¬ ke.length ≤ 3 := fun z => by
            have : decide ((ke.length : Int) ≤ 3) = true := decide_eq_true (by omega)
            rw [this] at h2
            cases h2
          rw [decide_eq_false h2', Bool.and_false, Bool.false_and, Bool.false_and] at y
          exact y H But.refl
        · have h2' : ke.length ≤ 3 := by
            by_cases z : (ke.length : Int) ≤ 3
            · omega
            · rw [decide_eq_false z] at h2; exact absurd rfl h2
          rw [decide_eq_true h1', decide_eq_true h2', Bool.and_self, Bool.true_and] at y
          refine ⟨_, rfl, _, rfl, a, b, ke, cs, rfl, ha, hb, hz, hok, fun H1 b1 => ⟨_, rfl, ?_⟩⟩
          cases hd : areDiff ke cs with
          | false =>
            rw [hd] at y
            exact iteT (y H1 b1)
          | true =>
            rw [hd, Bool.true_and, Bool.not_not] at y
            refine iteF ?_
            refine ⟨_, rfl, c, _, rfl, .inl (SqL.of (b1.at hc)), rfl, _, rfl, ?_⟩
            have e : decide (V.int ((vk.length : Nat) : Int) = V.int 3) = (ks.length == 3) := by
              rw [hk.1]
              exact nat_eq ks.length 3
            rw [e]
            exact y H1 b1
      · have h1' : ¬ 1 ≤ ke.length := fun z => h1 (decide_eq_true (by omega))
        rw [decide_eq_false h1', Bool.false_and, Bool.false_and, Bool.false_and] at y
        exact ⟨_, rfl, iteT (y H But.refl)⟩
    · have e : keyRight ke cs ks = false := by
        unfold keyRight
        revert hc0
        cases (decide (1 ≤ ke.length) && decide (ke.length ≤ 3)) <;> cases areDiff ke cs <;> cases (ks.length == 3) <;> simp
      rw [e] at k
      exact k H' b0
    · have hc1 : ((decide (1 ≤ ke.length) && decide (ke.length ≤ 3)) && areDiff ke cs) = true ∧ (!(ks.length == 3)) = true := by
        rw [Bool.not_eq_false', Bool.and_eq_true] at hc0
        exact hc0
      have hnk : ke.Nodup := areDiff_nd ((Bool.and_eq_true _ _).mp hc1.1).2
      have ek : keyRight ke cs ks = ks.all fun o => !(hasAll ke o || hasAll o ke) := by
        unfold keyRight
        rw [((Bool.and_eq_true _ _).mp hc1.1).1, ((Bool.and_eq_true _ _).mp hc1.1).2, hc1.2]; rfl
      rw [ek] at k
      refine ⟨_, rfl, c, rfl, ⟨_, SqL.of (b0.at hc)⟩, ?_⟩
      refine for_it (walk_list (K := K) (a := c) (xs := vk)) (fun i σ H' => (∃ v3 v4 v5, σ = [some (.ref a), some (.ref b), some (.ref c), v3, v4, v5]) ∧ But [] H H' ∧ ∀ o ∈ ks.take i, (!(hasAll ke o || hasAll o ke)) = true) ⟨⟨_, _, _, rfl⟩, b0, by simp⟩ (fun i σ H' _ ⟨_, b, _⟩ => SqL.of (b.at hc)) (fun i x σ H1 H1' hi ⟨⟨v3, v4, v5, es⟩, b1, hi2⟩ yy => ?_) (fun σ H1 ⟨⟨v3, v4, v5, es⟩, b1, hi2⟩ => ?_)
      · obtain ⟨rfl, hx⟩ := yy
        subst es
        obtain ⟨o, ho, oa, rfl, eo⟩ := hk.at hx
        have om := List.mem_of_getElem? ho
        have tk : ks.take (i + 1) = ks.take i ++ [o] := by rw [List.take_add_one, ho]; rfl
        refine ⟨_, rfl, a, rfl, ⟨_, SqL.of (b1.at ha)⟩, fun D hD => ?_⟩
        refine lc_pure (svs ke) (fun v => if inV v (svs o) then some v else none) (walk_list (K := K) (a := a)) rfl yat (fun acc => SqL.of ((newB hD).at (b1.at ha))) (fun m x acc N hx2 hl2 hy1 hy2 => ?_) ?_
        · obtain ⟨cc, hcc, rfl⟩ := svs_get hx2
          refine ⟨rfl, _, rfl, _, rfl, oa, svs o, rfl, .inl (SqL.of ((newB hD).at (b1.at eo))), rfl, flat_svs _, _, rfl, ?_⟩
          have hm : m < ke.length := (List.getElem?_eq_some_iff.mp hcc).1
          refine ite2 (fun h => ?_) (fun h => ?_)
          · exact ⟨_, rfl, lc_put (szt (by omega)) (hy1 _ (if_pos h))⟩
          · exact hy2 (if_neg h)
        · rw [filter_svs]
          have b8 : But [] H1' (upd H1' D (.lst (svs (ke.filter fun c => o.contains c)))) := newB hD
          have eD : (upd H1' D (.lst (svs (ke.filter fun c => o.contains c)))) D = some (.lst (svs (ke.filter fun c => o.contains c))) := upd_same
          generalize upd H1' D (.lst (svs (ke.filter fun c => o.contains c))) = H8 at b8 eD
          have b18 := b1.trans b8
          dsimp only [gName]
          refine if_guard (!(!(hasAll o ke) && !(hasAll ke o))) (fun Q' y => ?_) (fun hh H' b2 => ?_) (fun hh H' b2 => ?_)
          · refine ⟨_, rfl, D, _, rfl, .inl (SqL.of eD), _, rfl, a, _, rfl, .inl (SqL.of (b18.at ha)), _, rfl, oa, _, rfl, .inl (SqL.of (b18.at eo)), szl (by simp), fun q hq => ?_⟩
            refine ⟨q, _, rfl, .inl (SqL.of upd_same), rfl, rfl, _, rfl, ?_⟩
            have ein : inV (V.int ((svs (ke.filter fun c => o.contains c)).length : Nat)) [V.int ((svs ke).length : Nat), V.int ((svs o).length : Nat)] = !(!(hasAll o ke) && !(hasAll ke o)) := by
              rw [inV_two, svs_len, svs_len, svs_len, Bool.or_comm]; exact shares hnk (hnd o om)
            have z := y _ (newB (o := .lst [V.int ((svs ke).length : Nat), V.int ((svs o).length : Nat)]) hq)
            rw [← ein] at z
            exact z
          · have e : (ks.all fun o => !(hasAll ke o || hasAll o ke)) = false := by
              rw [List.all_eq_false]
              refine ⟨o, om, ?_⟩
              revert hh
              cases hasAll ke o <;> cases hasAll o ke <;> simp
            rw [e] at k
            exact k H' (b18.trans b2)
          · refine ⟨⟨_, _, _, rfl⟩, b18.trans b2, fun o2 ho2 => ?_⟩
            rw [tk] at ho2
            rcases List.mem_append.mp ho2 with z | z
            · exact hi2 o2 z
            · rw [List.mem_singleton.mp z]
              revert hh
              cases hasAll ke o <;> cases hasAll o ke <;> simp
      · subst es
        have e : (ks.all fun o => !(hasAll ke o || hasAll o ke)) = true := by
          rw [List.all_eq_true]
          intro o ho
          refine hi2 o ?_
          rw [hk.1, List.take_length]; exact ho
        rw [e] at k
        exact k H1 b1
end
end Cn
set_option Elab.async false
set_option linter.all false
set_option maxRecDepth 100000
set_option maxHeartbeats 4000000
/-! what the program tells of a text -/
namespace Cn
open PySem L2
structure LT4 (K : PySem.W.Frag) (mg : Str → Option Value) (CR CT CS CI : Addr) : Prop extends LTx K mg CR CT CS CI where
  b_repr : mg "repr" = none
  b_ValueError : mg "ValueError" = none
  b_enumerate : mg "enumerate" = none
  g_CountError : mg "CountError" = some (.ref (He.ga K "CountError"))
  g_InvalidText : mg "InvalidText" = some (.ref CI)
  xf_row : XfC K CI
  no_row : PySem.W.findIn K (.ref CI) "row" = some none
  exm : PySem.W.exmOne K (.ref CI) (.ref (He.ga K "CountError")) = some true
  exc : ExcC K CI
  isV : PySem.W.kitOne K (.ref CI) (.type "ValueError") = some true
  scl : PySem.W.findIn K (.ref CS) "__class__" = some (some (.builtin "object.__class__"))
  smo : PySem.W.mroIn K CS (.type "object") = some true
theorem kit_self {K : PySem.W.Frag} {t : Value} : PySem.W.kitOne K t t = some true := if_pos (beq_self_eq_true _)
def rowV (t : Cn.T) : V := match parseRows (splitC 10 t) with
  | .error e => .int (e : Nat)
  | .ok _ => .non
section
variable {P : Program} {w : World} {K : PySem.W.Frag} {mg : Str → Option Value} {base : Heap} {CR CT CS CI : Addr} {f : Addr} {fd : FuncData}
theorem sc__law_told : FnScope ["text", "caught", "found", "error"] ["text"] (defScope s__law_told) := ⟨rfl, rfl, rfl, by decide +kernel, rfl, by decide +kernel, by decide +kernel⟩
def sp_told4 : Sp := fun vs H Q _ => ∃ t : Cn.T, vs = [sv t] ∧ t.length ≤ 900000 ∧ ∀ H', But [] H H' → Q (rowV t) H'
theorem ok_told4 (F : Fun K "_law_told" "_law_told" s__law_told f fd) (T : LT4 K mg CR CT CS CI) (k_Schema_parse : CMt P w K mg base 8 CS "parse" (sp_parse CT CS CI)) (c_Schema_str : Met P w K mg base 1 CS "__str__" (sp_str CT CS)) : FnOk P w K mg base (L2.CX P w) 9 f fd ["text"] sp_told4 := by
  refine F.okX sc__law_told (fun vs H Q E h => ?_) (fun cdv A outer s H vs Q E hr h => ?_)
  · obtain ⟨t, rfl, _⟩ := h
    rfl
  · obtain ⟨t, rfl, hz, k⟩ := h
    refine ⟨_, (pss_cons (ps_asg (pe_tup (pa_cons pe_non (pa_cons pe_non pa_nil))) (pg_tup (by rfl) (pgs_cons (pg_name (i := 1) sc__law_told.nd rfl (Or.inl rfl)) (pgs_cons (pg_name (i := 2) sc__law_told.nd rfl (Or.inl rfl)) pgs_nil))))
  (pss_cons (ps_try_keep (i := 3) rfl rfl rfl sc__law_told.nd rfl rfl ⟨(by rfl), (by decide), .inl T.g_CountError⟩ (takes_of rfl rfl rfl rfl) (fun W pn xe tk po => (pss_one (ps_set (i := 2) sc__law_told.nd rfl (Or.inl rfl) (p_cmt (E := WE W) (pe_glob (v := .ref CS) rfl T.g_Schema rfl) k_Schema_parse hr (by decide) (fun σ => passAt tk σ) (pa_cons (pv 0) pa_nil))))) (fun a oe cls d pn hz hd => (pss_one (ps_set (i := 1) sc__law_told.nd rfl (Or.inl rfl) (pv 3)))))
  (pss_cons (ps_if (pt_cmpR op_isN (pv 1) pe_non (nomark _))
  (pss_one (ps_ret (pe_ifExp (PW.pt (pw_and (pt_val (pe_callB (call_isiK' K rfl) (by rfl) T.b_isinstance (by decide +kernel) (pa_cons (pv 2) (pa_cons (p_gcls T.g_Schema) pa_nil)))) (pw_and1 (pt_cmpR op_eq (pe_callTy (call_str_own E c_Schema_str hr (by decide) (passX rfl rfl rfl (takes_of rfl rfl rfl rfl))) (by rfl) T.b_str (by decide +kernel) (pa_cons (pv 2) pa_nil)) (pv 0) (nomark _))))) pe_non pe_str)))
  pss_nil)
  (pss_cons (ps_if (PW.pt (pw_or (pt_not (pt_val (pe_callB (call_isXK K rfl T.exc) (by rfl) T.b_isinstance (by decide +kernel) (pa_cons (pv 1) (pa_cons (p_gcls T.g_InvalidText) pa_nil))))) (pw_or1 (pt_not (pt_val (pe_callB (call_isXK K rfl T.exc) (by rfl) T.b_isinstance (by decide +kernel) (pa_cons (pv 1) (pa_cons (p_gval T.b_ValueError) pa_nil))))))))
  (pss_one (ps_ret pe_str))
  pss_nil)
  (pss_one (ps_ret (pe_xv T.xf_row T.no_row (pv 1)))))))), ?_⟩
    refine ⟨szl (by decide), fun q hq => ?_⟩
    refine ⟨q, _, rfl, SqT.of upd_same, rfl, _, _, rfl, _, _, rfl, rfl, ?_⟩
    have b1 : But [] H (upd H q (.tup [V.non, V.non])) := newB hq
    generalize upd H q (.tup [V.non, V.non]) = H1 at b1
    refine ⟨rfl, _, rfl, t, rfl, by omega, ?_⟩
    unfold rowV at k
    cases hp : parseRows (splitC 10 t) with
    | error e =>
      rw [hp] at k
      intro H3 d b3 hd
      refine ⟨true, T.exm, fun _ x hx => ?_, fun z => by cases z⟩
      refine ⟨_, rfl, ?_⟩
      have b4 : But [] H3 (upd H3 x (XV (.ref CI) (some d) x)) := newB hx
      have hx1 : (upd H3 x (XV (.ref CI) (some d) x)) x = some (XV (.ref CI) (some d) x) := upd_same
      have hd1 := b4.at hd
      refine ⟨_, rfl, rfl, _, rfl, ?_⟩
      refine iteF ?_
      refine ⟨_, rfl, x, d, _, _, _, true, rfl, hx1, hd1, .own _, kit_self, _, rfl, ?_⟩
      refine iteF ?_
      refine ⟨_, rfl, x, d, _, _, _, true, rfl, hx1, hd1, .ty _, T.isV, _, rfl, ?_⟩
      refine iteF ?_
      exact ⟨_, rfl, x, d, _, _, rfl, hx1, hd1, rfl, k _ ((b1.trans b3).trans b4)⟩
    | ok ts =>
      rw [hp] at k
      intro H3 v b3 hv
      obtain ⟨a, dx, tt, vt, rfl, ha, htt, hvt⟩ := id hv
      refine ⟨_, rfl, rfl, _, rfl, ?_⟩
      refine iteT ?_
      refine ⟨_, rfl, _, _, _, _, true, rfl, .own _, .base (.ins ha T.clS T.scl T.exc.hn T.exc.ht T.smo), kit_self, _, rfl, ?_⟩
      refine iteT ?_
      refine ⟨_, rfl, a, dx, _, rfl, ha, a, ts, rfl, hv, ⟨_, rfl⟩, _, rfl, rfl, _, rfl, ?_⟩
      rw [sv_eq, text_same hp, beq_self_eq_true]
      exact iteT (k H3 (b1.trans b3))
end
end Cn
set_option Elab.async false
set_option linter.all false
set_option maxRecDepth 100000
set_option maxHeartbeats 4000000
/-! the second reader: references -/
namespace Cn
open PySem L2
theorem dpAll_LR {K : PySem.W.Frag} {H : Hp} : ∀ {vk : List V} {ks : List (List Cn.T)}, Each (LR H) vk ks → DpAll K H vk (ks.map fun k => .list (k.map fun l => .str (S l)))
  | [], [], _ => .nil
  | [], _ :: _, h => by have := h.1; simp at this
  | _ :: _, [], h => by have := h.1; simp at this
  | v :: vk, k :: ks, h => by
    obtain ⟨a, rfl, e⟩ := h.2 0 v k rfl rfl
    have ht : Each (LR H) vk ks := ⟨by have := h.1; simpa using this, fun i x y p q => h.2 (i + 1) x y (by simpa using p) (by simpa using q)⟩
    exact .cons (.lst (SqL.of e) (dpAll_svs k)) (dpAll_LR ht)
theorem lay_LR : ∀ ks : List (List Cn.T), (∀ k ∈ ks, ∀ w ∈ k, okS w) → PyData.canLayAll0 (ks.map fun k => PyData.list (k.map fun l => .str (S l))) = true ∧ PyData.depthAll (ks.map fun k => PyData.list (k.map fun l => .str (S l))) ≤ 2
  | [], _ => ⟨by simp [PyData.canLayAll0], by simp [PyData.depthAll]⟩
  | k :: r, hn => by
    obtain ⟨h1, h2⟩ := lay_LR r fun w hw => hn w (List.mem_cons_of_mem _ hw)
    obtain ⟨g1, g2⟩ := lay_any k (hn k List.mem_cons_self)
    rw [List.map_cons]
    refine ⟨by simp [PyData.canLayAll0, PyData.canLay0, h1, g1], ?_⟩
    simp only [PyData.depthAll, PyData.depth]
    omega
theorem shaped_LR (ks : List (List Cn.T)) (hn : ∀ k ∈ ks, ∀ w ∈ k, okS w) : SeqAt.shaped (.list (ks.map fun k => PyData.list (k.map fun l => .str (S l)))) = true := by
  obtain ⟨h1, h2⟩ := lay_LR ks hn
  unfold SeqAt.shaped
  simp only [PyData.canLay0, PyData.depth, h1, Bool.true_and]
  exact decide_eq_true (by omega)
/-- a list of lists at a place == [] -/
theorem eq_nilLL {K : PySem.W.Frag} {H : Hp} {a : Addr} {vk : List V} {ks : List (List Cn.T)} {σ : L2.St} {Q : VK} (e : H a = some (.lst vk)) (he : Each (LR H) vk ks) (hn : ∀ k ∈ ks, ∀ w ∈ k, okS w) (k : ∀ H', But [] H H' → Q (.bl ks.isEmpty) H') :
    tLst tNil σ H fun y H2 => rEqD K (.ref a) y H2 Q := by
  refine ⟨szl (by simp), fun p hp => ?_⟩
  have b := newB (o := .lst []) hp
  refine ⟨.list (ks.map fun k => .list (k.map fun l => .str (S l))), .list [], .lst (SqL.of (b.at e)) (dpAll_LR (he.mono fun _ _ ⟨p, q, z⟩ => ⟨p, q, b.at z⟩)), .lst (SqL.of upd_same) .nil, shaped_LR ks hn, rfl, ?_⟩
  have e2 : (PyData.list (ks.map fun k => PyData.list (k.map fun l => PyData.str (S l)))).eqv (PyData.list []) = ks.isEmpty := by cases ks <;> rfl
  rw [e2]
  exact k _ b
theorem sq_gen4 {u v : TS} {D : Ends} {σ : L2.St} {H : Hp} (M : L2.St → Hp → Prop) (k : ∀ σ' H', M σ' H' → v D σ' H') (h : ∀ v' : TS, (∀ σ' H', M σ' H' → v' D σ' H') → tSeq u v' D σ H) : tSeq u v D σ H := h v k
theorem cutV_part (ws : List Cn.T) (h : 4 ≤ ws.length) : cutV (svs ws) (some 1) (some (-2)) = svs ((ws.drop 1).take (ws.length - 3)) := by
  unfold cutV
  have e1 : HT.sIx (svs ws).length 0 (some 1) = 1 := by
    show (if (1 : Int) < 0 then ((1 : Int) + ((svs ws).length : Int)).toNat else min (1 : Int).toNat (svs ws).length) = 1
    rw [if_neg (by decide), svs_len]
    show min 1 ws.length = 1
    omega
  have e2 : HT.sIx (svs ws).length (svs ws).length (some (-2)) = ws.length - 2 := by
    show (if (-2 : Int) < 0 then ((-2 : Int) + ((svs ws).length : Int)).toNat else min (-2 : Int).toNat (svs ws).length) = ws.length - 2
    rw [if_pos (by decide), svs_len]; omega
  rw [e1, e2]
  have : ws.length - 2 - 1 = ws.length - 3 := by omega
  rw [this]
  simp [svs, List.map_take, List.map_drop]
section
variable {P : Program} {w : World} {K : PySem.W.Frag} {mg : Str → Option Value} {base : Heap} {CR CT CS CI : Addr} {f : Addr} {fd : FuncData}
theorem sc__law_is_reference : FnScope ["words", "table", "above", "name", "columns", "keys", "refers", "part", "target", "main", "barred", "one", "key", "column"] ["words", "table", "above"] (defScope s__law_is_reference) := ⟨rfl, rfl, rfl, by decide +kernel, rfl, by decide +kernel, by decide +kernel⟩
def sp_isref : Sp := fun vs H Q _ => ∃ (wl ta d cl kl rl : Addr) (vk vr : List V) (ws : List Cn.T) (t : Tbl) (ab : List Tbl) (req : Bool), vs = [.ref wl, .ref ta, .ref d] ∧ H wl = some (.lst (svs ws)) ∧ OpenR H ta cl kl rl vk vr t ∧ DictL H d ab ∧ (ab.map (·.name)).Nodup ∧ ws.length ≤ 4000 ∧ (∀ w ∈ ws, okS w) ∧
  ws.headD [] = (if req then wRef else wOpt) ∧ ws ≠ [] ∧ t.keys.length ≤ 3 ∧ t.refs.length ≤ 2 ∧ (∀ k ∈ t.keys, k.length ≤ 4000 ∧ ∀ w ∈ k, okS w) ∧ (∀ r ∈ t.refs, r.1.length ≤ 4000) ∧ ∀ H', But [] H H' → Q (.bl (refRight req ws t ab)) H'
theorem ok_isref (F : Fun K "_law_is_reference" "_law_is_reference" s__law_is_reference f fd) (T : LTx K mg CR CT CS CI) (c__law_are_columns : Cal P w K mg base 1 "_law_are_columns" (sp_arecols K)) : FnOk P w K mg base (L2.CX P w) 2 f fd ["words", "table", "above"] sp_isref := by
  refine F.okX sc__law_is_reference (fun vs H Q E h => ?_) (fun cdv A outer s H vs Q E hr h => ?_)
  · obtain ⟨_, _, _, _, _, _, _, _, _, _, _, _, rfl, _⟩ := h
    rfl
  · obtain ⟨wl, ta, d, cl, kl, rl, vk, vr, ws, t, ab, req, rfl, hw, op, hd, nd, hz, hok, h0, hne, k3, r2, hks, hrs, k⟩ := h
    refine ⟨_, (pss_cons (ps_asg (pv 1) (pg_tup (by rfl) (pgs_cons (pg_name (i := 3) sc__law_is_reference.nd rfl (Or.inl rfl)) (pgs_cons (pg_name (i := 4) sc__law_is_reference.nd rfl (Or.inl rfl)) (pgs_cons (pg_name (i := 5) sc__law_is_reference.nd rfl (Or.inl rfl)) (pgs_cons (pg_name (i := 6) sc__law_is_reference.nd rfl (Or.inl rfl)) pgs_nil))))))
  (pss_cons (ps_if (PW.pt (pw_or (pt_cmpR op_lt (pe_callB (call_len_seqK K rfl) (by rfl) T.b_len (by decide +kernel) (pa_cons (pv 0) pa_nil)) pe_int (nomark _)) (pw_or (pt_cmpR op_ne (pe_ix (ix_listK K rfl) (pv 0) (pe_un un_neg pe_int) (fun _ _ => rfl)) pe_str (nomark _)) (pw_or (pt_cmpR (op_eqDK K rfl hr.units) (pv 5) (pe_lst pa_nil) (nomark _)) (pw_or1 (pt_cmpR op_eq (pe_callB (call_len_seqK K rfl) (by rfl) T.b_len (by decide +kernel) (pa_cons (pv 6) pa_nil)) pe_int (nomark _)))))))
  (pss_one (ps_ret pe_bl))
  pss_nil)
  (pss_cons (ps_par (i := 7) (j := 8) (by rfl) sc__law_is_reference.nd rfl rfl (by decide) rfl rfl (pa_cons (pe_slice (sl_listK K rfl) (pv 0) (po_some pe_int) (po_some (pe_un un_neg pe_int))) (pa_cons (pe_ix (ix_listK K rfl) (pv 0) (pe_un un_neg pe_int) (fun _ _ => rfl)) pa_nil)) (by rfl))
  (pss_cons (ps_set (i := 9) sc__law_is_reference.nd rfl (Or.inl rfl) (pe_ifExp (pt_cmp (pc_din (hu1 hr) (pv 8) (pv 2))) (pe_dget (hu1 hr) (pv 2) (pv 8) (fun _ _ => rfl)) (pe_lst pa_nil)))
  (pss_cons (ps_if (PW.pt (pw_and (pt_cmpR op_eq (pv 8) (pv 3) (nomark _)) (pw_and1 (pt_cmpR op_eq (pe_ix (ix_listK K rfl) (pv 0) pe_int (fun _ _ => rfl)) pe_str (nomark _)))))
  (pss_one (ps_set (i := 9) sc__law_is_reference.nd rfl (Or.inl rfl) (pe_ix (ix_listK K rfl) (pv 5) pe_int (fun _ _ => rfl))))
  pss_nil)
  (pss_cons (ps_set (i := 10) sc__law_is_reference.nd rfl (Or.inr rfl) (pe_lst pa_nil))
  (pss_cons (ps_for (passes_of rfl) (by rfl) (pi_listK K rfl (pv 6)) (pg_name (i := 11) sc__law_is_reference.nd rfl (Or.inl rfl))
  (pss_one (ps_set (i := 10) sc__law_is_reference.nd rfl (Or.inr rfl) (pe_op op_cat (pv 10) (pv 11)))))
  (pss_cons (ps_if (pt_cmpR op_eq (pe_ix (ix_listK K rfl) (pv 0) pe_int (fun _ _ => rfl)) pe_str (nomark _))
  (pss_one (ps_for (passes_of rfl) (by rfl) (pi_listK K rfl (pv 5)) (pg_name (i := 12) sc__law_is_reference.nd rfl (Or.inl rfl))
  (pss_one (ps_set (i := 10) sc__law_is_reference.nd rfl (Or.inr rfl) (pe_op op_cat (pv 10) (pv 12))))))
  pss_nil)
  (pss_cons (ps_if (PW.pt (pw_or (pt_not (pt_val (p_call E c__law_are_columns hr (by decide) (by rfl) (passX rfl rfl rfl (takes_of rfl rfl rfl rfl)) (pa_cons (pv 7) (pa_cons (pv 4) pa_nil))))) (pw_or1 (pt_cmpR op_ne (pe_callB (call_len_seqK K rfl) (by rfl) T.b_len (by decide +kernel) (pa_cons (pv 7) pa_nil)) (pe_callB (call_len_seqK K rfl) (by rfl) T.b_len (by decide +kernel) (pa_cons (pv 9) pa_nil)) (nomark _)))))
  (pss_one (ps_ret pe_bl))
  pss_nil)
  (pss_one (ps_ret (pe_cmpR (op_eqDK K rfl hr.units) (pe_lc (own := [("column", 13)]) (g := gName 13) (by rfl) sc__law_is_reference.nd (pi_listK K rfl (pv 7)) (blkOk_by (own := [("column", 13)]) (N := ["words", "table", "above", "name", "columns", "keys", "refers", "part", "target", "main", "barred", "one", "key", "column"]) (sc := (defScope s__law_is_reference)) (by decide +kernel)) (fun _ _ _ _ _ => (pg_name (i := 13) sc__law_is_reference.nd rfl (Or.inl rfl))) (fun _ _ _ _ _ => (pts_one (pt_cmpR (op_in_seqK K rfl) (pv 13) (pv 10) (by rfl)))) (fun _ _ _ _ _ => (pv 13))) (pe_lst pa_nil) (nomark _))))))))))))), ?_⟩
    refine ⟨_, rfl, ta, _, rfl, SqT.of op.tup, rfl, _, _, rfl, _, _, rfl, _, _, rfl, _, _, rfl, rfl, ?_⟩
    dsimp only
    show tSeq (tIfS _ _ tNext) _ _ _ _
    refine sq_guard (!((decide (4 ≤ ws.length) && (ws.getD (ws.length - 2) [] == kArrow)) && (!t.keys.isEmpty && !(t.refs.length == 2)))) (fun Q' y => ?_) (fun hc H1 b1 => ?_) (fun hc H1 b1 => ?_)
    · refine ⟨_, rfl, wl, _, rfl, .inl (SqL.of hw), _, _, rfl, rfl, _, rfl, ?_⟩
      rw [svs_len]
      refine ite2 (fun h1 => ?_) (fun h1 => ?_)
      · have l4 : ¬ 4 ≤ ws.length := by have := of_decide_eq_true h1; omega
        rw [decide_eq_false l4, Bool.false_and, Bool.false_and] at y
        exact y H But.refl
      · have l4 : 4 ≤ ws.length := by
          by_cases z : 4 ≤ ws.length
          · exact z
          · exact absurd (decide_eq_true (by omega)) h1
        rw [decide_eq_true l4, Bool.true_and] at y
        have hat := atI_neg (ls := ws) (k := 2) (by omega) (by omega)
        refine ⟨_, rfl, 2, rfl, wl, _, _, _, rfl, rfl, SqL.of hw, hat, rfl, _, rfl, ?_⟩
        have ea : (V.str (Str.ofString "->")) = sv kArrow := rfl
        rw [ea, sv_eq]
        cases hq : (ws.getD (ws.length - 2) [] == kArrow) with
        | false =>
          rw [hq] at y
          exact iteT (y H But.refl)
        | true =>
          rw [hq, Bool.true_and] at y
          refine iteF ?_
          refine ⟨_, rfl, eq_nilLL op.keys op.ek (fun k hk => (hks k hk).2) fun H1 b1 => ⟨_, rfl, ?_⟩⟩
          cases hk : t.keys.isEmpty with
          | true =>
            rw [hk] at y
            exact iteT (y H1 b1)
          | false =>
            rw [hk, Bool.not_false, Bool.true_and, Bool.not_not] at y
            refine iteF ?_
            refine ⟨_, rfl, rl, _, rfl, .inl (SqL.of (b1.at op.refs)), rfl, _, rfl, ?_⟩
            have e : decide (V.int ((vr.length : Nat) : Int) = V.int 2) = (t.refs.length == 2) := by
              have l := op.er.1
              rw [List.length_map] at l
              rw [l]
              exact nat_eq t.refs.length 2
            rw [e]
            exact y H1 b1
    · have e : refRight req ws t ab = false := by
        unfold refRight
        revert hc
        cases decide (4 ≤ ws.length) <;> cases (ws.getD (ws.length - 2) [] == kArrow) <;> cases t.keys.isEmpty <;> cases (t.refs.length == 2) <;> simp
      rw [e] at k
      exact k H1 b1
    · have hc1 : (decide (4 ≤ ws.length) = true ∧ (ws.getD (ws.length - 2) [] == kArrow) = true) ∧ t.keys.isEmpty = false ∧ (t.refs.length == 2) = false := by
        revert hc
        cases decide (4 ≤ ws.length) <;> cases (ws.getD (ws.length - 2) [] == kArrow) <;> cases t.keys.isEmpty <;> cases (t.refs.length == 2) <;> simp
      obtain ⟨⟨h4, har⟩, hk0, hr0⟩ := hc1
      have l4 := of_decide_eq_true h4
      have ek : refRight req ws t ab = (areDiff ((ws.drop 1).take (ws.length - 3)) t.cols && (((ws.drop 1).take (ws.length - 3)).length == (mainOf req (ws.getD (ws.length - 1) []) t ab).length &&
          !((ws.drop 1).take (ws.length - 3)).any fun c => (t.refs.flatMap (·.1) ++ if req then [] else t.keys.flatMap id).contains c)) := by
        unfold refRight
        rw [h4, har, hk0, hr0]; rfl
      rw [ek] at k
      have hw1 := b1.at hw
      have op1 := op.keep b1
      have hd1 := hd.keep b1
      have hlast := atI_neg (ls := ws) (k := 1) (by omega) (by omega)
      refine ⟨_, rfl, _, rfl, 2, rfl, _, rfl, wl, _, rfl, SqL.of hw1, fun p hp => ?_⟩
      rw [cutV_part ws l4]
      have c2 := newB (o := .lst (svs ((ws.drop 1).take (ws.length - 3)))) hp
      have ep : (upd H1 p (.lst (svs ((ws.drop 1).take (ws.length - 3))))) p = some (.lst (svs ((ws.drop 1).take (ws.length - 3)))) := upd_same
      generalize upd H1 p (.lst (svs ((ws.drop 1).take (ws.length - 3)))) = H2 at c2 ep
      refine ⟨_, rfl, 1, rfl, wl, _, _, _, rfl, rfl, SqL.of (c2.at hw1), hlast, ?_⟩
      refine ⟨_, _, rfl, ?_⟩
      have b2 := b1.trans c2
      have okp : ∀ x ∈ (ws.drop 1).take (ws.length - 3), okS x := fun x hx => hok x (List.mem_of_mem_drop (List.mem_of_mem_take hx))
      have lp : ((ws.drop 1).take (ws.length - 3)).length ≤ 4000 := by rw [List.length_take, List.length_drop]; omega
      generalize (ws.drop 1).take (ws.length - 3) = pt at ep k okp lp
      generalize ws.getD (ws.length - 1) [] = tg at k
      obtain ⟨o, hg, hn, hsome⟩ := (hd.keep b2).get nd tg
      dsimp only
      show tSeq (tAsg _ _) _ _ _ _
      refine sq_gen4 (fun σ' H' => ∃ ma, σ' = [some (.ref wl), some (.ref ta), some (.ref d), some (sv t.name), some (.ref cl), some (.ref kl), some (.ref rl), some (.ref p), some (sv tg), some (.ref ma), none, none, none, none] ∧ But [] H2 H' ∧ H' ma = some (.lst (svs (match (ab.find? fun a : Tbl => a.name == tg) with
        | some a => a.keys.headD []
        | none => [])))) (fun σ' H' hM => ?_) (fun v1 kv1 => ?_)
      rotate_left
      · refine ⟨_, rfl, _, rfl, d, o, rfl, hg, _, rfl, ?_⟩
        cases hf : (ab.find? fun a : Tbl => a.name == tg) with
        | none =>
          rw [hn hf]
          refine iteF ⟨szl (by simp), fun q hq => ?_⟩
          exact kv1 _ _ ⟨q, rfl, newB hq, by rw [upd_same, hf]; rfl⟩
        | some a0 =>
          obtain ⟨v, rfl, ma, rfl, hma⟩ := hsome a0 hf
          refine iteT ⟨_, rfl, _, rfl, d, _, rfl, hg, ?_⟩
          exact kv1 _ _ ⟨ma, rfl, But.refl, by rw [hma, hf]⟩
      · obtain ⟨ma, rfl, c3, hma⟩ := hM
        have hopt : (ws.headD [] == wOpt) = !req := by rw [h0]; cases req <;> decide
        have at0 : atI (svs ws) 0 = some (sv (ws.headD [])) := by
          obtain ⟨x, s, rfl⟩ : ∃ x s, ws = x :: s := by
            cases ws with
            | nil => exact absurd rfl hne
            | cons x s => exact ⟨x, s, rfl⟩
          exact svs_ati (n := 0) rfl
        have eo : (V.str (Str.ofString "optional")) = sv wOpt := rfl
        show tSeq (tIfS _ _ tNext) _ _ _ _
        refine sq_gen4 (fun σ' H'' => ∃ ma, σ' = [some (.ref wl), some (.ref ta), some (.ref d), some (sv t.name), some (.ref cl), some (.ref kl), some (.ref rl), some (.ref p), some (sv tg), some (.ref ma), none, none, none, none] ∧ But [] H2 H'' ∧ H'' ma = some (.lst (svs (mainOf req tg t ab)))) (fun σ' H3 hM => ?_) (fun v2 kv2 => ?_)
        rotate_left
        · have stay : (!req && tg == t.name) = false → v2 _ _ _ := fun z => kv2 _ _ ⟨ma, rfl, c3, by rw [hma]; unfold mainOf; rw [z, if_neg Bool.false_ne_true] <;> rfl⟩
          refine ⟨_, rfl, _, rfl, rfl, _, rfl, ?_⟩
          rw [sv_eq]
          cases he : (tg == t.name) with
          | false => exact iteF (stay (by rw [he, Bool.and_false]))
          | true =>
            refine iteT ?_
            refine ⟨_, rfl, wl, _, 0, _, rfl, rfl, SqL.of (c3.at (b2.at hw)), at0, rfl, _, rfl, ?_⟩
            rw [eo, sv_eq, hopt]
            cases hq : req with
            | true => exact iteF (stay (by rw [hq]; rfl))
            | false =>
              obtain ⟨k1, ks, ek1⟩ : ∃ k1 ks, t.keys = k1 :: ks := by
                cases q : t.keys with
                | nil => rw [q] at hk0; cases hk0
                | cons x y => exact ⟨x, y, rfl⟩
              obtain ⟨v0, hv0, q0, rfl, eq0⟩ := op.ek.atx (i := 0) (x := k1) (by rw [ek1]; rfl)
              refine iteT ⟨_, rfl, kl, vk, 0, _, rfl, rfl, SqL.of ((b2.trans c3).at op.keys), atI_nat hv0, ?_⟩
              refine kv2 _ _ ⟨q0, rfl, c3, ?_⟩
              rw [(b2.trans c3).at eq0]
              unfold mainOf
              rw [hq, he, ek1]; rfl
        · obtain ⟨ma, rfl, c4, hma⟩ := hM
          generalize mainOf req tg t ab = mn at k hma
          have b4 := b2.trans c4
          refine ⟨szl (by simp), fun bl hbl => ?_⟩
          have c5 := newB (o := .lst []) hbl
          have ebl : (upd H3 bl (.lst [])) bl = some (.lst []) := upd_same
          generalize upd H3 bl (.lst []) = H4 at c5 ebl
          have b5 := b4.trans c5
          have op5 := op.keep b5
          refine ⟨_, rfl, rl, rfl, ⟨_, SqL.of op5.refs⟩, ?_⟩
          have lr : vr.length = t.refs.length := by have := op.er.1; rwa [List.length_map] at this
          refine for_it (walk_list (K := K) (a := rl) (xs := vr)) (fun i σ H' => ∃ ba, (∃ v11, σ = [some (.ref wl), some (.ref ta), some (.ref d), some (sv t.name), some (.ref cl), some (.ref kl), some (.ref rl), some (.ref p), some (sv tg), some (.ref ma), some (.ref ba), v11, none, none]) ∧ But [] H4 H' ∧ H' ba = some (.lst (svs ((t.refs.take i).flatMap (·.1)))) ∧ ((t.refs.take i).flatMap (·.1)).length ≤ 4000 * i) ⟨bl, ⟨_, rfl⟩, But.refl, ebl, by simp⟩ (fun i σ H' _ ⟨_, _, b, _⟩ => SqL.of (b.at op5.refs)) (fun i x σ H5 H5' hi ⟨ba, ⟨v11, es⟩, b6, eba, lba⟩ yy => ?_) (fun σ H5 ⟨ba, ⟨v11, es⟩, b6, eba, lba⟩ => ?_)
          · obtain ⟨rfl, hx⟩ := yy
            subst es
            obtain ⟨cs, hcs, q0, rfl, eq0⟩ := op5.er.at hx
            rw [List.getElem?_map] at hcs
            obtain ⟨rr, hrr, rfl⟩ := Option.map_eq_some_iff.mp hcs
            have i2 : i < 2 := by have : i < vr.length := hi; omega
            have lrr := hrs rr (List.mem_of_getElem? hrr)
            refine ⟨_, rfl, _, rfl, ba, q0, _, _, rfl, rfl, eba, b6.at eq0, szl (by rw [svs_len, svs_len]; omega), fun q hq => ?_⟩
            have tk : t.refs.take (i + 1) = t.refs.take i ++ [rr] := by rw [List.take_add_one, hrr]; rfl
            refine ⟨q, ⟨_, rfl⟩, b6.trans (newB hq), ?_, ?_⟩
            · rw [upd_same, tk, List.flatMap_append, svs_app]; simp
            · have e1 : ([rr].flatMap (·.1)).length = rr.1.length := by simp
              rw [tk, List.flatMap_append, List.length_append, e1]; omega
          · subst es
            rw [lr, List.take_length] at eba
            rw [lr, List.take_length] at lba
            have b7 := b5.trans b6
            generalize t.refs.flatMap (·.1) = rf at k eba lba
            have op7 := op.keep b7
            have lk : vk.length = t.keys.length := op.ek.1
            try dsimp only
            show tSeq (tIfS _ _ tNext) _ _ _ _
            refine sq_gen4 (fun σ' H'' => ∃ ba v11 v12, σ' = [some (.ref wl), some (.ref ta), some (.ref d), some (sv t.name), some (.ref cl), some (.ref kl), some (.ref rl), some (.ref p), some (sv tg), some (.ref ma), some (.ref ba), v11, v12, none] ∧ But [] H5 H'' ∧ H'' ba = some (.lst (svs (rf ++ if req then [] else t.keys.flatMap id)))) (fun σ' H6 hM => ?_) (fun v3 kv3 => ?_)
            rotate_left
            · refine ⟨_, rfl, wl, _, 0, _, rfl, rfl, SqL.of (b7.at hw), at0, rfl, _, rfl, ?_⟩
              rw [eo, sv_eq, hopt]
              cases hq : req with
              | true => exact iteF (kv3 _ _ ⟨ba, _, _, rfl, But.refl, by rw [eba, hq]; simp⟩)
              | false =>
                refine iteT ⟨_, rfl, kl, rfl, ⟨_, SqL.of op7.keys⟩, ?_⟩
                refine for_it (walk_list (K := K) (a := kl) (xs := vk)) (fun i σ H' => ∃ ba, (∃ v12, σ = [some (.ref wl), some (.ref ta), some (.ref d), some (sv t.name), some (.ref cl), some (.ref kl), some (.ref rl), some (.ref p), some (sv tg), some (.ref ma), some (.ref ba), v11, v12, none]) ∧ But [] H5 H' ∧ H' ba = some (.lst (svs (rf ++ (t.keys.take i).flatMap id))) ∧ ((t.keys.take i).flatMap id).length ≤ 4000 * i) ⟨ba, ⟨_, rfl⟩, But.refl, by simpa using eba, by simp⟩ (fun i σ H' _ ⟨_, _, b, _⟩ => SqL.of (b.at op7.keys)) (fun i x σ H8 H8' hi ⟨bb, ⟨v12, es⟩, b8, ebb, lbb⟩ yy => ?_) (fun σ H8 ⟨bb, ⟨v12, es⟩, b8, ebb, lbb⟩ => ?_)
                · obtain ⟨rfl, hx⟩ := yy
                  subst es
                  obtain ⟨cs, hcs, q0, rfl, eq0⟩ := op7.ek.at hx
                  have i3 : i < 3 := by have : i < vk.length := hi; omega
                  have lcs := (hks cs (List.mem_of_getElem? hcs)).1
                  refine ⟨_, rfl, _, rfl, bb, q0, _, _, rfl, rfl, ebb, b8.at eq0, szl (by rw [svs_len, svs_len, List.length_append]; omega), fun q hq2 => ?_⟩
                  have tk : t.keys.take (i + 1) = t.keys.take i ++ [cs] := by rw [List.take_add_one, hcs]; rfl
                  refine ⟨q, ⟨_, rfl⟩, b8.trans (newB hq2), ?_, ?_⟩
                  · have e1 : [cs].flatMap id = cs := by simp
                    have e3 : svs (rf ++ (t.keys.take i).flatMap id ++ cs) = svs (rf ++ (t.keys.take i).flatMap id) ++ svs cs := by simp [svs]
                    rw [upd_same, tk, List.flatMap_append, e1, ← List.append_assoc, e3]
                  · have e1 : ([cs].flatMap id).length = cs.length := by simp
                    rw [tk, List.flatMap_append, List.length_append, e1]; omega
                · subst es
                  rw [lk, List.take_length] at ebb
                  exact kv3 _ _ ⟨bb, _, _, rfl, b8, by rw [ebb, hq]; simp⟩
            · obtain ⟨bb, v11', v12, rfl, b8, ebb⟩ := hM
              have b9 := b7.trans b8
              have op9 := op.keep b9
              have ep9 := b8.at (b6.at (c5.at (c4.at ep)))
              have hma9 := b8.at (b6.at (c5.at hma))
              try dsimp only
              show tSeq (tIfS _ _ tNext) _ _ _ _
              refine sq_guard (!(areDiff pt t.cols && (pt.length == mn.length))) (fun Q' y => ?_) (fun hc2 H7 b10 => ?_) (fun hc2 H7 b10 => ?_)
              · refine ⟨_, rfl, _, rfl, p, cl, pt, t.cols, rfl, ep9, op9.cols, lp, okp, fun H7 b10 => ⟨_, rfl, ?_⟩⟩
                cases hdf : areDiff pt t.cols with
                | false =>
                  rw [hdf] at y
                  exact iteT (y H7 b10)
                | true =>
                  rw [hdf, Bool.true_and] at y
                  refine iteF ?_
                  refine ⟨_, rfl, p, _, rfl, .inl (SqL.of (b10.at ep9)), _, rfl, ma, _, rfl, .inl (SqL.of (b10.at hma9)), rfl, _, rfl, ?_⟩
                  rw [svs_len, svs_len, nat_eq]
                  exact y H7 b10
              · have e : (areDiff pt t.cols && (pt.length == mn.length && !pt.any fun c => (rf ++ if req then [] else t.keys.flatMap id).contains c)) = false := by
                  revert hc2
                  cases areDiff pt t.cols <;> cases (pt.length == mn.length) <;> simp
                rw [e] at k
                exact k H7 (b9.trans b10)
              · have hc3 : areDiff pt t.cols = true ∧ (pt.length == mn.length) = true := by
                  revert hc2
                  cases areDiff pt t.cols <;> cases (pt.length == mn.length) <;> simp
                rw [hc3.1, hc3.2, Bool.true_and, Bool.true_and] at k
                generalize (rf ++ if req then [] else t.keys.flatMap id) = bd at k ebb
                have ep10 := b10.at ep9
                refine ⟨_, rfl, p, rfl, ⟨_, SqL.of ep10⟩, fun D hD => ?_⟩
                refine lc_pure (svs pt) (fun v => if inV v (svs bd) then some v else none) (walk_list (K := K) (a := p)) rfl yat (fun acc => SqL.of ((newB hD).at ep10)) (fun m x acc N hx2 hl2 hy1 hy2 => ?_) ?_
                · obtain ⟨cc, hcc, rfl⟩ := svs_get hx2
                  refine ⟨rfl, _, rfl, _, rfl, bb, svs bd, rfl, .inl (SqL.of ((newB hD).at (b10.at ebb))), rfl, flat_svs _, _, rfl, ?_⟩
                  have hm : m < pt.length := (List.getElem?_eq_some_iff.mp hcc).1
                  refine ite2 (fun h => ?_) (fun h => ?_)
                  · exact ⟨_, rfl, lc_put (szt (by omega)) (hy1 _ (if_pos h))⟩
                  · exact hy2 (if_neg h)
                · rw [filter_svs]
                  refine eq_nilV (ls := pt.filter fun c => bd.contains c) upd_same (fun w hw => okp w (List.mem_filter.mp hw).1) fun H' b2 => ?_
                  have e2 : (pt.filter fun c => bd.contains c).isEmpty = !pt.any fun c => bd.contains c := by
                    rw [Bool.eq_iff_iff, List.isEmpty_iff, List.filter_eq_nil_iff, Bool.not_eq_true', List.any_eq_false]
                  rw [e2]
                  exact k _ (((b9.trans b10).trans (newB hD)).trans b2)
end
end Cn
set_option Elab.async false
set_option linter.all false
set_option maxRecDepth 100000
set_option maxHeartbeats 4000000
/-! the second reader: a row within a table -/
namespace Cn
open PySem L2
theorem ne_nilLL {K : PySem.W.Frag} {H : Hp} {a : Addr} {vk : List V} {ks : List (List Cn.T)} {σ : L2.St} {Q : VK} (e : H a = some (.lst vk)) (he : Each (LR H) vk ks) (hn : ∀ k ∈ ks, ∀ w ∈ k, okS w) (k : ∀ H', But [] H H' → Q (.bl (!ks.isEmpty)) H') :
    tLst tNil σ H fun y H2 => rNeD K (.ref a) y H2 Q := by
  refine ⟨szl (by simp), fun p hp => ?_⟩
  have b := newB (o := .lst []) hp
  refine ⟨.list (ks.map fun k => .list (k.map fun l => .str (S l))), .list [], .lst (SqL.of (b.at e)) (dpAll_LR (he.mono fun _ _ ⟨p, q, z⟩ => ⟨p, q, b.at z⟩)), .lst (SqL.of upd_same) .nil, shaped_LR ks hn, rfl, ?_⟩
  have e2 : (PyData.list (ks.map fun k => PyData.list (k.map fun l => PyData.str (S l)))).eqv (PyData.list []) = ks.isEmpty := by cases ks <;> rfl
  rw [e2]
  exact k _ b
theorem cutV_1 (ws : List Cn.T) (h : ws ≠ []) : cutV (svs ws) (some 1) none = svs (ws.drop 1) := by
  have l := List.length_pos_iff.mpr h
  unfold cutV
  have e1 : HT.sIx (svs ws).length 0 (some 1) = 1 := by
    show (if (1 : Int) < 0 then ((1 : Int) + ((svs ws).length : Int)).toNat else min (1 : Int).toNat (svs ws).length) = 1
    rw [if_neg (by decide), svs_len]
    show min 1 ws.length = 1
    omega
  have e2 : HT.sIx (svs ws).length (svs ws).length none = ws.length := by
    show (svs ws).length = ws.length
    exact svs_len ws
  rw [e1, e2]
  have e3 : (svs ws).drop 1 = svs (ws.drop 1) := by simp [svs, List.map_drop]
  rw [e3, List.take_of_length_le (by rw [svs_len, List.length_drop]; omega)]
theorem each_put {H : Hp} {a : Addr} {o : HO} {vk : List V} {ks : List (List Cn.T)} (h : Each (LR H) vk ks) (n : ∀ p, V.ref p ∈ vk → p ≠ a) : Each (LR (upd H a o)) vk ks :=
  ⟨h.1, fun i v x hv hx => by
    obtain ⟨p, e, hp⟩ := h.2 i v x hv hx
    have ne := n p (by rw [← e]; exact List.mem_of_getElem? hv)
    exact ⟨p, e, by rw [upd_ne ne]; exact hp⟩⟩
theorem ta_ne {H : Hp} {ta cl : Addr} {xs ys : List V} (h : H ta = some (.tup xs)) (g : H cl = some (.lst ys)) : ta ≠ cl := fun z => by rw [z, g] at h; cases h
theorem OpenR.putC {H : Hp} {ta cl kl rl : Addr} {vk vr : List V} {t : Tbl} (h : OpenR H ta cl kl rl vk vr t) (w : Cn.T) : OpenR (upd H cl (.lst (svs t.cols ++ [sv w]))) ta cl kl rl vk vr ⟨t.name, t.cols ++ [w], t.keys, t.refs⟩ :=
  ⟨by rw [upd_ne (ta_ne h.tup h.cols)]; exact h.tup, by rw [upd_same]; show _ = some (HO.lst (svs (t.cols ++ [w]))); rw [svs_app]; rfl, by rw [upd_ne h.ck.symm]; exact h.keys, by rw [upd_ne h.cr.symm]; exact h.refs,
    each_put h.ek fun p hp => (h.apart p (.inl hp)).1, each_put h.er fun p hp => (h.apart p (.inr hp)).1, h.ck, h.cr, h.kr, h.apart⟩
theorem OpenR.putK {H : Hp} {ta cl kl rl q : Addr} {vk vr : List V} {t : Tbl} {k : List Cn.T} (h : OpenR H ta cl kl rl vk vr t) (hq : H q = some (.lst (svs k))) (n1 : q ≠ cl) (n2 : q ≠ kl) (n3 : q ≠ rl) : OpenR (upd H kl (.lst (vk ++ [V.ref q]))) ta cl kl rl (vk ++ [.ref q]) vr ⟨t.name, t.cols, t.keys ++ [k], t.refs⟩ :=
  ⟨by rw [upd_ne (ta_ne h.tup h.keys)]; exact h.tup, by rw [upd_ne h.ck]; exact h.cols, upd_same, by rw [upd_ne h.kr.symm]; exact h.refs,
    (each_put h.ek fun p hp => (h.apart p (.inl hp)).2.1).snoc ⟨q, rfl, by rw [upd_ne n2]; exact hq⟩, each_put h.er fun p hp => (h.apart p (.inr hp)).2.1, h.ck, h.cr, h.kr, fun p hp => by
      rcases hp with hp | hp
      · rcases List.mem_append.mp hp with z | z
        · exact h.apart p (.inl z)
        · cases List.mem_singleton.mp z
          exact ⟨n1, n2, n3⟩
      · exact h.apart p (.inr hp)⟩
theorem OpenR.putR {H : Hp} {ta cl kl rl q : Addr} {vk vr : List V} {t : Tbl} {tg : Cn.T} {cs : List Cn.T} {req : Bool} (h : OpenR H ta cl kl rl vk vr t) (hq : H q = some (.lst (svs cs))) (n1 : q ≠ cl) (n2 : q ≠ kl) (n3 : q ≠ rl) : OpenR (upd H rl (.lst (vr ++ [V.ref q]))) ta cl kl rl vk (vr ++ [.ref q]) ⟨t.name, t.cols, t.keys, t.refs ++ [(cs, tg, req)]⟩ :=
  ⟨by rw [upd_ne (ta_ne h.tup h.refs)]; exact h.tup, by rw [upd_ne h.cr]; exact h.cols, by rw [upd_ne h.kr]; exact h.keys, upd_same,
    each_put h.ek fun p hp => (h.apart p (.inl hp)).2.2, by
      show Each _ _ ((t.refs ++ [(cs, tg, req)]).map (·.1))
      rw [List.map_append]
      exact (each_put h.er fun p hp => (h.apart p (.inr hp)).2.2).snoc ⟨q, rfl, by rw [upd_ne n3]; exact hq⟩, h.ck, h.cr, h.kr, fun p hp => by
      rcases hp with hp | hp
      · exact h.apart p (.inl hp)
      · rcases List.mem_append.mp hp with z | z
        · exact h.apart p (.inr z)
        · cases List.mem_singleton.mp z
          exact ⟨n1, n2, n3⟩⟩
section
variable {P : Program} {w : World} {K : PySem.W.Frag} {mg : Str → Option Value} {base : Heap} {CR CT CS CI : Addr} {f : Addr} {fd : FuncData}
theorem sc__law_taken : FnScope ["words", "table", "above", "name", "columns", "keys", "refers"] ["words", "table", "above"] (defScope s__law_taken) := ⟨rfl, rfl, rfl, by decide +kernel, rfl, by decide +kernel, by decide +kernel⟩
def sp_taken : Sp := fun vs H Q _ => ∃ (wl ta d cl kl rl : Addr) (vk vr : List V) (ws : List Cn.T) (t : Tbl) (ab : List Tbl), vs = [.ref wl, .ref ta, .ref d] ∧ H wl = some (.lst (svs ws)) ∧ OpenR H ta cl kl rl vk vr t ∧ DictL H d ab ∧ (ab.map (·.name)).Nodup ∧ ws.length ≤ 4000 ∧ (∀ w ∈ ws, okS w ∧ w.length ≤ 1000000) ∧ ws ≠ [] ∧ Fine t ∧
  wl ≠ cl ∧ wl ≠ kl ∧ wl ≠ rl ∧ (∀ k ∈ t.keys, k.Nodup ∧ k.length ≤ 4000 ∧ ∀ w ∈ k, okS w) ∧ (∀ r ∈ t.refs, r.1.length ≤ 4000 ∧ ∀ w ∈ r.1, okS w) ∧
  (∀ u, pyTaken ws t ab = some u → ∀ H' vk' vr', But [cl, kl, rl] H H' → OpenR H' ta cl kl rl vk' vr' u → Q (.bl true) H') ∧ (pyTaken ws t ab = none → ∀ H', But [cl, kl, rl] H H' → Q (.bl false) H')
theorem ok_taken (F : Fun K "_law_taken" "_law_taken" s__law_taken f fd) (T : LTx K mg CR CT CS CI) (c__law_is_name : Cal P w K mg base 1 "_law_is_name" sp_isname4) (c__law_is_key : Cal P w K mg base 2 "_law_is_key" (sp_iskey K)) (c__law_is_reference : Cal P w K mg base 2 "_law_is_reference" sp_isref) : FnOk P w K mg base (L2.CX P w) 3 f fd ["words", "table", "above"] sp_taken := by
  refine F.okX sc__law_taken (fun vs H Q E h => ?_) (fun cdv A outer s H vs Q E hr h => ?_)
  · obtain ⟨_, _, _, _, _, _, _, _, _, _, _, rfl, _⟩ := h
    rfl
  · obtain ⟨wl, ta, d, cl, kl, rl, vk, vr, ws, t, ab, rfl, hw, op, hd, nd, hz, hok, hne, fn, nwc, nwk, nwr, hks, hrs, k1, k2⟩ := h
    refine ⟨_, (pss_cons (ps_asg (pv 1) (pg_tup (by rfl) (pgs_cons (pg_name (i := 3) sc__law_taken.nd rfl (Or.inl rfl)) (pgs_cons (pg_name (i := 4) sc__law_taken.nd rfl (Or.inl rfl)) (pgs_cons (pg_name (i := 5) sc__law_taken.nd rfl (Or.inl rfl)) (pgs_cons (pg_name (i := 6) sc__law_taken.nd rfl (Or.inl rfl)) pgs_nil))))))
  (pss_cons (ps_if (pt_cmpR op_eq (pe_ix (ix_listK K rfl) (pv 0) pe_int (fun _ _ => rfl)) pe_str (nomark _))
  (pss_cons (ps_if (PW.pt (pw_or (pt_cmpR op_ne (pe_callB (call_len_seqK K rfl) (by rfl) T.b_len (by decide +kernel) (pa_cons (pv 0) pa_nil)) pe_int (nomark _)) (pw_or (pt_not (pt_val (p_call E c__law_is_name hr (by decide) (by rfl) (passX rfl rfl rfl (takes_of rfl rfl rfl rfl)) (pa_cons (pe_ix (ix_listK K rfl) (pv 0) pe_int (fun _ _ => rfl)) pa_nil)))) (pw_or (pt_cmpR (op_in_seqK K rfl) (pe_ix (ix_listK K rfl) (pv 0) pe_int (fun _ _ => rfl)) (pv 4) (by rfl)) (pw_or1 (pt_cmpR op_eq (pe_callB (call_len_seqK K rfl) (by rfl) T.b_len (by decide +kernel) (pa_cons (pv 4) pa_nil)) pe_int (nomark _)))))))
  (pss_one (ps_ret pe_bl))
  pss_nil)
  (pss_cons (ps_expr (pe_bm PySem.F.plainAttrs_list PySem.F.slot_list_append PySem.F.type_list_append mt_append (pv 4) (pa_cons (pe_ix (ix_listK K rfl) (pv 0) pe_int (fun _ _ => rfl)) pa_nil)))
  (pss_one (ps_ret (pe_and (pe_cmpR (op_eqDK K rfl hr.units) (pv 5) (pe_lst pa_nil) (nomark _)) (pe_one (pe_cmpR (op_eqDK K rfl hr.units) (pv 6) (pe_lst pa_nil) (nomark _))))))))
  pss_nil)
  (pss_cons (ps_if (pt_cmpR op_eq (pe_ix (ix_listK K rfl) (pv 0) pe_int (fun _ _ => rfl)) pe_str (nomark _))
  (pss_cons (ps_if (PW.pt (pw_or (pt_cmpR (op_neDK K rfl hr.units) (pv 6) (pe_lst pa_nil) (nomark _)) (pw_or1 (pt_not (pt_val (p_call E c__law_is_key hr (by decide) (by rfl) (passX rfl rfl rfl (takes_of rfl rfl rfl rfl)) (pa_cons (pe_slice (sl_listK K rfl) (pv 0) (po_some pe_int) po_none) (pa_cons (pv 4) (pa_cons (pv 5) pa_nil)))))))))
  (pss_one (ps_ret pe_bl))
  pss_nil)
  (pss_cons (ps_expr (pe_bm PySem.F.plainAttrs_list PySem.F.slot_list_append PySem.F.type_list_append mt_append (pv 5) (pa_cons (pe_slice (sl_listK K rfl) (pv 0) (po_some pe_int) po_none) pa_nil)))
  (pss_one (ps_ret pe_bl))))
  pss_nil)
  (pss_cons (ps_if (PW.pt (pw_or (pt_cmpR (op_notIn_seqK K rfl) (pe_ix (ix_listK K rfl) (pv 0) pe_int (fun _ _ => rfl)) (pe_lst (pa_cons pe_str (pa_cons pe_str pa_nil))) (by rfl)) (pw_or1 (pt_not (pt_val (p_call E c__law_is_reference hr (by decide) (by rfl) (passX rfl rfl rfl (takes_of rfl rfl rfl rfl)) (pa_cons (pv 0) (pa_cons (pv 1) (pa_cons (pv 2) pa_nil)))))))))
  (pss_one (ps_ret pe_bl))
  pss_nil)
  (pss_cons (ps_expr (pe_bm PySem.F.plainAttrs_list PySem.F.slot_list_append PySem.F.type_list_append mt_append (pv 6) (pa_cons (pe_slice (sl_listK K rfl) (pv 0) (po_some pe_int) (po_some (pe_un un_neg pe_int))) pa_nil)))
  (pss_one (ps_ret pe_bl))))))), ?_⟩
    refine ⟨_, rfl, ta, _, rfl, SqT.of op.tup, rfl, _, _, rfl, _, _, rfl, _, _, rfl, _, _, rfl, rfl, ?_⟩
    have at0 : atI (svs ws) 0 = some (sv (ws.headD [])) := by
      obtain ⟨x, s, rfl⟩ : ∃ x s, ws = x :: s := by
        cases ws with
        | nil => exact absurd rfl hne
        | cons x s => exact ⟨x, s, rfl⟩
      exact svs_ati (n := 0) rfl
    have at1 : ws.length = 2 → atI (svs ws) 1 = some (sv (ws.getD 1 [])) ∧ ws.getD 1 [] ∈ ws := fun h => by
      have hx : ws[1]? = some (ws[1]'(by omega)) := List.getElem?_eq_getElem _
      have e : ws.getD 1 [] = ws[1]'(by omega) := by rw [List.getD_eq_getElem?_getD, hx]; rfl
      rw [e]
      exact ⟨svs_ati (n := 1) hx, List.getElem_mem _⟩
    have ec : (V.str (Str.ofString "column")) = sv wColumn := rfl
    have ek : (V.str (Str.ofString "key")) = sv wKey := rfl
    dsimp only
    show tSeq (tIfS _ _ tNext) _ _ _ _
    refine ⟨_, rfl, wl, _, 0, _, rfl, rfl, SqL.of hw, at0, rfl, _, rfl, ?_⟩
    rw [ec, sv_eq]
    cases hq : (ws.headD [] == wColumn) with
    | true =>
      refine iteT ?_
      have ep : pyTaken ws t ab = if (ws.length == 2 && (isName (ws.getD 1 []) && (!t.cols.contains (ws.getD 1 []) && (!(t.cols.length == 5) && (t.keys.isEmpty && t.refs.isEmpty))))) = true then some ⟨t.name, t.cols ++ [ws.getD 1 []], t.keys, t.refs⟩ else none := by
        unfold pyTaken; rw [if_pos hq]
      rw [ep] at k1 k2
      show tSeq (tIfS _ _ tNext) _ _ _ _
      refine sq_guard (!(ws.length == 2 && (isName (ws.getD 1 []) && (!t.cols.contains (ws.getD 1 []) && !(t.cols.length == 5))))) (fun Q' y => ?_) (fun hc H1 b1 => ?_) (fun hc H1 b1 => ?_)
      · refine ⟨_, rfl, wl, _, rfl, .inl (SqL.of hw), rfl, _, rfl, ?_⟩
        have e2 : decide (V.int (((svs ws).length : Nat) : Int) = V.int 2) = (ws.length == 2) := by rw [svs_len]; exact nat_eq ws.length 2
        rw [e2]
        cases h2 : (ws.length == 2) with
        | false =>
          rw [h2] at y
          exact iteT (y H But.refl)
        | true =>
          rw [h2, Bool.true_and] at y
          refine iteF ?_
          obtain ⟨a1, m1⟩ := at1 (eq_of_beq h2)
          refine ⟨_, rfl, wl, _, 1, _, rfl, rfl, SqL.of hw, a1, ws.getD 1 [], rfl, by have := (hok _ m1).2; omega, (hok _ m1).1, fun H1 b1 => ⟨_, rfl, ?_⟩⟩
          cases h3 : isName (ws.getD 1 []) with
          | false =>
            rw [h3] at y
            exact iteT (y H1 b1)
          | true =>
            rw [h3, Bool.true_and] at y
            refine iteF ?_
            refine ⟨_, rfl, wl, _, 1, _, rfl, rfl, SqL.of (b1.at hw), a1, _, rfl, cl, svs t.cols, rfl, .inl (SqL.of (b1.at op.cols)), rfl, flat_svs _, _, rfl, ?_⟩
            rw [if_neg Bool.false_ne_true, inV_svs]
            cases h4 : t.cols.contains (ws.getD 1 []) with
            | true =>
              rw [h4] at y
              exact iteT (y H1 b1)
            | false =>
              rw [h4, Bool.not_false, Bool.true_and, Bool.not_not] at y
              refine iteF ?_
              refine ⟨_, rfl, cl, _, rfl, .inl (SqL.of (b1.at op.cols)), rfl, _, rfl, ?_⟩
              have e5 : decide (V.int (((svs t.cols).length : Nat) : Int) = V.int 5) = (t.cols.length == 5) := by rw [svs_len]; exact nat_eq t.cols.length 5
              rw [e5]
              exact y H1 b1
      · have e : (ws.length == 2 && (isName (ws.getD 1 []) && (!t.cols.contains (ws.getD 1 []) && (!(t.cols.length == 5) && (t.keys.isEmpty && t.refs.isEmpty))))) = false := by
          revert hc
          cases (ws.length == 2) <;> cases isName (ws.getD 1 []) <;> cases t.cols.contains (ws.getD 1 []) <;> cases (t.cols.length == 5) <;> simp
        exact k2 (by rw [e]; rfl) H1 (But.of b1)
      · have hc2 : (ws.length == 2) = true ∧ isName (ws.getD 1 []) = true ∧ t.cols.contains (ws.getD 1 []) = false ∧ (t.cols.length == 5) = false := by
          revert hc
          cases (ws.length == 2) <;> cases isName (ws.getD 1 []) <;> cases t.cols.contains (ws.getD 1 []) <;> cases (t.cols.length == 5) <;> simp
        obtain ⟨h2, h3, h4, h5⟩ := hc2
        rw [h2, h3, h4, h5] at k1 k2
        obtain ⟨a1, m1⟩ := at1 (eq_of_beq h2)
        have op1 := op.keep b1
        have c5 := fn.c5
        refine ⟨_, rfl, tyList op1.cols, _, rfl, wl, _, 1, _, rfl, rfl, SqL.of (b1.at hw), a1, cl, svs t.cols, sv (ws.getD 1 []), rfl, rfl, op1.cols, szt (by rw [svs_len]; omega), ?_⟩
        have op2 := op1.putC (ws.getD 1 [])
        have bb : But [cl, kl, rl] H (upd H1 cl (.lst (svs t.cols ++ [sv (ws.getD 1 [])]))) := (But.of b1).trans (But.refl.put (by simp))
        generalize upd H1 cl (.lst (svs t.cols ++ [sv (ws.getD 1 [])])) = H2 at op2 bb
        refine ⟨_, rfl, eq_nilLL op2.keys op2.ek (fun k hk => (hks k hk).2.2) fun H3 b3 => ⟨_, rfl, ?_⟩⟩
        show if t.keys.isEmpty = true then _ else _
        cases h6 : t.keys.isEmpty with
        | false =>
          rw [h6] at k2
          exact iteF (k2 rfl H3 (bb.trans (But.of b3)))
        | true =>
          rw [h6] at k1 k2
          refine iteT ?_
          have op3 := op2.keep b3
          have er : ∀ k ∈ t.refs.map (·.1), ∀ w ∈ k, okS w := fun k hk => by
            obtain ⟨r, hr, rfl⟩ := List.mem_map.mp hk
            exact (hrs r hr).2
          refine ⟨_, rfl, eq_nilLL op3.refs op3.er er fun H4 b4 => ?_⟩
          have e7 : (t.refs.map (·.1)).isEmpty = t.refs.isEmpty := by cases t.refs <;> rfl
          show Q (.bl (t.refs.map (·.1)).isEmpty) H4
          rw [e7]
          cases h8 : t.refs.isEmpty with
          | false =>
            rw [h8] at k2
            exact k2 rfl H4 (bb.trans (But.of (b3.trans b4)))
          | true =>
            rw [h8] at k1
            exact k1 _ rfl H4 vk vr (bb.trans (But.of (b3.trans b4))) (op3.keep b4)
    | false =>
      refine iteF ?_
      have er : ∀ k ∈ t.refs.map (·.1), ∀ w ∈ k, okS w := fun k hk => by
        obtain ⟨r, hr, rfl⟩ := List.mem_map.mp hk
        exact (hrs r hr).2
      have e7 : (t.refs.map (·.1)).isEmpty = t.refs.isEmpty := by cases t.refs <;> rfl
      have okd : ∀ x ∈ ws.drop 1, okS x := fun x hx => (hok x (List.mem_of_mem_drop hx)).1
      have ld : (ws.drop 1).length ≤ 4000 := by rw [List.length_drop]; omega
      refine ⟨_, rfl, wl, _, 0, _, rfl, rfl, SqL.of hw, at0, rfl, _, rfl, ?_⟩
      rw [ek, sv_eq]
      cases hq2 : (ws.headD [] == wKey) with
      | true =>
        refine iteT ?_
        have ep : pyTaken ws t ab = if (t.refs.isEmpty && keyRight (ws.drop 1) t.cols t.keys) = true then some ⟨t.name, t.cols, t.keys ++ [ws.drop 1], t.refs⟩ else none := by
          unfold pyTaken; rw [if_neg (by rw [hq]; exact Bool.false_ne_true), if_pos hq2]
        rw [ep] at k1 k2
        show tSeq (tIfS _ _ tNext) _ _ _ _
        refine sq_guard (!(t.refs.isEmpty && keyRight (ws.drop 1) t.cols t.keys)) (fun Q' y => ?_) (fun hc H1 b1 => ?_) (fun hc H1 b1 => ?_)
        · refine ⟨_, rfl, ne_nilLL op.refs op.er er fun H1 b1 => ⟨_, rfl, ?_⟩⟩
          rw [e7]
          cases h2 : t.refs.isEmpty with
          | false =>
            rw [h2] at y
            exact iteT (y H1 b1)
          | true =>
            rw [h2, Bool.true_and] at y
            refine iteF ?_
            refine ⟨_, rfl, _, rfl, ?_⟩
            dsimp only [tNoPart]
            refine ⟨wl, svs ws, rfl, SqL.of (b1.at hw), fun p hp => ?_⟩
            rw [cutV_1 ws hne]
            have c2 := newB (o := .lst (svs (ws.drop 1))) hp
            have op2 := op.keep (b1.trans c2)
            refine ⟨_, rfl, _, rfl, p, cl, kl, ws.drop 1, t.cols, vk, t.keys, rfl, upd_same, op2.cols, op2.keys, op2.ek, ld, fun o ho => (hks o ho).1, okd, fun H3 b3 => ⟨_, rfl, ?_⟩⟩
            exact y H3 ((b1.trans c2).trans b3)
        · have e : (t.refs.isEmpty && keyRight (ws.drop 1) t.cols t.keys) = false := by
            revert hc
            cases (t.refs.isEmpty && keyRight (ws.drop 1) t.cols t.keys) <;> simp
          exact k2 (by rw [e]; rfl) H1 (But.of b1)
        · have e : (t.refs.isEmpty && keyRight (ws.drop 1) t.cols t.keys) = true := by
            revert hc
            cases (t.refs.isEmpty && keyRight (ws.drop 1) t.cols t.keys) <;> simp
          have op1 := op.keep b1
          have lk : vk.length ≤ 3 := by have := op.ek.1; have := fn.k3; omega
          refine ⟨_, rfl, tyList op1.keys, _, rfl, _, rfl, ?_⟩
          dsimp only [tNoPart]
          refine ⟨wl, svs ws, rfl, SqL.of (b1.at hw), fun q hq3 => ?_⟩
          rw [cutV_1 ws hne]
          have c2 := newB (o := .lst (svs (ws.drop 1))) hq3
          have eq3 : (upd H1 q (.lst (svs (ws.drop 1)))) q = some (.lst (svs (ws.drop 1))) := upd_same
          have n1 : q ≠ cl := fun z => by rw [z, op1.cols] at hq3; cases hq3
          have n2 : q ≠ kl := fun z => by rw [z, op1.keys] at hq3; cases hq3
          have n3 : q ≠ rl := fun z => by rw [z, op1.refs] at hq3; cases hq3
          generalize upd H1 q (.lst (svs (ws.drop 1))) = H2 at c2 eq3
          have op2 := op1.keep c2
          refine ⟨kl, vk, .ref q, rfl, rfl, op2.keys, szt (by omega), ?_⟩
          exact k1 _ (by rw [e]; rfl) _ _ _ ((But.of (b1.trans c2)).trans (But.refl.put (by simp))) (op2.putK eq3 n1 n2 n3)
      | false =>
        refine iteF ?_
        have eo : ([V.str (Str.ofString "ref"), V.str (Str.ofString "optional")] : List V) = svs [wRef, wOpt] := rfl
        have ep : pyTaken ws t ab = if (ws.headD [] == wRef || ws.headD [] == wOpt) = true then (if refRight (ws.headD [] == wRef) ws t ab = true then some ⟨t.name, t.cols, t.keys, t.refs ++ [((ws.drop 1).take (ws.length - 3), ws.getD (ws.length - 1) [], ws.headD [] == wRef)]⟩ else none) else none := by
          unfold pyTaken; rw [if_neg (by rw [hq]; exact Bool.false_ne_true), if_neg (by rw [hq2]; exact Bool.false_ne_true)]
        rw [ep] at k1 k2
        dsimp only [tNext]
        show tSeq (tIfS _ _ tNext) _ _ _ _
        refine sq_guard (!((ws.headD [] == wRef || ws.headD [] == wOpt) && refRight (ws.headD [] == wRef) ws t ab)) (fun Q' y => ?_) (fun hc H1 b1 => ?_) (fun hc H1 b1 => ?_)
        · refine ⟨_, rfl, wl, _, 0, _, rfl, rfl, SqL.of hw, at0, szl (by simp), fun q hq3 => ?_⟩
          have c2 := newB (o := .lst [V.str (Str.ofString "ref"), V.str (Str.ofString "optional")]) hq3
          refine ⟨q, svs [wRef, wOpt], rfl, .inl (SqL.of upd_same), rfl, flat_svs _, _, rfl, ?_⟩
          rw [if_pos rfl, inV_svs]
          have e9 : ([wRef, wOpt] : List Cn.T).contains (ws.headD []) = (ws.headD [] == wRef || ws.headD [] == wOpt) := by
            rw [List.contains_cons, List.contains_cons, List.contains_nil, Bool.or_false]
          rw [e9]
          cases h9 : (ws.headD [] == wRef || ws.headD [] == wOpt) with
          | false =>
            rw [h9] at y
            exact iteT (y _ c2)
          | true =>
            rw [h9, Bool.true_and] at y
            refine iteF ?_
            have h0 : ws.headD [] = if (ws.headD [] == wRef) = true then wRef else wOpt := by
              cases hz2 : (ws.headD [] == wRef) with
              | true => rw [if_pos rfl]; exact eq_of_beq hz2
              | false =>
                rw [hz2, Bool.false_or] at h9
                rw [if_neg Bool.false_ne_true]; exact eq_of_beq h9
            have op2 := op.keep c2
            refine ⟨_, rfl, _, rfl, _, rfl, wl, ta, d, cl, kl, rl, vk, vr, ws, t, ab, (ws.headD [] == wRef), rfl, c2.at hw, op2, hd.keep c2, nd, hz, fun x hx => (hok x hx).1, h0, hne, fn.k3, fn.r2, fun o ho => (hks o ho).2, fun r hr => (hrs r hr).1, fun H3 b3 => ⟨_, rfl, ?_⟩⟩
            exact y H3 (c2.trans b3)
        · have e : ((ws.headD [] == wRef || ws.headD [] == wOpt) && refRight (ws.headD [] == wRef) ws t ab) = false := by
            revert hc
            cases ((ws.headD [] == wRef || ws.headD [] == wOpt) && refRight (ws.headD [] == wRef) ws t ab) <;> simp
          refine k2 ?_ H1 (But.of b1)
          revert e
          cases (ws.headD [] == wRef || ws.headD [] == wOpt) with
          | false => intro _; rfl
          | true => intro e; rw [Bool.true_and] at e; rw [if_pos rfl, e]; rfl
        · have e : (ws.headD [] == wRef || ws.headD [] == wOpt) = true ∧ refRight (ws.headD [] == wRef) ws t ab = true := by
            rw [← Bool.and_eq_true]
            revert hc
            cases ((ws.headD [] == wRef || ws.headD [] == wOpt) && refRight (ws.headD [] == wRef) ws t ab) <;> simp
          have l4 : 4 ≤ ws.length := by
            have := e.2
            unfold refRight at this
            rw [Bool.and_eq_true] at this
            exact of_decide_eq_true this.1
          have op1 := op.keep b1
          have lr : vr.length ≤ 2 := by have := op.er.1; rw [List.length_map] at this; have := fn.r2; omega
          refine ⟨_, rfl, tyList op1.refs, _, rfl, _, rfl, 2, rfl, _, rfl, wl, _, rfl, SqL.of (b1.at hw), fun q hq3 => ?_⟩
          rw [cutV_part ws l4]
          have c2 := newB (o := .lst (svs ((ws.drop 1).take (ws.length - 3)))) hq3
          have eq3 : (upd H1 q (.lst (svs ((ws.drop 1).take (ws.length - 3))))) q = some (.lst (svs ((ws.drop 1).take (ws.length - 3)))) := upd_same
          have n1 : q ≠ cl := fun z => by rw [z, op1.cols] at hq3; cases hq3
          have n2 : q ≠ kl := fun z => by rw [z, op1.keys] at hq3; cases hq3
          have n3 : q ≠ rl := fun z => by rw [z, op1.refs] at hq3; cases hq3
          generalize upd H1 q (.lst (svs ((ws.drop 1).take (ws.length - 3)))) = H2 at c2 eq3
          have op2 := op1.keep c2
          refine ⟨rl, vr, .ref q, rfl, rfl, op2.refs, szt (by omega), ?_⟩
          exact k1 _ (by rw [if_pos e.1, if_pos e.2]) _ _ _ ((But.of (b1.trans c2)).trans (But.refl.put (by simp))) (op2.putR eq3 n1 n2 n3)
end
end Cn
set_option Elab.async false
set_option linter.all false
set_option maxRecDepth 100000
set_option maxHeartbeats 4000000
/-! the second reader, whole -/
namespace Cn
open PySem L2
/-- the dict with lists; its lists stand apart from some places -/
def DictA (H : Hp) (d : Addr) (ab : List Tbl) (ls : List Addr) : Prop := ∃ vs, H d = some (.dK (dk ab vs)) ∧ Each (LR H) vs (ab.map fun t => t.keys.headD []) ∧ ∀ p ∈ ls, V.ref p ∉ vs
theorem DictA.toL {H : Hp} {d : Addr} {ab : List Tbl} {ls : List Addr} (h : DictA H d ab ls) : DictL H d ab := let ⟨vs, e, k, _⟩ := h; ⟨vs, e, k⟩
theorem DictA.keep {H H' : Hp} {d : Addr} {ab : List Tbl} {l ls : List Addr} (h : DictA H d ab ls) (b : But l H H') (hd : d ∉ l) (hl : ∀ x ∈ l, x ∈ ls) : DictA H' d ab ls := by
  obtain ⟨vs, e, k, ap⟩ := h
  refine ⟨vs, b d _ hd e, ⟨k.1, fun i v x hv hx => ?_⟩, ap⟩
  obtain ⟨p, rfl, hp⟩ := k.2 i v x hv hx
  exact ⟨p, rfl, b p _ (fun z => ap p (hl p z) (List.mem_of_getElem? hv)) hp⟩
theorem DictA.apart {H : Hp} {d : Addr} {ab : List Tbl} {ls ls' : List Addr} (h : DictA H d ab ls) (hn : ∀ p ∈ ls', H p = none) : DictA H d ab ls' := by
  obtain ⟨vs, e, k, _⟩ := h
  refine ⟨vs, e, k, fun p hp hv => ?_⟩
  obtain ⟨i, hi⟩ := List.getElem?_of_mem hv
  obtain ⟨x, _, q, eq, hq⟩ := k.at hi
  cases eq
  rw [hn p hp] at hq
  cases hq
theorem DictA.put {H : Hp} {d : Addr} {ab : List Tbl} {ls : List Addr} {t : Tbl} {v : V} (h : DictA H d ab ls) (hn : t.name ∉ ab.map (·.name)) (hv : LR H v (t.keys.headD [])) (hz : ab.length ≤ 100) : ∃ H', DPut H d (sv t.name) v H' ∧ But [d] H H' ∧ DictA H' d (ab ++ [t]) [] := by
  obtain ⟨vs, e, hk, _⟩ := h
  have l : ab.length = vs.length := by have := hk.1; rw [List.length_map] at this; exact this.symm
  have b : But [d] H (upd H d (.dK (putK (dk ab vs) (.inr (S t.name)) v))) := But.refl.put (by simp)
  refine ⟨_, DPut.k (k := .inr (S t.name)) e (szt ?_), b, ?_⟩
  · unfold dk
    rw [List.length_zipWith]
    omega
  · have kk : ∀ {x : V} {k : List Cn.T}, LR H x k → LR (upd H d (.dK (putK (dk ab vs) (.inr (S t.name)) v))) x k := fun {x k} ⟨a, q, z⟩ => ⟨a, q, b.at1 z (fun y => by rw [y, e] at z; cases z)⟩
    refine ⟨vs ++ [v], ?_, ?_, by simp⟩
    · rw [upd_same, putK_new v (dk_none hn), dk_snoc l]
    · rw [List.map_append]
      exact (hk.mono fun _ _ z => kk z).snoc (kk hv)
def KeptT (t : Tbl) : Prop := (∀ k ∈ t.keys, k.length ≤ 4000 ∧ ∀ w ∈ k, okS w) ∧ ∀ r ∈ t.refs, r.1.length ≤ 4000 ∧ ∀ w ∈ r.1, okS w
theorem taken_kept {ws : List Cn.T} {t u : Tbl} {ab : List Tbl} (h : pyTaken ws t ab = some u) (hz : ws.length ≤ 4000) (hok : ∀ w ∈ ws, okS w) (kt : KeptT t) : KeptT u := by
  unfold pyTaken at h
  split at h
  · split at h
    · cases h; exact kt
    · cases h
  · split at h
    · split at h
      · cases h
        refine ⟨fun k hk => ?_, kt.2⟩
        rcases List.mem_append.mp hk with z | z
        · exact kt.1 k z
        · rw [List.mem_singleton.mp z]
          exact ⟨by rw [List.length_drop]; omega, fun w hw => hok w (List.mem_of_mem_drop hw)⟩
      · cases h
    · split at h
      · split at h
        · cases h
          refine ⟨kt.1, fun r hr => ?_⟩
          rcases List.mem_append.mp hr with z | z
          · exact kt.2 r z
          · rw [List.mem_singleton.mp z]
            exact ⟨by rw [List.length_take, List.length_drop]; omega, fun w hw => hok w (List.mem_of_mem_drop (List.mem_of_mem_take hw))⟩
        · cases h
      · cases h
/-- what stands while it reads: outside of tables, or within one -/
def StW (H1 : Hp) (d : Addr) (ab : List Tbl) (tv : V) (H' : Hp) : Option Tbl → Prop
  | none => tv = .non ∧ DictA H' d ab []
  | some u => ∃ (ta cl kl rl : Addr) (vk vr : List V), tv = .ref ta ∧ OpenR H' ta cl kl rl vk vr u ∧ DictA H' d ab [cl, kl, rl] ∧ KeptT u ∧ H1 cl = none ∧ H1 kl = none ∧ H1 rl = none
theorem rd_none {L : List Cn.T} {i : Nat} {r : Cn.T} {ab : List Tbl} {cur : Option Tbl} (h : L[i]? = some r) (s : step ab r cur = none) : rd (L.drop i) i ab cur = .error i := by
  rw [drop_some h]; unfold rd; rw [s]
theorem rd_some {L : List Cn.T} {i : Nat} {r : Cn.T} {ab a : List Tbl} {cur c : Option Tbl} (h : L[i]? = some r) (s : step ab r cur = some (a, c)) : rd (L.drop i) i ab cur = rd (L.drop (i + 1)) (i + 1) a c := by
  rw [drop_some h]
  show (match step ab r cur with | none => _ | some (a, c) => _) = _
  rw [s]
theorem two_blanks (r : Cn.T) : (r.take 2 == [32, 32]) = true ↔ ∃ x, r = 32 :: 32 :: x := by
  constructor
  · intro h
    match r, h with
    | [], h => simp at h
    | [a], h => simp at h
    | a :: b :: x, h => simp at h; exact ⟨x, by rw [h.1, h.2]⟩
  · rintro ⟨x, rfl⟩; rfl
theorem split_two (x : Cn.T) : splitC 32 (32 :: 32 :: x) = [] :: [] :: splitC 32 x := by simp [splitC]
theorem okS_piece {c : Nat} {t p : Cn.T} (h : okS t) (hp : p ∈ splitC c t) : okS p := okS_iff.mpr fun x hx => okS_iff.mp h x (split_mem hp hx)
theorem cutV_2 (ws : List Cn.T) (a b : Cn.T) : cutV (svs (a :: b :: ws)) (some 2) none = svs ws := by
  unfold cutV
  have e1 : HT.sIx (svs (a :: b :: ws)).length 0 (some 2) = 2 := by
    show (if (2 : Int) < 0 then ((2 : Int) + ((svs (a :: b :: ws)).length : Int)).toNat else min (2 : Int).toNat (svs (a :: b :: ws)).length) = 2
    rw [if_neg (by decide), svs_len]
    show min 2 (ws.length + 2) = 2
    omega
  have e2 : HT.sIx (svs (a :: b :: ws)).length (svs (a :: b :: ws)).length none = ws.length + 2 := by
    show (svs (a :: b :: ws)).length = _
    rw [svs_len]; rfl
  rw [e1, e2]
  show (svs ws).take (ws.length + 2 - 2) = svs ws
  rw [List.take_of_length_le (by rw [svs_len]; omega)]
theorem get_in {H : Hp} {d : Addr} {ab : List Tbl} (h : DictL H d ab) (nd : (ab.map (·.name)).Nodup) (n : Cn.T) : ∃ o, DGet H d (sv n) o ∧ o.isSome = (ab.map (·.name)).contains n := by
  obtain ⟨o, g, g0, g1⟩ := h.get nd n
  refine ⟨o, g, ?_⟩
  cases e : (ab.find? fun a => a.name == n) with
  | none =>
    rw [g0 e]
    symm
    show _ = false
    rw [Bool.eq_false_iff]
    intro z
    rw [List.contains_iff_mem] at z
    obtain ⟨t, ht, en⟩ := List.mem_map.mp z
    exact List.find?_eq_none.mp e t ht (by rw [en]; exact beq_self_eq_true _)
  | some a =>
    obtain ⟨v, rfl, _⟩ := g1 a e
    have hm := List.mem_of_find?_eq_some e
    have en : a.name = n := eq_of_beq (List.find?_some (p := fun a : Tbl => a.name == n) e)
    symm
    show _ = true
    rw [List.contains_iff_mem]
    exact List.mem_map.mpr ⟨a, hm, en⟩
theorem cutS_take4 (l : Cn.T) (k : Nat) : cutS (S l) none (some ((k : Nat) : Int)) = S (l.take k) := by
  refine TL.ext_tl ?_
  show ((l.drop (HT.sIx (S l).length 0 none)).take (HT.sIx (S l).length (S l).length (some (k : Int)) - HT.sIx (S l).length 0 none)) = l.take k
  rw [HT.sIx_nat, HT.sIx_none, S_len, List.drop_zero, Nat.sub_zero]
  by_cases h : k ≤ l.length
  · rw [Nat.min_eq_left h]
  · rw [Nat.min_eq_right (by omega), List.take_of_length_le (Nat.le_refl _), List.take_of_length_le (by omega)]
section
variable {P : Program} {w : World} {K : PySem.W.Frag} {mg : Str → Option Value} {base : Heap} {CR CT CS CI : Addr} {f : Addr} {fd : FuncData}
theorem sc__law_wrong : FnScope ["text", "above", "table", "rows", "number", "row", "words"] ["text"] (defScope s__law_wrong) := ⟨rfl, rfl, rfl, by decide +kernel, rfl, by decide +kernel, by decide +kernel⟩
/-- a text that both readers read -/
def Txt4 (t : Cn.T) : Prop := okS t ∧ t.length ≤ 900000 ∧ t.count 32 ≤ 3990
def sp_wrong4 : Sp := fun vs H Q _ => ∃ t : Cn.T, vs = [sv t] ∧ Txt4 t ∧ ∀ H', But [] H H' → Q (rowV t) H'
theorem ok_wrong4 (F : Fun K "_law_wrong" "_law_wrong" s__law_wrong f fd) (T : LT4 K mg CR CT CS CI) (c__law_is_name : Cal P w K mg base 1 "_law_is_name" sp_isname4) (c__law_taken : Cal P w K mg base 3 "_law_taken" sp_taken) : FnOk P w K mg base (L2.CX P w) 4 f fd ["text"] sp_wrong4 := by
  refine F.okX sc__law_wrong (fun vs H Q E h => ?_) (fun cdv A outer s H vs Q E hr h => ?_)
  · obtain ⟨t, rfl, _⟩ := h
    rfl
  · obtain ⟨t, rfl, ⟨hokt, hz, hcnt⟩, k⟩ := h
    refine ⟨_, (pss_cons (ps_par (i := 1) (j := 2) (by rfl) sc__law_wrong.nd rfl rfl (by decide) rfl rfl (pa_cons pe_dnewK (pa_cons pe_non pa_nil)) (by rfl))
  (pss_cons (ps_set (i := 3) sc__law_wrong.nd rfl (Or.inl rfl) (pe_split (pv 0) pe_str))
  (pss_cons (ps_for (passes_of rfl) (by rfl) (pi_enum (by rfl) T.b_enumerate (pa_cons (pv 3) pa_nil)) (pg_tup (by rfl) (pgs_cons (pg_name (i := 4) sc__law_wrong.nd rfl (Or.inl rfl)) (pgs_cons (pg_name (i := 5) sc__law_wrong.nd rfl (Or.inl rfl)) pgs_nil)))
  (pss_cons (ps_set (i := 6) sc__law_wrong.nd rfl (Or.inl rfl) (pe_split (pv 5) pe_str))
  (pss_one (ps_if (pt_cmpR op_isN (pv 2) pe_non (nomark _))
  (pss_cons (ps_if (PW.pt (pw_or (pt_cmpR op_ne (pe_callB (call_len_seqK K rfl) (by rfl) T.b_len (by decide +kernel) (pa_cons (pv 6) pa_nil)) pe_int (nomark _)) (pw_or (pt_cmpR op_ne (pe_ix (ix_listK K rfl) (pv 6) pe_int (fun _ _ => rfl)) pe_str (nomark _)) (pw_or1 (pt_not (pt_val (p_call E c__law_is_name hr (by decide) (by rfl) (passX rfl rfl rfl (takes_of rfl rfl rfl rfl)) (pa_cons (pe_ix (ix_listK K rfl) (pv 6) pe_int (fun _ _ => rfl)) pa_nil))))))))
  (pss_one (ps_ret (pv 4)))
  pss_nil)
  (pss_cons (ps_if (PW.pt (pw_or (pt_cmp (pc_din (hu1 hr) (pe_ix (ix_listK K rfl) (pv 6) pe_int (fun _ _ => rfl)) (pv 1))) (pw_or1 (pt_cmpR op_eq (pe_callB call_lenD (by rfl) T.b_len (by decide +kernel) (pa_cons (pv 1) pa_nil)) pe_int (nomark _)))))
  (pss_one (ps_ret (pv 4)))
  pss_nil)
  (pss_one (ps_set (i := 2) sc__law_wrong.nd rfl (Or.inl rfl) (pe_tup (pa_cons (pe_ix (ix_listK K rfl) (pv 6) pe_int (fun _ _ => rfl)) (pa_cons (pe_lst pa_nil) (pa_cons (pe_lst pa_nil) (pa_cons (pe_lst pa_nil) pa_nil)))))))))
  (pss_one (ps_if (pt_cmpR op_eq (pv 5) pe_str (nomark _))
  (pss_cons (ps_if (pt_cmpR (op_eqDK K rfl hr.units) (pe_ix (ix_tupK K rfl) (pv 2) pe_int (fun _ _ => rfl)) (pe_lst pa_nil) (nomark _))
  (pss_one (ps_ret (pv 4)))
  pss_nil)
  (pss_cons (ps_asg (pe_ix (ix_listK K rfl) (pe_ix (ix_tupK K rfl) (pv 2) pe_int (fun _ _ => rfl)) pe_int (fun _ _ => rfl)) (pg_sub (pv 1) (pe_ix (ix_tupK K rfl) (pv 2) pe_int (fun _ _ => rfl)) (set_dict (hu1 hr))))
  (pss_one (ps_set (i := 2) sc__law_wrong.nd rfl (Or.inl rfl) pe_non))))
  (pss_one (ps_if (PW.pt (pw_or (pt_cmpR op_ne (pe_slice sl_str (pv 5) po_none (po_some pe_int)) pe_str (nomark _)) (pw_or1 (pt_not (pt_val (p_call E c__law_taken hr (by decide) (by rfl) (passX rfl rfl rfl (takes_of rfl rfl rfl rfl)) (pa_cons (pe_slice (sl_listK K rfl) (pv 6) (po_some pe_int) po_none) (pa_cons (pv 2) (pa_cons (pv 1) pa_nil)))))))))
  (pss_one (ps_ret (pv 4)))
  pss_nil))))))))
  (pss_one (ps_ret (pe_ifExp (pt_cmpR op_isN (pv 2) pe_non (nomark _)) pe_non (pe_callB (call_len_seqK K rfl) (by rfl) T.b_len (by decide +kernel) (pa_cons (pv 3) pa_nil)))))))), ?_⟩
    refine fun d hd => ⟨_, _, rfl, ?_⟩
    refine ⟨_, rfl, ⟨_, rfl⟩, S t, S [10], rfl, rfl, rfl, szl (by rw [S_len]; omega), fun R hR => ?_⟩
    have eL : Txt.split (S t) (S [10]) = (splitC 10 t).map S := split_S 10 (by decide) t
    have nRd : R ≠ d := fun z => by rw [z, upd_same] at hR; cases hR
    have b01 : But [] H (upd (upd H d (.dK [])) R (.lst (svs (splitC 10 t)))) := (newB hd).new hR
    have eR : (upd (upd H d (.dK [])) R (.lst (svs (splitC 10 t)))) R = some (.lst (svs (splitC 10 t))) := upd_same
    have ed : (upd (upd H d (.dK [])) R (.lst (svs (splitC 10 t)))) d = some (.dK []) := by rw [upd_ne nRd.symm, upd_same]
    have e1 : (upd (upd H d (.dK [])) R (.lst ((Txt.split (S t) (S [10])).map V.str))) = upd (upd H d (.dK [])) R (.lst (svs (splitC 10 t))) := by rw [eL, ← svs_str]
    show tSeq _ _ _ _ (upd (upd H d (.dK [])) R (.lst ((Txt.split (S t) (S [10])).map V.str)))
    rw [e1]
    generalize upd (upd H d (.dK [])) R (.lst (svs (splitC 10 t))) = H1 at b01 eR ed
    have hne : splitC 10 t ≠ [] := splitC_ne 10 t
    have hrv : rowV t = match rd (splitC 10 t) 0 [] none with | .error e => .int (e : Nat) | .ok _ => .non := by
      unfold rowV; rw [parse_rd hne] <;> cases rd (splitC 10 t) 0 [] none <;> rfl
    rw [hrv] at k
    have hrow : ∀ r ∈ splitC 10 t, okS r ∧ r.length ≤ 900000 ∧ (splitC 32 r).length ≤ 3991 := fun r h => ⟨okS_piece hokt h, by have := split_row_len h; omega, by have := words_cnt h; omega⟩
    generalize splitC 10 t = L at eR k hne hrow
    have kk : ∀ {H'}, But [d] H1 H' → But [] H H' := fun b => ((But.of b01).trans b).drop hd
    refine ⟨_, rfl, R, _, rfl, SqL.of eR, ?_⟩
    refine for_it (walk_enum (K := K) (a := R) (xs := svs L)) (fun i σ H' => ∃ ab cur tv v4 v5 v6, σ = [some (sv t), some (.ref d), some tv, some (.ref R), v4, v5, v6] ∧ But [d] H1 H' ∧ Good ab cur ∧ rd (L.drop i) i ab cur = rd L 0 [] none ∧ StW H1 d ab tv H' cur)
      ⟨[], none, _, _, _, _, rfl, But.refl, good0, by rw [List.drop_zero], rfl, [], ed, Each.nil, by simp⟩ (fun i σ H' _ ⟨_, _, _, _, _, _, _, b, _⟩ => SqL.of (b.at1 eR nRd)) (fun i x σ H2 H2' hi ⟨ab, cur, tv, v4, v5, v6, es, b2, gd, erd, sw⟩ y => ?_) (fun σ H2 ⟨ab, cur, tv, v4, v5, v6, es, b2, gd, erd, sw⟩ => ?_)
    · obtain ⟨T0, x0, y0, rfl, hT, rfl, ex0, ey0⟩ := y
      cases ex0
      obtain ⟨r, hr0, rfl⟩ := svs_get ey0
      subst es
      obtain ⟨rok, rlen, rcnt⟩ := hrow r (List.mem_of_getElem? hr0)
      have bT : But [] H2 (upd H2 T0 (.tup [.int (i : Nat), sv r])) := newB hT
      refine ⟨T0, _, rfl, SqT.of upd_same, rfl, _, _, rfl, _, _, rfl, rfl, ?_⟩
      generalize upd H2 T0 (.tup [.int (i : Nat), sv r]) = H3 at bT
      -- words
      refine ⟨_, rfl, ⟨_, rfl⟩, S r, S [32], rfl, rfl, rfl, szl (by rw [S_len]; omega), fun wl hwl => ?_⟩
      have eW : Txt.split (S r) (S [32]) = (splitC 32 r).map S := split_S 32 (by decide) r
      have bW : But [] H3 (upd H3 wl (.lst (svs (splitC 32 r)))) := newB hwl
      have ewl : (upd H3 wl (.lst (svs (splitC 32 r)))) wl = some (.lst (svs (splitC 32 r))) := upd_same
      show gName 6 _ _ (upd H3 wl (.lst ((Txt.split (S r) (S [32])).map V.str))) _
      rw [eW, ← svs_str]
      have fwl : H2 wl = none := bT.free hwl (by simp)
      generalize upd H3 wl (.lst (svs (splitC 32 r))) = H4 at bW ewl
      have b24 : But [] H2 H4 := bT.trans bW
      have b14 : But [d] H1 H4 := b2.trans (But.of b24)
      -- what a wrong row gives
      have bad : step ab r cur = none → ∀ H', But [d] H1 H' → Q (.int (i : Nat)) H' := fun s H' b => by
        rw [rd_none hr0 s] at erd
        rw [← erd] at k
        exact k H' (kk b)
      cases cur with
      | none =>
        obtain ⟨rfl, dr⟩ := sw
        have st := step_table (ab := ab) (x := r) gd.l5
        have dr4 : DictA H4 d ab [] := dr.keep (l := []) b24 (by simp) (by simp)
        refine ⟨_, rfl, rfl, _, rfl, ?_⟩
        refine iteT ?_
        generalize hw2 : splitC 32 r = ws at ewl st rcnt
        have hok : ∀ w ∈ ws, okS w ∧ w.length ≤ 1000000 := fun w hw => by
          rw [← hw2] at hw
          exact ⟨okS_piece rok hw, by have := split_row_len hw; omega⟩
        have at0 : atI (svs ws) 0 = some (sv (ws.headD [])) := by
          obtain ⟨x, s, rfl⟩ : ∃ x s, ws = x :: s := by
            cases ws with
            | nil => exact absurd hw2 (splitC_ne 32 r)
            | cons x s => exact ⟨x, s, rfl⟩
          exact svs_ati (n := 0) rfl
        have at1 : ws.length = 2 → atI (svs ws) 1 = some (sv (ws.getD 1 [])) ∧ ws.getD 1 [] ∈ ws := fun h => by
          have hx : ws[1]? = some (ws[1]'(by omega)) := List.getElem?_eq_getElem _
          have e : ws.getD 1 [] = ws[1]'(by omega) := by rw [List.getD_eq_getElem?_getD, hx]; rfl
          rw [e]
          exact ⟨svs_ati (n := 1) hx, List.getElem_mem _⟩
        show tSeq (tIfS _ _ tNext) _ _ _ _
        refine sq_guard (!(ws.length == 2 && (ws.headD [] == wTable && isName (ws.getD 1 [])))) (fun Q' y => ?_) (fun hc H5 b5 => ?_) (fun hc H5 b5 => ?_)
        · refine ⟨_, rfl, wl, _, rfl, .inl (SqL.of ewl), rfl, _, rfl, ?_⟩
          have e2 : decide (V.int (((svs ws).length : Nat) : Int) = V.int 2) = (ws.length == 2) := by rw [svs_len]; exact nat_eq ws.length 2
          rw [e2]
          cases h2 : (ws.length == 2) with
          | false =>
            rw [h2] at y
            exact iteT (y H4 But.refl)
          | true =>
            rw [h2, Bool.true_and] at y
            refine iteF ?_
            obtain ⟨a1, m1⟩ := at1 (eq_of_beq h2)
            refine ⟨_, rfl, wl, _, 0, _, rfl, rfl, SqL.of ewl, at0, rfl, _, rfl, ?_⟩
            have ec : (V.str (Str.ofString "table")) = sv wTable := rfl
            rw [ec, sv_eq]
            cases h3 : (ws.headD [] == wTable) with
            | false =>
              rw [h3] at y
              exact iteT (y H4 But.refl)
            | true =>
              rw [h3, Bool.true_and] at y
              refine iteF ?_
              refine ⟨_, rfl, wl, _, 1, _, rfl, rfl, SqL.of ewl, a1, ws.getD 1 [], rfl, by have := (hok _ m1).2; omega, (hok _ m1).1, fun H5 b5 => ⟨_, rfl, ?_⟩⟩
              exact y H5 b5
        · have e : step ab r none = none := by
            rw [st]
            revert hc
            cases (ws.length == 2) <;> cases (ws.headD [] == wTable) <;> cases isName (ws.getD 1 []) <;> simp
          exact ⟨_, rfl, bad e H5 (b14.trans (But.of b5))⟩
        · have hc2 : (ws.length == 2) = true ∧ (ws.headD [] == wTable) = true ∧ isName (ws.getD 1 []) = true := by
            revert hc
            cases (ws.length == 2) <;> cases (ws.headD [] == wTable) <;> cases isName (ws.getD 1 []) <;> simp
          obtain ⟨h2, h3, h4⟩ := hc2
          rw [h2, h3, h4, Bool.true_and, Bool.true_and, Bool.true_and] at st
          obtain ⟨a1, m1⟩ := at1 (eq_of_beq h2)
          have dr5 : DictA H5 d ab [] := dr4.keep (l := []) b5 (by simp) (by simp)
          have b15 : But [d] H1 H5 := b14.trans (But.of b5)
          have ewl5 := b5.at ewl
          show tSeq (tIfS _ _ tNext) _ _ _ _
          refine sq_guard ((ab.map (·.name)).contains (ws.getD 1 []) || ab.length == 5) (fun Q' y => ?_) (fun hc H6 b6 => ?_) (fun hc H6 b6 => ?_)
          · obtain ⟨o, g, go⟩ := get_in dr5.toL gd.nd (ws.getD 1 [])
            refine ⟨_, rfl, wl, _, 1, _, rfl, rfl, SqL.of ewl5, a1, _, rfl, d, o, rfl, g, _, rfl, ?_⟩
            rw [go]
            cases h5 : (ab.map (·.name)).contains (ws.getD 1 []) with
            | true =>
              rw [h5] at y
              exact iteT (y H5 But.refl)
            | false =>
              rw [h5, Bool.false_or] at y
              refine iteF ?_
              obtain ⟨vs, ev, ek, _⟩ := dr5
              refine ⟨_, rfl, d, _, rfl, ev, rfl, _, rfl, ?_⟩
              have l : (dk ab vs).length = ab.length := by
                have := ek.1
                rw [List.length_map] at this
                unfold dk
                rw [List.length_zipWith]; omega
              have e6 : decide (V.int (((dk ab vs).length : Nat) : Int) = V.int 5) = (ab.length == 5) := by rw [l]; exact nat_eq ab.length 5
              rw [e6]
              exact y H5 But.refl
          · have e : step ab r none = none := by
              rw [st]
              revert hc
              cases (ab.map (·.name)).contains (ws.getD 1 []) <;> cases (ab.length == 5) <;> simp
            exact ⟨_, rfl, bad e H6 (b15.trans (But.of b6))⟩
          · have e : step ab r none = some (ab, some ⟨ws.getD 1 [], [], [], []⟩) := by
              rw [st]
              revert hc
              cases (ab.map (·.name)).contains (ws.getD 1 []) <;> cases (ab.length == 5) <;> simp
            rw [rd_some hr0 e] at erd
            have gd2 := step_good gd e
            refine ⟨_, rfl, wl, _, 1, _, rfl, rfl, SqL.of (b6.at ewl5), a1, szl (by simp), fun cl hcl => ⟨szl (by simp), fun kl hkl => ⟨szl (by simp), fun rl hrl => ⟨szl (by simp), fun ta hta => ?_⟩⟩⟩⟩
            have b16 : But [d] H1 H6 := b15.trans (But.of b6)
            have dr6 : DictA H6 d ab [] := dr5.keep (l := []) b6 (by simp) (by simp)
            have c1 : But [] H6 (upd H6 cl (.lst [])) := newB hcl
            have c2 : But [] H6 (upd (upd H6 cl (.lst [])) kl (.lst [])) := c1.new hkl
            have c3 : But [] H6 (upd (upd (upd H6 cl (.lst [])) kl (.lst [])) rl (.lst [])) := c2.new hrl
            have nck : cl ≠ kl := ne_of_none upd_same hkl
            have ncr : cl ≠ rl := ne_of_none (show (upd (upd H6 cl (.lst [])) kl (.lst [])) cl = some (.lst []) by rw [upd_ne nck, upd_same]) hrl
            have nkr : kl ≠ rl := ne_of_none upd_same hrl
            have fcl : H6 cl = none := hcl
            have fkl : H6 kl = none := c1.free hkl (by simp)
            have frl : H6 rl = none := c2.free hrl (by simp)
            have nd : ∀ {x}, H6 x = none → x ≠ d := fun {x} h z => by
              obtain ⟨vs, ev, _⟩ := dr6
              rw [z, ev] at h
              cases h
            have f1 : ∀ {x}, H6 x = none → H1 x = none := fun {x} h => b16.free h (not1 (nd h))
            have ntc : cl ≠ ta := ne_of_none (show (upd (upd (upd H6 cl (.lst [])) kl (.lst [])) rl (.lst [])) cl = some (.lst []) by rw [upd_ne ncr, upd_ne nck, upd_same]) hta
            have ntk : kl ≠ ta := ne_of_none (show (upd (upd (upd H6 cl (.lst [])) kl (.lst [])) rl (.lst [])) kl = some (.lst []) by rw [upd_ne nkr, upd_same]) hta
            have ntr : rl ≠ ta := ne_of_none (show (upd (upd (upd H6 cl (.lst [])) kl (.lst [])) rl (.lst [])) rl = some (.lst []) by rw [upd_same]) hta
            refine ⟨ab, some ⟨ws.getD 1 [], [], [], []⟩, .ref ta, _, _, _, rfl, b16.trans (But.of (c3.new hta)), gd2, erd, ta, cl, kl, rl, [], [], rfl, ?_, ?_, ⟨by simp, by simp⟩, f1 fcl, f1 fkl, f1 frl⟩
            · refine ⟨upd_same, ?_, ?_, ?_, Each.nil, Each.nil, nck, ncr, nkr, by simp⟩
              · rw [upd_ne ntc, upd_ne ncr, upd_ne nck, upd_same]; rfl
              · rw [upd_ne ntk, upd_ne nkr, upd_same]
              · rw [upd_ne ntr, upd_same]
            · refine (dr6.apart (ls' := [cl, kl, rl]) fun p hp => ?_).keep (l := []) (c3.new hta) (by simp) (by simp)
              simp only [List.mem_cons, List.not_mem_nil, or_false] at hp
              rcases hp with z | z | z
              · rw [z]; exact fcl
              · rw [z]; exact fkl
              · rw [z]; exact frl
      | some u =>
        obtain ⟨ta, cl, kl, rl, vk, vr, rfl, op, da, kt, f1, f2, f3⟩ := sw
        obtain ⟨fn, new, l5, kn⟩ := gd.fn u rfl
        have op4 := op.keep b24
        have da4 : DictA H4 d ab [cl, kl, rl] := da.keep (l := []) b24 (by simp) (by simp)
        refine ⟨_, rfl, rfl, _, rfl, ?_⟩
        refine iteF ?_
        refine ⟨_, rfl, rfl, _, rfl, ?_⟩
        have ec : (V.str (Str.ofString "end")) = sv kEnd := rfl
        rw [ec, sv_eq]
        cases he : (r == kEnd) with
        | true =>
          refine iteT ?_
          have er : r = kEnd := eq_of_beq he
          have st := step_end (ab := ab) fn
          rw [← er] at st
          show tSeq (tIfS _ _ tNext) _ _ _ _
          refine sq_guard u.keys.isEmpty (fun Q' y => ?_) (fun hc H5 b5 => ?_) (fun hc H5 b5 => ?_)
          · refine ⟨_, rfl, ta, _, 2, _, rfl, rfl, SqT.of op4.tup, rfl, ?_⟩
            exact eq_nilLL (σ := _) (Q := _) op4.keys op4.ek (fun k hk => (kt.1 k hk).2) fun H5 b5 => ⟨_, rfl, y H5 b5⟩
          · have e : step ab r (some u) = none := by rw [st, if_pos hc]
            exact ⟨_, rfl, bad e H5 (b14.trans (But.of b5))⟩
          · have e : step ab r (some u) = some (ab ++ [u], none) := by rw [st, if_neg (by rw [hc]; exact Bool.false_ne_true)]
            rw [rd_some hr0 e] at erd
            have gd2 := step_good gd e
            have op5 := op4.keep b5
            have da5 : DictA H5 d ab [cl, kl, rl] := da4.keep (l := []) b5 (by simp) (by simp)
            obtain ⟨k0, ks, ek0⟩ : ∃ k0 ks, u.keys = k0 :: ks := by
              cases h : u.keys with
              | nil => rw [h] at hc; cases hc
              | cons a s => exact ⟨a, s, rfl⟩
            obtain ⟨v0, hv0, lv⟩ := op5.ek.atx (i := 0) (x := k0) (by rw [ek0]; rfl)
            have lv' : LR H5 v0 (u.keys.headD []) := by rw [ek0]; exact lv
            obtain ⟨H6, hput, b6, da6⟩ := da5.put new lv' (by omega)
            refine ⟨_, rfl, ta, _, 2, _, rfl, rfl, SqT.of op5.tup, rfl, kl, vk, 0, v0, rfl, rfl, SqL.of op5.keys, atI_nat hv0, _, rfl, _, rfl, ta, _, 0, _, rfl, rfl, SqT.of op5.tup, rfl, d, H6, rfl, hput, ?_⟩
            exact ⟨ab ++ [u], none, _, _, _, _, rfl, (b14.trans (But.of b5)).trans b6, gd2, erd, rfl, da6⟩
        | false =>
          refine iteF ?_
          have tv0 : ∀ {G : Prop}, (∀ x, r = 32 :: 32 :: x → G) → ((r.take 2 == [32, 32]) = true → G) := fun g h => by
            obtain ⟨x, e⟩ := (two_blanks r).mp h
            exact g x e
          dsimp only [tNext]
          show tIfS _ _ tNext _ _ _
          refine ⟨_, rfl, 2, rfl, S r, rfl, szl (by rw [S_len]; omega), rfl, _, rfl, ?_⟩
          have e2 : cutS (S r) none (some 2) = S (r.take 2) := cutS_take4 r 2
          rw [e2]
          have ec2 : (V.str (Str.ofString "  ")) = sv [32, 32] := rfl
          rw [ec2]
          have e3 : (!decide (V.str (S (r.take 2)) = sv [32, 32])) = !(r.take 2 == [32, 32]) := by rw [← sv_eq]
          rw [e3]
          cases h2 : (r.take 2 == [32, 32]) with
          | false =>
            refine iteT ?_
            refine iteT ?_
            have e : step ab r (some u) = none := step_other (fun x hx => by rw [(two_blanks r).mpr ⟨x, hx⟩] at h2; cases h2) he
            exact ⟨_, rfl, bad e H4 b14⟩
          | true =>
            obtain ⟨x, rfl⟩ := (two_blanks r).mp h2
            refine iteF ?_
            have st := step_words (ab := ab) (x := x) fn gd.nd new
            rw [split_two] at ewl rcnt
            refine ⟨_, rfl, 2, rfl, ?_⟩
            dsimp only [tNoPart]
            refine ⟨wl, _, rfl, SqL.of ewl, fun q hq => ?_⟩
            rw [cutV_2]
            have xok : ∀ w ∈ splitC 32 x, okS w ∧ w.length ≤ 1000000 := fun w hw => by
              have hw2 : w ∈ splitC 32 (32 :: 32 :: x) := by rw [split_two]; exact List.mem_cons_of_mem _ (List.mem_cons_of_mem _ hw)
              exact ⟨okS_piece rok hw2, by have := split_row_len hw2; omega⟩
            have xlen : (splitC 32 x).length ≤ 4000 := by simp at rcnt; omega
            have bq : But [] H4 (upd H4 q (.lst (svs (splitC 32 x)))) := newB hq
            have eq3 : (upd H4 q (.lst (svs (splitC 32 x)))) q = some (.lst (svs (splitC 32 x))) := upd_same
            have n1 : q ≠ cl := fun z => by rw [z, op4.cols] at hq; cases hq
            have n2 : q ≠ kl := fun z => by rw [z, op4.keys] at hq; cases hq
            have n3 : q ≠ rl := fun z => by rw [z, op4.refs] at hq; cases hq
            generalize upd H4 q (.lst (svs (splitC 32 x))) = H5 at bq eq3
            have op5 := op4.keep bq
            have da5 : DictA H5 d ab [cl, kl, rl] := da4.keep (l := []) bq (by simp) (by simp)
            have b15 : But [d] H1 H5 := b14.trans (But.of bq)
            have dcl : d ≠ cl := fun z => by rw [← z, ed] at f1; cases f1
            have dkl : d ≠ kl := fun z => by rw [← z, ed] at f2; cases f2
            have drl : d ≠ rl := fun z => by rw [← z, ed] at f3; cases f3
            have b36 : ∀ {H6}, But [cl, kl, rl] H5 H6 → But [d] H1 H6 := fun {H6} b6 a o ha e1 => by
              refine b6 a o (fun z => ?_) (b15 a o ha e1)
              simp only [List.mem_cons, List.not_mem_nil, or_false] at z
              rcases z with z | z | z
              · rw [z, f1] at e1; cases e1
              · rw [z, f2] at e1; cases e1
              · rw [z, f3] at e1; cases e1
            refine ⟨_, rfl, _, rfl, q, ta, d, cl, kl, rl, vk, vr, splitC 32 x, u, ab, rfl, eq3, op5, da5.toL, gd.nd, xlen, xok, splitC_ne 32 x, fn, n1, n2, n3, fun k hk => ⟨kn k hk, kt.1 k hk⟩, fun r hr => kt.2 r hr, fun v hv H6 vk' vr' b6 op6 => ⟨_, rfl, ?_⟩, fun hv H6 b6 => ⟨_, rfl, ?_⟩⟩
            · refine iteF ?_
              have e : step ab (32 :: 32 :: x) (some u) = some (ab, some v) := by rw [st, hv]; rfl
              rw [rd_some hr0 e] at erd
              have gd2 := step_good gd e
              exact ⟨ab, some v, _, _, _, _, rfl, b36 b6, gd2, erd, ta, cl, kl, rl, vk', vr', rfl, op6, da5.keep b6 (by simp [dcl, dkl, drl]) (fun y hy => hy), taken_kept hv xlen (fun w hw => (xok w hw).1) kt, f1, f2, f3⟩
            · refine iteT ?_
              have e : step ab (32 :: 32 :: x) (some u) = none := by rw [st, hv]; rfl
              exact ⟨_, rfl, bad e H6 (b36 b6)⟩
    · subst es
      rw [svs_len, List.drop_length] at erd
      cases cur with
      | none =>
        obtain ⟨rfl, dr⟩ := sw
        have e : rd ([] : List Cn.T) L.length ab none = .ok ab := rfl
        rw [e] at erd
        rw [← erd] at k
        exact ⟨_, rfl, rfl, _, rfl, iteT (show Q .non H2 from k H2 (kk b2))⟩
      | some u =>
        obtain ⟨ta, cl, kl, rl, vk, vr, rfl, _⟩ := sw
        have e : rd ([] : List Cn.T) L.length ab (some u) = .error L.length := rfl
        rw [e] at erd
        rw [← erd] at k
        refine ⟨_, rfl, rfl, _, rfl, iteF ⟨_, rfl, R, _, rfl, .inl (SqL.of (b2.at1 eR nRd)), ?_⟩⟩
        show Q (.int ((svs L).length : Nat)) H2
        rw [svs_len]
        exact k H2 (kk b2)
end
end Cn
set_option Elab.async false
set_option linter.all false
set_option maxRecDepth 100000
set_option maxHeartbeats 4000000
/-! signs changed -/
namespace Cn
open PySem L2
/-- a text of so many signs, all of them plain, with so many blanks -/
structure Od (n k : Nat) (l : Cn.T) : Prop where
  ok : ∀ c ∈ l, c < 128
  len : l.length ≤ n
  cnt : l.count 32 ≤ k
theorem Od.le {n k n' k' : Nat} {l : Cn.T} (h : Od n k l) (h1 : n ≤ n') (h2 : k ≤ k') : Od n' k' l := ⟨h.ok, by have := h.len; omega, by have := h.cnt; omega⟩
theorem Od.add {n k n' k' : Nat} {l m : Cn.T} (h : Od n k l) (g : Od n' k' m) : Od (n + n') (k + k') (l ++ m) := by
  refine ⟨fun c hc => ?_, ?_, ?_⟩
  · rcases List.mem_append.mp hc with z | z
    · exact h.ok c z
    · exact g.ok c z
  · rw [List.length_append]; have := h.len; have := g.len; omega
  · rw [List.count_append]; have := h.cnt; have := g.cnt; omega
theorem od_lit (l : Cn.T) (h : (l.all fun c => decide (c < 128)) = true := by decide) : Od l.length (l.count 32) l := ⟨fun c hc => by
  have := List.all_eq_true.mp h c hc
  exact of_decide_eq_true this, Nat.le_refl _, Nat.le_refl _⟩
theorem od_nil {n k : Nat} : ∀ l ∈ ([] : List Cn.T), Od n k l := fun l h => by cases h
theorem od_cons {n k : Nat} {a : Cn.T} {r : List Cn.T} (h : Od n k a) (g : ∀ l ∈ r, Od n k l) : ∀ l ∈ a :: r, Od n k l := fun l hl => by
  rcases List.mem_cons.mp hl with z | z
  · rw [z]; exact h
  · exact g l z
theorem od_name {w : Cn.T} (h : isName w = true) : Od 8 0 w := by
  have l := isName_len h
  unfold isName at h
  simp only [Bool.and_eq_true, decide_eq_true_eq, List.all_eq_true] at h
  refine ⟨fun c hc => by have := h.2.2 c hc; omega, l, ?_⟩
  rw [Nat.le_zero, List.count_eq_zero]
  intro z
  have := h.2.2 32 z
  omega
theorem okS_lt {l : Cn.T} (h : ∀ c ∈ l, c < 128) : okS l := by
  unfold okS PyData.strOk S
  simp only [List.all_toArray, List.all_eq_true, decide_eq_true_eq]
  intro c hc
  have := h c hc
  omega
/-- a text with its bounds -/
structure Tn (n k : Nat) (t : Cn.T) : Prop where
  ok : ∀ c ∈ t, c < 128
  len : t.length ≤ n
  cnt : t.count 32 ≤ k
theorem Tn.txt {n k : Nat} {t : Cn.T} (h : Tn n k t) (h1 : n ≤ 900000) (h2 : k ≤ 3990) : Txt4 t := ⟨okS_lt h.ok, by have := h.len; omega, by have := h.cnt; omega⟩
theorem Tn.le {n k n' k' : Nat} {l : Cn.T} (h : Tn n k l) (h1 : n ≤ n') (h2 : k ≤ k') : Tn n' k' l := ⟨h.ok, by have := h.len; omega, by have := h.cnt; omega⟩
theorem tn_app {n k n' k' : Nat} {l m : Cn.T} (h : Tn n k l) (g : Tn n' k' m) : Tn (n + n') (k + k') (l ++ m) := by
  refine ⟨fun c hc => ?_, ?_, ?_⟩
  · rcases List.mem_append.mp hc with z | z
    · exact h.ok c z
    · exact g.ok c z
  · rw [List.length_append]; have := h.len; have := g.len; omega
  · rw [List.count_append]; have := h.cnt; have := g.cnt; omega
theorem tn_cut {n k : Nat} {t : Cn.T} (h : Tn n k t) (i j : Nat) (hij : i ≤ j) (s : Cn.T) (hs : Tn 1 1 s) : Tn (n + 1) (k + 1) (t.take i ++ s ++ t.drop j) := by
  have e : t.take i ++ t.drop i = t := List.take_append_drop i t
  have e2 : (t.drop i).take (j - i) ++ (t.drop i).drop (j - i) = t.drop i := List.take_append_drop _ _
  rw [List.drop_drop, show i + (j - i) = j by omega] at e2
  refine ⟨fun c hc => ?_, ?_, ?_⟩
  · rcases List.mem_append.mp hc with z | z
    · rcases List.mem_append.mp z with z | z
      · exact h.ok c (List.mem_of_mem_take z)
      · exact hs.ok c z
    · exact h.ok c (List.mem_of_mem_drop z)
  · have l1 := congrArg List.length e
    have l2 := congrArg List.length e2
    rw [List.length_append] at l1 l2
    rw [List.length_append, List.length_append]
    have := h.len; have := hs.len; omega
  · have l1 := congrArg (List.count 32) e
    have l2 := congrArg (List.count 32) e2
    rw [List.count_append] at l1 l2
    rw [List.count_append, List.count_append]
    have := h.cnt; have := hs.cnt; omega
section
variable {P : Program} {w : World} {K : PySem.W.Frag} {mg : Str → Option Value} {base : Heap} {CR CT CS CI : Addr} {f : Addr} {fd : FuncData}
theorem sc__law_signs : FnScope ["feed", "text", "at", "sign", "left", "right", "some"] ["feed", "text"] (defScope s__law_signs) := ⟨rfl, rfl, rfl, by decide +kernel, rfl, by decide +kernel, by decide +kernel⟩
def sp_signs4 : Sp := fun vs H Q _ => ∃ (a : Addr) (t : Cn.T) (n k : Nat), vs = [.ref a, sv t] ∧ FeedR H a ∧ Tn n k t ∧ n ≤ 90000 ∧ ∀ H' u, But [a] H H' → FeedR H' a → Tn (n + 1) (k + 1) u → Q (sv u) H'
theorem cutS_nat (l : Cn.T) (i : Nat) : cutS (S l) none (some ((i : Nat) : Int)) = S (l.take i) := cutS_take4 l i
theorem ok_signs4 (F : Fun K "_law_signs" "_law_signs" s__law_signs f fd) (T : LTx K mg CR CT CS CI) (c__law_take : Cal P w K mg base 1 "_law_take" sp_take) (c__law_pick_t : Cal P w K mg base 2 "_law_pick" sp_pick) (c__law_pick : Cal P w K mg base 2 "_law_pick" sp_pickL) : FnOk P w K mg base (L2.CX P w) 3 f fd ["feed", "text"] sp_signs4 := by
  refine F.okX sc__law_signs (fun vs H Q E h => ?_) (fun cdv A outer s H vs Q E hr h => ?_)
  · obtain ⟨a, t, n, k, rfl, _⟩ := h
    rfl
  · obtain ⟨a, t, n, k0, rfl, hf, ht, hn, k⟩ := h
    have tl := ht.len
    have sz : ∀ {m : Nat}, m ≤ 900000 → m ≤ sizeLine := fun h => szl (by omega)
    refine ⟨_, (pss_cons (ps_set (i := 2) sc__law_signs.nd rfl (Or.inl rfl) (p_call E c__law_take hr (by decide) (by rfl) (passX rfl rfl rfl (takes_of rfl rfl rfl rfl)) (pa_cons (pv 0) (pa_cons (pe_op op_add (pe_callB call_len_str (by rfl) T.b_len (by decide +kernel) (pa_cons (pv 1) pa_nil)) pe_int) pa_nil))))
  (pss_cons (ps_set (i := 3) sc__law_signs.nd rfl (Or.inl rfl) (p_call E c__law_pick_t hr (by decide) (by rfl) (passX rfl rfl rfl (takes_of rfl rfl rfl rfl)) (pa_cons (pv 0) (pa_cons pe_str pa_nil))))
  (pss_cons (ps_par (i := 4) (j := 5) (by rfl) sc__law_signs.nd rfl rfl (by decide) rfl rfl (pa_cons (pe_slice sl_str (pv 1) po_none (po_some (pv 2))) (pa_cons (pe_slice sl_str (pv 1) (po_some (pe_op op_add (pv 2) pe_int)) po_none) pa_nil)) (by rfl))
  (pss_cons (ps_set (i := 6) sc__law_signs.nd rfl (Or.inl rfl) (pe_lst (pa_cons (pe_op op_add_str (pe_op op_add_str (pv 4) (pv 3)) (pe_slice sl_str (pv 1) (po_some (pv 2)) po_none)) (pa_cons (pe_op op_add_str (pv 4) (pv 5)) pa_nil))))
  (pss_one (ps_ret (p_call E c__law_pick hr (by decide) (by rfl) (passX rfl rfl rfl (takes_of rfl rfl rfl rfl)) (pa_cons (pv 0) (pa_cons (pe_op op_cat (pv 6) (pe_lst (pa_cons (pe_op op_add_str (pe_op op_add_str (pv 4) (pv 3)) (pv 5)) pa_nil))) pa_nil))))))))), ?_⟩
    refine ⟨_, rfl, _, rfl, S t, rfl, sz (by rw [S_len]; omega), _, 1, rfl, rfl, ?_⟩
    refine ⟨a, t.length + 1, by rw [S_len]; rfl, by omega, by omega, hf, fun H1 i b1 f1 hi => ?_⟩
    refine ⟨_, rfl, a, [32, 10, 45, 62, 97, 98, 101, 107, 116, 122, 48, 49, 57, 65, 95, 126], rfl, by decide, by decide, f1, fun H2 c b2 f2 hc => ?_⟩
    have hs : Tn 1 1 [c] := by
      have h1 : ∀ c ∈ ([32, 10, 45, 62, 97, 98, 101, 107, 116, 122, 48, 49, 57, 65, 95, 126] : List Nat), c < 128 := by decide
      refine ⟨fun x hx => by rw [List.mem_singleton.mp hx]; exact h1 c hc, by simp, ?_⟩
      exact Nat.le_trans List.count_le_length (by simp)
    -- left, right
    refine ⟨_, rfl, _, rfl, _, rfl, S t, rfl, sz (by rw [S_len]; omega), ?_⟩
    refine ⟨_, rfl, _, rfl, _, 1, rfl, rfl, _, rfl, ?_⟩
    dsimp only [tNoPart]
    refine ⟨S t, rfl, sz (by rw [S_len]; omega), ?_⟩
    have er : ((i : Nat) : Int) + 1 = ((i + 1 : Nat) : Int) := rfl
    rw [cutS_nat, er, cutS_drop]
    refine ⟨_, _, rfl, ?_⟩
    have l1 : (t.take i).length ≤ n := by rw [List.length_take]; omega
    have l2 : (t.drop i).length ≤ n := by rw [List.length_drop]; omega
    have l3 : (t.drop (i + 1)).length ≤ n := by rw [List.length_drop]; omega
    refine ⟨_, rfl, _, rfl, S (t.take i), S [c], rfl, rfl, sz (by rw [S_len, S_len]; simp; omega), ?_⟩
    rw [S_app]
    refine ⟨_, rfl, _, rfl, _, rfl, ?_⟩
    dsimp only [tNoPart]
    refine ⟨S t, rfl, sz (by rw [S_len]; omega), ?_⟩
    rw [cutS_drop]
    refine ⟨_, _, rfl, rfl, sz (by rw [S_len, S_len, List.length_append]; simp; omega), ?_⟩
    rw [S_app]
    refine ⟨_, rfl, _, rfl, _, _, rfl, rfl, sz (by rw [S_len, S_len]; omega), ?_⟩
    rw [S_app]
    refine ⟨szl (by simp), fun p hp => ?_⟩
    have b3 : But [] H2 (upd H2 p (.lst (svs [t.take i ++ [c] ++ t.drop i, t.take i ++ t.drop (i + 1)]))) := newB hp
    have e3 : (upd H2 p (.lst (svs [t.take i ++ [c] ++ t.drop i, t.take i ++ t.drop (i + 1)]))) p = some (.lst (svs [t.take i ++ [c] ++ t.drop i, t.take i ++ t.drop (i + 1)])) := upd_same
    refine ⟨_, rfl, _, rfl, ?_⟩
    refine ⟨_, rfl, _, rfl, S (t.take i), S [c], rfl, rfl, sz (by rw [S_len, S_len]; simp; omega), ?_⟩
    rw [S_app]
    refine ⟨_, rfl, _, _, rfl, rfl, sz (by rw [S_len, S_len, List.length_append]; simp; omega), ?_⟩
    rw [S_app]
    refine ⟨szl (by simp), fun q hq => ?_⟩
    have b4 : But [] (upd H2 p (.lst (svs [t.take i ++ [c] ++ t.drop i, t.take i ++ t.drop (i + 1)]))) (upd (upd H2 p (.lst (svs [t.take i ++ [c] ++ t.drop i, t.take i ++ t.drop (i + 1)]))) q (.lst (svs [t.take i ++ [c] ++ t.drop (i + 1)]))) := newB hq
    have e4 : (upd (upd H2 p (.lst (svs [t.take i ++ [c] ++ t.drop i, t.take i ++ t.drop (i + 1)]))) q (.lst (svs [t.take i ++ [c] ++ t.drop (i + 1)]))) q = some (.lst (svs [t.take i ++ [c] ++ t.drop (i + 1)])) := upd_same
    refine ⟨p, q, _, _, rfl, rfl, b4.at e3, e4, szl (by simp [svs]), fun r hr => ?_⟩
    have b5 := newB (o := .lst (svs [t.take i ++ [c] ++ t.drop i, t.take i ++ t.drop (i + 1)] ++ svs [t.take i ++ [c] ++ t.drop (i + 1)])) hr
    have b25 := (b3.trans b4).trans b5
    have f5 : FeedR (upd (upd (upd H2 p (.lst (svs [t.take i ++ [c] ++ t.drop i, t.take i ++ t.drop (i + 1)]))) q (.lst (svs [t.take i ++ [c] ++ t.drop (i + 1)]))) r (.lst (svs [t.take i ++ [c] ++ t.drop i, t.take i ++ t.drop (i + 1)] ++ svs [t.take i ++ [c] ++ t.drop (i + 1)]))) a := by
      obtain ⟨d1, s1, e⟩ := f2; exact ⟨d1, s1, b25.at e⟩
    have nra : r ≠ a := fun z => by
      obtain ⟨d1, s1, e⟩ := f2
      rw [z] at hr
      have q0 := (b3.trans b4).at e
      exact absurd (Eq.trans (Eq.symm hr) q0) (by simp)
    refine ⟨a, r, _, rfl, by simp [svs], by simp [svs], f5, nra, upd_same, fun H6 x b6 f6 hx => ?_⟩
    have bb : But [a] H H6 := ((b1.trans b2).trans (But.of b25)).trans b6
    have hc2 := tn_cut ht i i (Nat.le_refl _) [c] hs
    have hc3 := tn_cut ht i (i + 1) (by omega) [c] hs
    have hc4 : Tn (n + 1) (k0 + 1) (t.take i ++ t.drop (i + 1)) := by
      have := tn_cut ht i (i + 1) (by omega) [] ⟨by simp, by simp, by simp⟩
      simpa using this
    rw [← svs_app] at hx
    obtain ⟨u, hu, rfl⟩ := List.mem_map.mp hx
    simp only [List.cons_append, List.nil_append, List.mem_cons, List.not_mem_nil, or_false] at hu
    rcases hu with z | z | z
    · rw [z]; exact k _ _ bb f6 hc2
    · rw [z]; exact k _ _ bb f6 hc4
    · rw [z]; exact k _ _ bb f6 hc3
end
end Cn
set_option Elab.async false
set_option linter.all false
set_option maxRecDepth 100000
set_option maxHeartbeats 4000000
/-! pieces changed -/
namespace Cn
open PySem L2
def odd1 (a b : Cn.T) : List Cn.T := [([101, 110, 100] : Cn.T), (([116, 97, 98, 108, 101, 32] : Cn.T) ++ a), (([32, 32, 99, 111, 108, 117, 109, 110, 32] : Cn.T) ++ a), (([32, 32, 107, 101, 121, 32] : Cn.T) ++ a), (((([32, 32, 107, 101, 121, 32] : Cn.T) ++ a) ++ ([32] : Cn.T)) ++ b), (([32, 32, 114, 101, 102, 32, 45, 62, 32] : Cn.T) ++ b)]
def odd2 (a b : Cn.T) : List Cn.T := [(((([32, 32, 114, 101, 102, 32] : Cn.T) ++ a) ++ ([32, 45, 62, 32] : Cn.T)) ++ b), (((([32, 32, 111, 112, 116, 105, 111, 110, 97, 108, 32] : Cn.T) ++ a) ++ ([32, 45, 62, 32] : Cn.T)) ++ b), ([] : Cn.T), ([32] : Cn.T), ([32, 32, 107, 101, 121] : Cn.T), ([99, 111, 108, 117, 109, 110, 32, 120] : Cn.T)]
def odd3 (a b : Cn.T) : List Cn.T := [([32, 32, 101, 110, 100] : Cn.T), a, b, ([45, 62] : Cn.T), ([114, 101, 102] : Cn.T), ([111, 112, 116, 105, 111, 110, 97, 108] : Cn.T), ([107, 101, 121] : Cn.T), ([99, 111, 108, 117, 109, 110] : Cn.T), ([97, 98, 99, 100, 101, 102, 103, 104, 105] : Cn.T)]
def odd4 (a b : Cn.T) : Cn.T := (((((([32, 32, 111, 112, 116, 105, 111, 110, 97, 108, 32] : Cn.T) ++ a) ++ ([32] : Cn.T)) ++ b) ++ ([32, 45, 62, 32] : Cn.T)) ++ a)
theorem odds_ok (a b : Cn.T) (oa : Od 8 0 a) (ob : Od 8 0 b) : ∀ l ∈ ((odd1 a b ++ odd2 a b) ++ odd3 a b) ++ [odd4 a b], Od 80 20 l := by
  have h1 : ∀ l ∈ odd1 a b, Od 80 20 l := od_cons (Od.le (od_lit [101, 110, 100]) (by decide) (by decide)) (od_cons (Od.le ((od_lit [116, 97, 98, 108, 101, 32]).add oa) (by decide) (by decide)) (od_cons (Od.le ((od_lit [32, 32, 99, 111, 108, 117, 109, 110, 32]).add oa) (by decide) (by decide)) (od_cons (Od.le ((od_lit [32, 32, 107, 101, 121, 32]).add oa) (by decide) (by decide)) (od_cons (Od.le ((((od_lit [32, 32, 107, 101, 121, 32]).add oa).add (od_lit [32])).add ob) (by decide) (by decide)) (od_cons (Od.le ((od_lit [32, 32, 114, 101, 102, 32, 45, 62, 32]).add ob) (by decide) (by decide)) od_nil)))))
  have h2 : ∀ l ∈ odd2 a b, Od 80 20 l := od_cons (Od.le ((((od_lit [32, 32, 114, 101, 102, 32]).add oa).add (od_lit [32, 45, 62, 32])).add ob) (by decide) (by decide)) (od_cons (Od.le ((((od_lit [32, 32, 111, 112, 116, 105, 111, 110, 97, 108, 32]).add oa).add (od_lit [32, 45, 62, 32])).add ob) (by decide) (by decide)) (od_cons (Od.le (od_lit []) (by decide) (by decide)) (od_cons (Od.le (od_lit [32]) (by decide) (by decide)) (od_cons (Od.le (od_lit [32, 32, 107, 101, 121]) (by decide) (by decide)) (od_cons (Od.le (od_lit [99, 111, 108, 117, 109, 110, 32, 120]) (by decide) (by decide)) od_nil)))))
  have h3 : ∀ l ∈ odd3 a b, Od 80 20 l := od_cons (Od.le (od_lit [32, 32, 101, 110, 100]) (by decide) (by decide)) (od_cons (Od.le oa (by decide) (by decide)) (od_cons (Od.le ob (by decide) (by decide)) (od_cons (Od.le (od_lit [45, 62]) (by decide) (by decide)) (od_cons (Od.le (od_lit [114, 101, 102]) (by decide) (by decide)) (od_cons (Od.le (od_lit [111, 112, 116, 105, 111, 110, 97, 108]) (by decide) (by decide)) (od_cons (Od.le (od_lit [107, 101, 121]) (by decide) (by decide)) (od_cons (Od.le (od_lit [99, 111, 108, 117, 109, 110]) (by decide) (by decide)) (od_cons (Od.le (od_lit [97, 98, 99, 100, 101, 102, 103, 104, 105]) (by decide) (by decide)) od_nil))))))))
  have h4 : Od 80 20 (odd4 a b) := Od.le ((((((od_lit [32, 32, 111, 112, 116, 105, 111, 110, 97, 108, 32]).add oa).add (od_lit [32])).add ob).add (od_lit [32, 45, 62, 32])).add oa) (by decide) (by decide)
  intro l hl
  rcases List.mem_append.mp hl with hl | hl
  · rcases List.mem_append.mp hl with hl | hl
    · rcases List.mem_append.mp hl with hl | hl
      · exact h1 l hl
      · exact h2 l hl
    · exact h3 l hl
  · rw [List.mem_singleton.mp hl]; exact h4
/-- pieces that are joined again -/
theorem tn_join {n k c : Nat} {t : Cn.T} {ps : List Cn.T} (ht : Tn n k t) (hc : c < 128) (h : ∀ p ∈ ps, ∀ x ∈ p, x ∈ t ∨ x < 128) {n' k' : Nat} (hl : wl ps ≤ n') (hk : wx c 32 ps ≤ k') : Tn n' k' (joinT [c] ps) := by
  refine ⟨fun x hx => ?_, Nat.le_trans (join_wl c ps) hl, Nat.le_trans (join_wx c 32 ps) hk⟩
  rcases join_mem hx with z | ⟨p, hp, z⟩
  · rw [z]; exact hc
  · rcases h p hp x z with q | q
    · exact ht.ok x q
    · exact q
theorem ret_join {K : PySem.W.Frag} {σ : L2.St} {H : Hp} {D : Ends} {p : Addr} {c : Nat} {ps : List Cn.T} (h4 : σ[4]? = some (some (.ref p))) (h2 : σ[2]? = some (some (sv [c]))) (e : H p = some (.lst (svs ps))) (hz : wl ps ≤ 100000) (k : ∀ H', But [] H H' → D.rt (sv (joinT [c] ps)) H') :
    tRet (tM1 (joinR K) (tVar 2) (tVar 4)) D σ H :=
  (GvT.join (K := K) (c := c) (k := 1) (GvL.var h4 e) (Pt.var h2 (by simp)) (show (ps.map List.length).sum + ps.length ≤ 100000 from hz)) _ k
theorem svs_set (ps : List Cn.T) (i : Nat) (p : Cn.T) : (svs ps).set i (sv p) = svs (ps.set i p) := by unfold svs; rw [List.map_set]
theorem svs_drop (ls : List Cn.T) (k : Nat) : (svs ls).drop k = svs (ls.drop k) := by simp [svs, List.map_drop]
section
variable {P : Program} {w : World} {K : PySem.W.Frag} {mg : Str → Option Value} {base : Heap} {CR CT CS CI : Addr} {f : Addr} {fd : FuncData}
theorem sc__law_pieces : FnScope ["feed", "text", "sep", "names", "some", "at", "other", "way", "a", "b", "odd"] ["feed", "text", "sep", "names"] (defScope s__law_pieces) := ⟨rfl, rfl, rfl, by decide +kernel, rfl, by decide +kernel, by decide +kernel⟩
def sp_pieces4 : Sp := fun vs H Q _ => ∃ (a nl : Addr) (t : Cn.T) (c n k : Nat) (names : List Cn.T), vs = [.ref a, sv t, sv [c], .ref nl] ∧ (c = 10 ∨ c = 32) ∧ FeedR H a ∧ Tn n k t ∧ n ≤ 40000 ∧ nl ≠ a ∧ H nl = some (.lst (svs names)) ∧ names ≠ [] ∧ names.length ≤ 1000 ∧ (∀ w ∈ names, isName w = true) ∧
  ∀ H' u, But [a] H H' → FeedR H' a → Tn (2 * n + 200) (2 * k + 40) u → Q (sv u) H'
theorem ok_pieces4 (F : Fun K "_law_pieces" "_law_pieces" s__law_pieces f fd) (T : LTx K mg CR CT CS CI) (c__law_take : Cal P w K mg base 1 "_law_take" sp_take) (c__law_pick : Cal P w K mg base 2 "_law_pick" sp_pickL) : FnOk P w K mg base (L2.CX P w) 3 f fd ["feed", "text", "sep", "names"] sp_pieces4 := by
  refine F.okX sc__law_pieces (fun vs H Q E h => ?_) (fun cdv A outer s H vs Q E hr h => ?_)
  · obtain ⟨_, _, _, _, _, _, _, rfl, _⟩ := h
    rfl
  · obtain ⟨a, nl, t, c, n, k0, names, rfl, hc, hf, ht, hn, nla, hnl, n0, n1000, nms, k⟩ := h
    have tl := ht.len
    have c128 : c < 128 := by rcases hc with z | z <;> omega
    have sz : ∀ {m : Nat}, m ≤ 900000 → m ≤ sizeLine := fun h => szl (by omega)
    refine ⟨_, (pss_cons (ps_set (i := 4) sc__law_pieces.nd rfl (Or.inl rfl) (pe_split (pv 1) (pv 2)))
  (pss_cons (ps_par (i := 5) (j := 6) (by rfl) sc__law_pieces.nd rfl rfl (by decide) rfl rfl (pa_cons (p_call E c__law_take hr (by decide) (by rfl) (passX rfl rfl rfl (takes_of rfl rfl rfl rfl)) (pa_cons (pv 0) (pa_cons (pe_callB (call_len_seqK K rfl) (by rfl) T.b_len (by decide +kernel) (pa_cons (pv 4) pa_nil)) pa_nil))) (pa_cons (p_call E c__law_take hr (by decide) (by rfl) (passX rfl rfl rfl (takes_of rfl rfl rfl rfl)) (pa_cons (pv 0) (pa_cons (pe_callB (call_len_seqK K rfl) (by rfl) T.b_len (by decide +kernel) (pa_cons (pv 4) pa_nil)) pa_nil))) pa_nil)) (by rfl))
  (pss_cons (ps_set (i := 7) sc__law_pieces.nd rfl (Or.inl rfl) (p_call E c__law_take hr (by decide) (by rfl) (passX rfl rfl rfl (takes_of rfl rfl rfl rfl)) (pa_cons (pv 0) (pa_cons pe_int pa_nil))))
  (pss_cons (ps_par (i := 8) (j := 9) (by rfl) sc__law_pieces.nd rfl rfl (by decide) rfl rfl (pa_cons (p_call E c__law_pick hr (by decide) (by rfl) (passX rfl rfl rfl (takes_of rfl rfl rfl rfl)) (pa_cons (pv 0) (pa_cons (pv 3) pa_nil))) (pa_cons (p_call E c__law_pick hr (by decide) (by rfl) (passX rfl rfl rfl (takes_of rfl rfl rfl rfl)) (pa_cons (pv 0) (pa_cons (pv 3) pa_nil))) pa_nil)) (by rfl))
  (pss_cons (ps_set (i := 10) sc__law_pieces.nd rfl (Or.inl rfl) (pe_lst (pa_cons pe_str (pa_cons (pe_op op_add_str pe_str (pv 8)) (pa_cons (pe_op op_add_str pe_str (pv 8)) (pa_cons (pe_op op_add_str pe_str (pv 8)) (pa_cons (pe_op op_add_str (pe_op op_add_str (pe_op op_add_str pe_str (pv 8)) pe_str) (pv 9)) (pa_cons (pe_op op_add_str pe_str (pv 9)) pa_nil))))))))
  (pss_cons (ps_set (i := 10) sc__law_pieces.nd rfl (Or.inl rfl) (pe_op op_cat (pv 10) (pe_lst (pa_cons (pe_op op_add_str (pe_op op_add_str (pe_op op_add_str pe_str (pv 8)) pe_str) (pv 9)) (pa_cons (pe_op op_add_str (pe_op op_add_str (pe_op op_add_str pe_str (pv 8)) pe_str) (pv 9)) (pa_cons pe_str (pa_cons pe_str (pa_cons pe_str (pa_cons pe_str pa_nil)))))))))
  (pss_cons (ps_set (i := 10) sc__law_pieces.nd rfl (Or.inl rfl) (pe_op op_cat (pv 10) (pe_lst (pa_cons pe_str (pa_cons (pv 8) (pa_cons (pv 9) (pa_cons pe_str (pa_cons pe_str (pa_cons pe_str (pa_cons pe_str (pa_cons pe_str (pa_cons pe_str pa_nil))))))))))))
  (pss_cons (ps_expr (pe_bm PySem.F.plainAttrs_list PySem.F.slot_list_append PySem.F.type_list_append mt_append (pv 10) (pa_cons (pe_op op_add_str (pe_op op_add_str (pe_op op_add_str (pe_op op_add_str (pe_op op_add_str pe_str (pv 8)) pe_str) (pv 9)) pe_str) (pv 8)) pa_nil)))
  (pss_cons (ps_if (pt_cmpR op_eq (pv 7) pe_int (nomark _))
  (pss_one (ps_expr (pe_bm PySem.F.plainAttrs_list PySem.F.slot_list_pop PySem.F.type_list_pop mt_popAt (pv 4) (pa_cons (pv 5) pa_nil))))
  (pss_one (ps_if (pt_cmpR op_eq (pv 7) pe_int (nomark _))
  (pss_one (ps_expr (pe_bm PySem.F.plainAttrs_list PySem.F.slot_list_insert PySem.F.type_list_insert mt_insert (pv 4) (pa_cons (pv 6) (pa_cons (pe_ix (ix_listK K rfl) (pv 4) (pv 5) (fun _ _ => rfl)) pa_nil)))))
  (pss_one (ps_if (pt_cmpR op_eq (pv 7) pe_int (nomark _))
  (pss_one (ps_asg (pe_tup (pa_cons (pe_ix (ix_listK K rfl) (pv 4) (pv 6) (fun _ _ => rfl)) (pa_cons (pe_ix (ix_listK K rfl) (pv 4) (pv 5) (fun _ _ => rfl)) pa_nil))) (pg_tup (by rfl) (pgs_cons (pg_sub (pv 4) (pv 5) set_list) (pgs_cons (pg_sub (pv 4) (pv 6) set_list) pgs_nil)))))
  (pss_one (ps_if (pt_cmpR op_eq (pv 7) pe_int (nomark _))
  (pss_one (ps_asg (p_call E c__law_pick hr (by decide) (by rfl) (passX rfl rfl rfl (takes_of rfl rfl rfl rfl)) (pa_cons (pv 0) (pa_cons (pv 10) pa_nil))) (pg_sub (pv 4) (pv 5) set_list)))
  (pss_one (ps_if (pt_cmpR op_eq (pv 7) pe_int (nomark _))
  (pss_one (ps_expr (pe_bm PySem.F.plainAttrs_list PySem.F.slot_list_insert PySem.F.type_list_insert mt_insert (pv 4) (pa_cons (pv 5) (pa_cons (p_call E c__law_pick hr (by decide) (by rfl) (passX rfl rfl rfl (takes_of rfl rfl rfl rfl)) (pa_cons (pv 0) (pa_cons (pv 10) pa_nil))) pa_nil)))))
  (pss_one (ps_set (i := 4) sc__law_pieces.nd rfl (Or.inl rfl) (pe_slice (sl_listK K rfl) (pv 4) po_none (po_some (pe_op op_add (pv 5) pe_int))))))))))))))
  (pss_one (ps_ret (pe_joinK K rfl (pv 2) (pv 4))))))))))))), ?_⟩
    refine ⟨_, rfl, ⟨_, rfl⟩, _, rfl, S t, S [c], rfl, rfl, rfl, szl (by rw [S_len]; omega), fun p hp => ?_⟩
    have eL : Txt.split (S t) (S [c]) = (splitC c t).map S := split_S c (by omega) t
    show gName 4 _ _ (upd H p (.lst ((Txt.split (S t) (S [c])).map V.str))) _
    rw [eL, ← svs_str]
    have b1 : But [] H (upd H p (.lst (svs (splitC c t)))) := newB hp
    have e1 : (upd H p (.lst (svs (splitC c t)))) p = some (.lst (svs (splitC c t))) := upd_same
    have npa : p ≠ a := fun z => by obtain ⟨d1, s1, e⟩ := hf; rw [z, e] at hp; cases hp
    have npn : p ≠ nl := fun z => by rw [z, hnl] at hp; cases hp
    have w1 : wl (splitC c t) ≤ n + 1 := by rw [wl_split]; omega
    have w2 : wx c 32 (splitC c t) ≤ k0 + 1 := by rw [wx_split]; have := ht.cnt; split <;> omega
    have w3 : ∀ q ∈ splitC c t, ∀ x ∈ q, x ∈ t := fun q hq x hx => split_mem hq hx
    have w0 : 1 ≤ (splitC c t).length := List.length_pos_iff.mpr (splitC_ne c t)
    have w4 : (splitC c t).length ≤ n + 1 := by
      have : (splitC c t).length ≤ wl (splitC c t) := by unfold wl; omega
      omega
    have f1 : FeedR (upd H p (.lst (svs (splitC c t)))) a := by obtain ⟨d1, s1, e⟩ := hf; exact ⟨d1, s1, b1.at e⟩
    generalize splitC c t = ps at b1 e1 w1 w2 w3 w0 w4 f1
    generalize upd H p (.lst (svs ps)) = H1 at b1 e1 f1
    -- at, other
    refine ⟨_, rfl, _, rfl, p, _, rfl, .inl (SqL.of e1), a, ps.length, by rw [svs_len]; rfl, by omega, by omega, f1, fun H2 i b2 f2 hi => ?_⟩
    have e2 := b2.at1 e1 npa
    refine ⟨_, rfl, _, rfl, p, _, rfl, .inl (SqL.of e2), a, ps.length, by rw [svs_len]; rfl, by omega, by omega, f2, fun H3 j b3 f3 hj => ⟨_, _, rfl, ?_⟩⟩
    have e3 := b3.at1 e2 npa
    -- way
    refine ⟨_, rfl, a, 6, rfl, by decide, by decide, f3, fun H4 way b4 f4 hway => ?_⟩
    have e4 := b4.at1 e3 npa
    have b04 : But [a] H H4 := (((But.of b1).trans b2).trans b3).trans b4
    have hn4 := b04.at1 hnl nla
    -- a, b
    refine ⟨_, rfl, _, rfl, a, nl, svs names, rfl, by rw [svs_len]; exact List.length_pos_iff.mpr n0, by rw [svs_len]; omega, f4, nla, hn4, fun H5 xa b5 f5 hxa => ?_⟩
    have hn5 := b5.at1 hn4 nla
    refine ⟨_, rfl, _, rfl, a, nl, svs names, rfl, by rw [svs_len]; exact List.length_pos_iff.mpr n0, by rw [svs_len]; omega, f5, nla, hn5, fun H6 xb b6 f6 hxb => ⟨_, _, rfl, ?_⟩⟩
    obtain ⟨la, hla, rfl⟩ := List.mem_map.mp hxa
    obtain ⟨lb, hlb, rfl⟩ := List.mem_map.mp hxb
    have na8 := isName_len (nms la hla)
    have nb8 := isName_len (nms lb hlb)
    have odk := odds_ok la lb (od_name (nms la hla)) (od_name (nms lb hlb))
    have b06 : But [a] H H6 := (b04.trans b5).trans b6
    have e6 : H6 p = some (.lst (svs ps)) := b6.at1 (b5.at1 e4 npa) npa
    have pa : ∀ {σ : L2.St}, σ[8]? = some (some (sv la)) → Pt (tVar 8) σ la 8 := fun h => Pt.var h na8
    have pb : ∀ {σ : L2.St}, σ[9]? = some (some (sv lb)) → Pt (tVar 9) σ lb 8 := fun h => Pt.var h nb8
    clear b2 b3 b4 b5 b6 e1 e2 e3 e4 hn4 hn5 f1 f2 f3 f4 f5 hxa hxb
    have hp0 : H p = none := hp
    -- odd
    refine sq_mk (ls := odd1 la lb) (MkL.dsp (hz := by simp [odd1, odd2, odd3]) (PtL.cons (Pt.lit (n := 3)) (PtL.cons (Pt.add (Pt.lit (n := 6)) (pa (by rfl))) (PtL.cons (Pt.add (Pt.lit (n := 9)) (pa (by rfl))) (PtL.cons (Pt.add (Pt.lit (n := 6)) (pa (by rfl))) (PtL.cons (Pt.add (Pt.add (Pt.add (Pt.lit (n := 6)) (pa (by rfl))) (Pt.lit (n := 1))) (pb (by rfl))) (PtL.cons (Pt.add (Pt.lit (n := 9)) (pb (by rfl))) PtL.nil))))))) fun H7 o1 b7 no1 eo1 => ?_
    refine sq_mk (ls := odd1 la lb ++ odd2 la lb) (MkL.cat (hz := by simp [odd1, odd2, odd3]) (GvL.var (by rfl) eo1) fun H' b => (MkL.dsp (hz := by simp [odd1, odd2, odd3]) (PtL.cons (Pt.add (Pt.add (Pt.add (Pt.lit (n := 6)) (pa (by rfl))) (Pt.lit (n := 4))) (pb (by rfl))) (PtL.cons (Pt.add (Pt.add (Pt.add (Pt.lit (n := 11)) (pa (by rfl))) (Pt.lit (n := 4))) (pb (by rfl))) (PtL.cons (Pt.lit (n := 0)) (PtL.cons (Pt.lit (n := 1)) (PtL.cons (Pt.lit (n := 5)) (PtL.cons (Pt.lit (n := 8)) PtL.nil))))))).gv) fun H8 o2 b8 no2 eo2 => ?_
    refine sq_mk (ls := (odd1 la lb ++ odd2 la lb) ++ odd3 la lb) (MkL.cat (hz := by simp [odd1, odd2, odd3]) (GvL.var (by rfl) eo2) fun H' b => (MkL.dsp (hz := by simp [odd1, odd2, odd3]) (PtL.cons (Pt.lit (n := 5)) (PtL.cons (pa (by rfl)) (PtL.cons (pb (by rfl)) (PtL.cons (Pt.lit (n := 2)) (PtL.cons (Pt.lit (n := 3)) (PtL.cons (Pt.lit (n := 8)) (PtL.cons (Pt.lit (n := 3)) (PtL.cons (Pt.lit (n := 6)) (PtL.cons (Pt.lit (n := 9)) PtL.nil)))))))))).gv) fun H9 o b9 no3 eo3 => ?_
    refine sq_app (F := o) (l := odd4 la lb) rfl eo3 (Pt.gv (Pt.add (Pt.add (Pt.add (Pt.add (Pt.add (Pt.lit (n := 11)) (pa (by rfl))) (Pt.lit (n := 1))) (pb (by rfl))) (Pt.lit (n := 4))) (pa (by rfl)))) (by simp [odd1, odd2, odd3]) fun Ha ba eo => ?_
    have odl : (((odd1 la lb ++ odd2 la lb) ++ odd3 la lb) ++ [odd4 la lb]).length = 22 := by simp [odd1, odd2, odd3]
    generalize ((odd1 la lb ++ odd2 la lb) ++ odd3 la lb) ++ [odd4 la lb] = od at odk eo odl
    have bA : But [] H6 Ha := ((But.of ((b7.trans b8).trans b9)).trans ba).drop ((b7.trans b8).free no3 (by simp))
    have eA : Ha p = some (.lst (svs ps)) := bA.at e6
    have fA : FeedR Ha a := by obtain ⟨d1, s1, e⟩ := f6; exact ⟨d1, s1, bA.at e⟩
    have bHA : But [a] H Ha := b06.trans (But.of bA)
    have noa : o ≠ a := fun z => by
      obtain ⟨d1, s1, e⟩ := fA
      rw [z, e] at eo
      injection eo with eo
      injection eo with eo
      cases od with
      | nil => cases eo
      | cons x r => cases eo
    have od1 : 1 ≤ od.length ∧ od.length ≤ 1000 := by
      refine ⟨?_, ?_⟩
      · rw [odl]; decide
      · rw [odl]; decide
    clear b7 b8 b9 ba no1 no2 no3 eo1 eo2 eo3
    have hi' : ps[i]? = some (ps[i]'hi) := List.getElem?_eq_getElem hi
    have hj' : ps[j]? = some (ps[j]'hj) := List.getElem?_eq_getElem hj
    have ixi : ixN (svs ps).length (i : Int) = some i := by
      unfold ixN
      rw [svs_len, if_pos (by omega), if_pos (by omega)]; rfl
    have ixj : ixN (svs ps).length (j : Int) = some j := by
      unfold ixN
      rw [svs_len, if_pos (by omega), if_pos (by omega)]; rfl
    have wi1 : wl [ps[i]'hi] ≤ wl ps := by rw [wl_one]; exact wl_mem (List.getElem_mem hi)
    have wi2 : (ps[i]'hi).count 32 + 1 ≤ wx c 32 ps + 1 := by have := wx_mem (c := c) (x := 32) (List.getElem_mem hi); omega
    rw [wl_one] at wi1
    have mem : ∀ {qs : List Cn.T}, (∀ q ∈ qs, q ∈ ps ∨ Od 80 20 q) → ∀ q ∈ qs, ∀ x ∈ q, x ∈ t ∨ x < 128 := fun h q hq x hx => by
      rcases h q hq with z | z
      · exact .inl (w3 q z x hx)
      · exact .inr (z.ok x hx)
    have fin : ∀ {qs : List Cn.T} {H' : Hp}, But [a] H H' → FeedR H' a → (∀ q ∈ qs, q ∈ ps ∨ Od 80 20 q) → wl qs ≤ 2 * n + 200 → wx c 32 qs ≤ 2 * k0 + 40 → ∀ H2, But [] H' H2 → Q (sv (joinT [c] qs)) H2 := fun {qs H'} b f h h1 h2 H2 b2 =>
      k H2 _ (b.trans (But.of b2)) (by obtain ⟨d1, s1, e⟩ := f; exact ⟨d1, s1, b2.at e⟩) (tn_join ht c128 (mem h) h1 h2)
    have put : ∀ {qs : List Cn.T}, But [a] H (upd Ha p (.lst (svs qs))) ∧ FeedR (upd Ha p (.lst (svs qs))) a := fun {qs} => ⟨bHA.put0 hp0, by obtain ⟨d1, s1, e⟩ := fA; exact ⟨d1, s1, by rw [upd_ne npa.symm]; exact e⟩⟩
    -- the ways
    show tSeq (tIfS _ _ _) _ _ _ _
    refine ⟨_, rfl, rfl, _, rfl, ?_⟩
    refine ite2 (fun hw => ?_) (fun hw => ?_)
    · refine ⟨_, rfl, tyList eA, _, rfl, p, svs ps, i, i, _, rfl, rfl, eA, by omega, by omega, (ixN_seq ixi).1, svs_at hi', ?_⟩
      rw [svs_erase]
      refine ret_join rfl rfl upd_same (by have := wl_erase ps i; omega) (fin put.1 put.2 (fun q hq => .inl (List.mem_of_mem_eraseIdx hq)) (by have := wl_erase ps i; omega) (by have := wx_erase c 32 ps i; omega))
    refine ⟨_, rfl, rfl, _, rfl, ?_⟩
    refine ite2 (fun hw => ?_) (fun hw => ?_)
    · refine ⟨_, rfl, tyList eA, _, rfl, _, rfl, _, rfl, p, svs ps, i, _, rfl, rfl, SqL.of eA, atI_nat (svs_at hi'), p, svs ps, j, _, rfl, rfl, eA, szt (by rw [svs_len]; omega), by omega, by omega, ?_⟩
      have e : (svs ps).take ((j : Int)).toNat ++ [sv (ps[i]'hi)] ++ (svs ps).drop ((j : Int)).toNat = svs (ps.take j ++ [ps[i]'hi] ++ ps.drop j) := by
        rw [Int.toNat_natCast, svs_take, svs_drop, svs_app, svs_app]; rfl
      rw [e]
      refine ret_join rfl rfl upd_same (by rw [wl_ins]; omega) (fin put.1 put.2 (fun q hq => ?_) (by rw [wl_ins]; omega) (by have := wx_ins c 32 ps j (ps[i]'hi); have := wx_mem (c := c) (x := 32) (List.getElem_mem hi); omega))
      rcases List.mem_append.mp hq with z | z
      · rcases List.mem_append.mp z with z | z
        · exact .inl (List.mem_of_mem_take z)
        · rw [List.mem_singleton.mp z]; exact .inl (List.getElem_mem hi)
      · exact .inl (List.mem_of_mem_drop z)
    refine ⟨_, rfl, rfl, _, rfl, ?_⟩
    refine ite2 (fun hw => ?_) (fun hw => ?_)
    · refine ⟨_, rfl, _, rfl, p, svs ps, j, _, rfl, rfl, SqL.of eA, atI_nat (svs_at hj'), _, rfl, _, rfl, p, svs ps, i, _, rfl, rfl, SqL.of eA, atI_nat (svs_at hi'), szl (by simp), fun z hz => ?_⟩
      have bz : But [] Ha (upd Ha z (.tup [sv (ps[j]'hj), sv (ps[i]'hi)])) := newB hz
      have ez := bz.at eA
      have npz : p ≠ z := ne_of_none eA hz
      refine ⟨z, _, rfl, SqT.of upd_same, rfl, _, _, rfl, _, rfl, _, rfl, p, svs ps, i, i, rfl, rfl, ez, ixi, _, _, rfl, _, rfl, _, rfl, p, _, j, j, rfl, rfl, upd_same, ?_, rfl, ?_⟩
      · rw [List.length_set]; exact ixj
      · rw [upd_upd, svs_set, svs_set]
        have pm := swap_perm hi' hj'
        have bp : But [a] H (upd (upd Ha z (.tup [sv (ps[j]'hj), sv (ps[i]'hi)])) p (.lst (svs ((ps.set i ps[j]).set j ps[i])))) := (bHA.trans (But.of bz)).put0 hp0
        have fp : FeedR (upd (upd Ha z (.tup [sv (ps[j]'hj), sv (ps[i]'hi)])) p (.lst (svs ((ps.set i ps[j]).set j ps[i])))) a := by obtain ⟨d1, s1, e⟩ := fA; exact ⟨d1, s1, by rw [upd_ne npa.symm]; exact bz.at e⟩
        refine ret_join rfl rfl upd_same (by rw [wl_perm pm]; omega) (fin bp fp (fun q hq => .inl (pm.mem_iff.mp hq)) (by rw [wl_perm pm]; omega) (by rw [wx_perm pm]; omega))
    refine ⟨_, rfl, rfl, _, rfl, ?_⟩
    refine ite2 (fun hw => ?_) (fun hw => ?_)
    · refine ⟨_, rfl, _, rfl, a, o, svs od, rfl, by rw [svs_len]; exact od1.1, by rw [svs_len]; exact od1.2, fA, noa, eo, fun Hb x bb fb hx => ?_⟩
      obtain ⟨lx, hlx, rfl⟩ := List.mem_map.mp hx
      have eb := bb.at1 eA npa
      have ox := odk lx hlx
      refine ⟨_, rfl, _, rfl, p, svs ps, i, i, rfl, rfl, eb, ixi, ?_⟩
      rw [svs_set]
      have bp : But [a] H (upd Hb p (.lst (svs (ps.set i lx)))) := (bHA.trans bb).put0 hp0
      have fp : FeedR (upd Hb p (.lst (svs (ps.set i lx)))) a := by obtain ⟨d1, s1, e⟩ := fb; exact ⟨d1, s1, by rw [upd_ne npa.symm]; exact e⟩
      have l1 := wl_set ps i lx
      have l2 := wx_set c 32 ps i lx
      have l3 := ox.len
      have l4 := ox.cnt
      refine ret_join rfl rfl upd_same (by omega) (fin bp fp (fun q hq => ?_) (by omega) (by omega))
      rcases List.mem_or_eq_of_mem_set hq with z | z
      · exact .inl z
      · rw [z]; exact .inr ox
    refine ⟨_, rfl, rfl, _, rfl, ?_⟩
    refine ite2 (fun hw => ?_) (fun hw => ?_)
    · refine ⟨_, rfl, tyList eA, _, rfl, _, rfl, _, rfl, a, o, svs od, rfl, by rw [svs_len]; exact od1.1, by rw [svs_len]; exact od1.2, fA, noa, eo, fun Hb x bb fb hx => ?_⟩
      obtain ⟨lx, hlx, rfl⟩ := List.mem_map.mp hx
      have eb := bb.at1 eA npa
      have ox := odk lx hlx
      refine ⟨p, svs ps, i, _, rfl, rfl, eb, szt (by rw [svs_len]; omega), by omega, by omega, ?_⟩
      have e : (svs ps).take ((i : Int)).toNat ++ [sv lx] ++ (svs ps).drop ((i : Int)).toNat = svs (ps.take i ++ [lx] ++ ps.drop i) := by
        rw [Int.toNat_natCast, svs_take, svs_drop, svs_app, svs_app]; rfl
      rw [e]
      have bp : But [a] H (upd Hb p (.lst (svs (ps.take i ++ [lx] ++ ps.drop i)))) := (bHA.trans bb).put0 hp0
      have fp : FeedR (upd Hb p (.lst (svs (ps.take i ++ [lx] ++ ps.drop i)))) a := by obtain ⟨d1, s1, e⟩ := fb; exact ⟨d1, s1, by rw [upd_ne npa.symm]; exact e⟩
      have l1 := wl_ins ps i lx
      have l2 := wx_ins c 32 ps i lx
      have l3 := ox.len
      have l4 := ox.cnt
      refine ret_join rfl rfl upd_same (by omega) (fin bp fp (fun q hq => ?_) (by omega) (by omega))
      rcases List.mem_append.mp hq with z | z
      · rcases List.mem_append.mp z with z | z
        · exact .inl (List.mem_of_mem_take z)
        · rw [List.mem_singleton.mp z]; exact .inr ox
      · exact .inl (List.mem_of_mem_drop z)
    · refine ⟨_, rfl, _, rfl, _, 1, rfl, rfl, _, rfl, p, _, rfl, SqL.of eA, fun z hz => ?_⟩
      have er : ((i : Nat) : Int) + 1 = ((i + 1 : Nat) : Int) := rfl
      have ec : cutV (svs ps) none (some (((i : Nat) : Int) + 1)) = svs (ps.take (i + 1)) := by rw [er, cutV_to, svs_take]
      show gName 4 _ _ (upd Ha z (.lst (cutV (svs ps) none (some (((i : Nat) : Int) + 1))))) _
      rw [ec]
      have bz : But [] Ha (upd Ha z (.lst (svs (ps.take (i + 1))))) := newB hz
      refine ret_join rfl rfl upd_same (by have := wl_take ps (i + 1); omega) (fin (bHA.trans (But.of bz)) (by obtain ⟨d1, s1, e⟩ := fA; exact ⟨d1, s1, bz.at e⟩) (fun q hq => .inl (List.mem_of_mem_take hq)) (by have := wl_take ps (i + 1); omega) (by have := wx_take c 32 ps (i + 1); omega))
end
end Cn
set_option Elab.async false
set_option linter.all false
set_option maxRecDepth 100000
set_option maxHeartbeats 4000000
/-! the law -/
namespace Cn
open PySem L2
/-- repr of a whole number or None -/
def rReprI : List V → Hp → VK → Prop := fun xs H Q => (∃ i, xs = [.int i] ∧ i.natAbs.log2 < 1920 ∧ Q (.str (toString i)) H) ∨ (xs = [.non] ∧ Q (.str "None") H)
theorem call_repr_in {X : Cx} : CallR X (.builtin "repr") rReprI := by
  intro pins s σ H xs us Q I r h
  rcases h with ⟨i, rfl, hz, q⟩ | ⟨rfl, q⟩
  · obtain ⟨u, rfl, t, rfl⟩ := vals1 r
    exact PySem.P.repr_of_int hz ⟨.str _, H, I.tok _, ⟨_, rfl⟩, q⟩
  · obtain ⟨u, rfl, ru⟩ := vals1 r
    cases (show u = Value.none from ru)
    exact PySem.P.repr_of_none ⟨.str _, H, I.tok _, ⟨_, rfl⟩, q⟩
theorem rd_err : ∀ {L : List Cn.T} {n e : Nat} {ab : List Tbl} {cur : Option Tbl}, rd L n ab cur = .error e → e ≤ n + L.length
  | [], n, e, ab, none, h => by cases h
  | [], n, e, ab, some _, h => by cases h; simp
  | r :: L, n, e, ab, cur, h => by
    unfold rd at h
    cases hs : step ab r cur with
    | none => rw [hs] at h; cases h; simp
    | some x =>
      obtain ⟨a, c⟩ := x
      rw [hs] at h
      have := rd_err (L := L) h
      rw [List.length_cons]
      omega
theorem err_le {t : Cn.T} {e : Nat} (h : parseRows (splitC 10 t) = .error e) : e ≤ t.length + 1 := by
  rw [parse_rd (splitC_ne 10 t)] at h
  have h1 := rd_err h
  have h2 := splitC_len 10 t
  omega
def reprV : V → Str
  | .int i => toString i
  | _ => "None"
theorem row_repr {t : Cn.T} {H : Hp} {Q : VK} (hz : t.length ≤ 900000) (q : Q (.str (reprV (rowV t))) H) : rReprI [rowV t] H Q := by
  unfold rReprI
  unfold rowV at q ⊢
  cases h : parseRows (splitC 10 t) with
  | ok ts => rw [h] at q; exact .inr ⟨rfl, q⟩
  | error e =>
    rw [h] at q
    refine .inl ⟨_, rfl, ?_, q⟩
    have he : e ≤ t.length + 1 := err_le h
    rw [Int.natAbs_natCast]
    by_cases h0 : e = 0
    · rw [h0]; decide
    · have : e.log2 < 20 := (Nat.log2_lt h0).mpr (by have : (2 : Nat) ^ 20 = 1048576 := by decide
                                                     omega)
      omega
theorem sum_le {m : Nat} : ∀ {ls : List Cn.T}, (∀ x ∈ ls, x.length ≤ m) → (ls.map List.length).sum ≤ m * ls.length
  | [], _ => by simp
  | x :: r, h => by
    have h1 := h x List.mem_cons_self
    have h2 := sum_le (ls := r) fun y hy => h y (List.mem_cons_of_mem _ hy)
    rw [List.map_cons, List.sum_cons, List.length_cons, Nat.mul_add, Nat.mul_one]
    omega
theorem joinT_sum8 (c : Nat) : ∀ ps : List Cn.T, (joinT [c] ps).length ≤ (ps.map List.length).sum + ps.length
  | [] => by simp [joinT]
  | [p] => by simp [joinT]
  | p :: q :: r => by
    have ih := joinT_sum8 c (q :: r)
    simp only [joinT, List.length_append, List.map_cons, List.sum_cons, List.length_cons, List.length_nil] at ih ⊢
    omega
theorem rows_sum {ts : List Tbl} (h5 : ts.length ≤ 5) (wf : ∀ t ∈ ts, WfT t) : ((ts.flatMap tableRows).map List.length).sum ≤ 6000 ∧ (ts.flatMap tableRows).length ≤ 60 := by
  have r := all_room h5 wf
  have h1 := sum_le r.2
  have : 100 * (ts.flatMap tableRows).length ≤ 6000 := by omega
  exact ⟨by omega, r.1⟩
theorem text_room {ts : List Tbl} (h5 : ts.length ≤ 5) (wf : ∀ t ∈ ts, WfT t) : ((ts.flatMap tableRows).map List.length).sum + (ts.flatMap tableRows).length ≤ 100000 ∧ (schemaText ts).length ≤ 7000 := by
  have r := rows_sum h5 wf
  have h2 := joinT_sum8 10 (ts.flatMap tableRows)
  have h3 : (schemaText ts).length = (joinT [10] (ts.flatMap tableRows)).length := rfl
  omega
/-- the blanks of a schema's rows -/
theorem wx_map {α : Type} {f : α → Cn.T} {m : Nat} : ∀ {xs : List α}, (∀ x ∈ xs, (f x).count 32 ≤ m) → wx 10 32 (xs.map f) ≤ m * xs.length
  | [], _ => by simp [wx]
  | x :: xs, h => by
    have h1 := h x List.mem_cons_self
    have h2 := wx_map (xs := xs) fun y hy => h y (List.mem_cons_of_mem _ hy)
    have e : wx 10 32 ((x :: xs).map f) = wx 10 32 [f x] + wx 10 32 (xs.map f) := wx_app 10 32 [f x] (xs.map f)
    rw [e, wx_one, if_neg (by decide), List.length_cons, Nat.mul_succ]
    omega
theorem od_join {q : List Cn.T} (h : ∀ w ∈ q, isName w = true) (h3 : q.length ≤ 3) : Od 27 3 (joinT [32] q) := by
  refine ⟨fun x hx => ?_, ?_, ?_⟩
  · rcases join_mem hx with z | ⟨p, hp, z⟩
    · rw [z]; decide
    · exact (od_name (h p hp)).ok x z
  · refine Nat.le_trans (join_wl 32 q) ?_
    have : ∀ {q : List Cn.T}, (∀ w ∈ q, isName w = true) → wl q ≤ 9 * q.length := fun {q} => by
      induction q with
      | nil => intro _; simp [wl]
      | cons a r ih =>
        intro h
        have h1 := isName_len (h a List.mem_cons_self)
        have h2 := ih fun w hw => h w (List.mem_cons_of_mem _ hw)
        have e : wl (a :: r) = wl [a] + wl r := wl_app [a] r
        rw [e, wl_one, List.length_cons]
        omega
    have := this h
    omega
  · refine Nat.le_trans (join_wx 32 32 q) ?_
    have : ∀ {q : List Cn.T}, (∀ w ∈ q, isName w = true) → wx 32 32 q ≤ q.length := fun {q} => by
      induction q with
      | nil => intro _; simp [wx]
      | cons a r ih =>
        intro h
        have h1 := (od_name (h a List.mem_cons_self)).cnt
        have h2 := ih fun w hw => h w (List.mem_cons_of_mem _ hw)
        have e : wx 32 32 (a :: r) = wx 32 32 [a] + wx 32 32 r := wx_app 32 32 [a] r
        rw [e, wx_one, List.length_cons, if_pos rfl]
        omega
    have := this h
    omega
theorem od_ref {r : List Cn.T × Cn.T × Bool} (h : ∀ w ∈ r.1, isName w = true) (h3 : r.1.length ≤ 3) (hn : isName r.2.1 = true) : Od 60 8 (refRow r) := by
  have e : refRow r = [32, 32] ++ ((if r.2.2 then [114, 101, 102] else [111, 112, 116, 105, 111, 110, 97, 108]) ++ ([32] ++ (joinT [32] r.1 ++ ([32, 45, 62, 32] ++ r.2.1)))) := rfl
  rw [e]
  have hw : Od 8 0 (if r.2.2 = true then ([114, 101, 102] : Cn.T) else [111, 112, 116, 105, 111, 110, 97, 108]) := by
    cases r.2.2
    · exact (od_lit [111, 112, 116, 105, 111, 110, 97, 108]).le (by decide) (by decide)
    · exact (od_lit [114, 101, 102]).le (by decide) (by decide)
  exact (((od_lit [32, 32]).add (hw.add ((od_lit [32]).add ((od_join h h3).add ((od_lit [32, 45, 62, 32]).add (od_name hn)))))).le (by decide) (by decide))
theorem table_od {ab : List Tbl} {t : Tbl} (o : OkT ab t) (wf : WfT t) : (∀ r ∈ tableRows t, ∀ c ∈ r, c < 128) ∧ wx 10 32 (tableRows t) ≤ 50 := by
  have nm := od_name o.name
  have kk : ∀ k ∈ t.keys, Od 40 6 (kKey ++ joinT [32] k) := fun k hk => by
    obtain ⟨k3, kc⟩ := wf.key k hk
    exact ((od_lit kKey).add (od_join (fun w hw => o.colsN w (kc w hw)) k3)).le (by decide) (by decide)
  have rr : ∀ r ∈ t.refs, Od 60 8 (refRow r) := fun r hr => by
    obtain ⟨r3, _, rc⟩ := wf.ref r hr
    exact od_ref (fun w hw => o.colsN w (rc w hw)) r3 (o.refsR r hr).names
  have cc : ∀ c ∈ t.cols, Od 20 3 (kColumn ++ c) := fun c hc => ((od_lit kColumn).add (od_name (o.colsN c hc))).le (by decide) (by decide)
  have tt : Od 20 1 (kTable ++ t.name) := ((od_lit kTable).add nm).le (by decide) (by decide)
  have ee : Od 3 0 kEnd := (od_lit kEnd).le (by decide) (by decide)
  have et : tableRows t = ((([kTable ++ t.name] ++ t.cols.map fun c => kColumn ++ c) ++ t.keys.map fun q => kKey ++ joinT [32] q) ++ t.refs.map refRow) ++ [kEnd] := by
    unfold tableRows; simp only [List.append_assoc]
  rw [et]
  constructor
  · intro r hr
    rcases List.mem_append.mp hr with hr | hr
    · rcases List.mem_append.mp hr with hr | hr
      · rcases List.mem_append.mp hr with hr | hr
        · rcases List.mem_append.mp hr with hr | hr
          · rw [List.mem_singleton.mp hr]; exact tt.ok
          · obtain ⟨c, hc, rfl⟩ := List.mem_map.mp hr; exact (cc c hc).ok
        · obtain ⟨c, hc, rfl⟩ := List.mem_map.mp hr; exact (kk c hc).ok
      · obtain ⟨c, hc, rfl⟩ := List.mem_map.mp hr; exact (rr c hc).ok
    · rw [List.mem_singleton.mp hr]; exact ee.ok
  · have h1 := wx_map (f := fun c => kColumn ++ c) (m := 3) (xs := t.cols) fun c hc => (cc c hc).cnt
    have h2 := wx_map (f := fun q => kKey ++ joinT [32] q) (m := 6) (xs := t.keys) fun c hc => (kk c hc).cnt
    have h3 := wx_map (f := refRow) (m := 8) (xs := t.refs) fun c hc => (rr c hc).cnt
    have h4 := tt.cnt
    have h5 := ee.cnt
    have l1 := wf.cols
    have l2 := wf.keys
    have l3 := wf.refs
    rw [wx_app, wx_app, wx_app, wx_app, wx_one, wx_one, if_neg (by decide)]
    omega
theorem schema_tn {ts : List Tbl} (ok : OkTs [] ts) (ne : ts ≠ []) (l5 : ts.length ≤ 5) : Tn 7000 250 (schemaText ts) := by
  have wf := wf_all ok ne l5
  have room := text_room l5 wf
  have each : ∀ t ∈ ts, ∃ ab, OkT ab t := okTs_at ok
  have main : ∀ {us : List Tbl}, (∀ t ∈ us, t ∈ ts) → (∀ r ∈ us.flatMap tableRows, ∀ c ∈ r, c < 128) ∧ wx 10 32 (us.flatMap tableRows) ≤ 50 * us.length := fun {us} => by
    induction us with
    | nil => intro _; exact ⟨by simp, by simp [wx]⟩
    | cons t r ih =>
      intro h
      obtain ⟨ab, o⟩ := each t (h t List.mem_cons_self)
      obtain ⟨h1, h2⟩ := table_od o (wf t (h t List.mem_cons_self))
      obtain ⟨h3, h4⟩ := ih fun q hq => h q (List.mem_cons_of_mem _ hq)
      rw [List.flatMap_cons, wx_app, List.length_cons]
      exact ⟨fun q hq => (List.mem_append.mp hq).elim (h1 q) (h3 q), by omega⟩
  obtain ⟨h1, h2⟩ := main (us := ts) fun t h => h
  refine ⟨fun x hx => ?_, room.2, ?_⟩
  · rcases join_mem (show x ∈ joinT [10] (ts.flatMap tableRows) from hx) with z | ⟨p, hp, z⟩
    · rw [z]; decide
    · exact h1 p hp x z
  · have := join_wx 10 32 (ts.flatMap tableRows)
    have e : schemaText ts = joinT [10] (ts.flatMap tableRows) := rfl
    rw [e]; omega
def nB : Nat → Nat
  | 0 => 7000
  | j + 1 => 2 * nB j + 200
def cB : Nat → Nat
  | 0 => 250
  | j + 1 => 2 * cB j + 40
theorem nB_le : ∀ j, j < 3 → nB j ≤ 40000 := by decide
theorem nB_top : ∀ j, j ≤ 3 → nB j ≤ 60000 ∧ cB j ≤ 3000 := by
  intro j h
  have : j = 0 ∨ j = 1 ∨ j = 2 ∨ j = 3 := by omega
  rcases this with z | z | z | z <;> rw [z] <;> decide
theorem atI_lastV {xs : List V} {v : V} (h : xs[xs.length - 1]? = some v) : atI xs (-(1 : Int)) = some v := by
  have l : xs.length - 1 < xs.length := (List.getElem?_eq_some_iff.mp h).1
  unfold atI ixN
  rw [if_neg (by omega), if_pos (by omega)]
  show xs[((-(1 : Int)) + (xs.length : Int)).toNat]? = _
  have e : ((-(1 : Int)) + (xs.length : Int)).toNat = xs.length - 1 := by omega
  rw [e]; exact h
theorem cutS_to (l : Cn.T) : ∃ u, cutS (S l) none (some (-(4 : Int))) = S u ∧ (∀ c ∈ u, c ∈ l) ∧ u.length ≤ l.length ∧ u.count 32 ≤ l.count 32 := by
  refine ⟨TL.tl (cutS (S l) none (some (-(4 : Int)))), (S_tl _).symm, ?_⟩
  have e : TL.tl (cutS (S l) none (some (-(4 : Int)))) = ((l.drop (HT.sIx (S l).length 0 none)).take (HT.sIx (S l).length (S l).length (some (-(4 : Int))) - HT.sIx (S l).length 0 none)) := rfl
  have e0 : HT.sIx (S l).length 0 none = 0 := rfl
  rw [e, e0, List.drop_zero]
  exact ⟨fun c hc => List.mem_of_mem_take hc, by rw [List.length_take]; omega, (List.take_sublist _ _).count_le 32⟩
section
variable {P : Program} {w : World} {K : PySem.W.Frag} {mg : Str → Option Value} {base : Heap} {CR CT CS CI : Addr} {f : Addr} {fd : FuncData}
theorem sc_law : FnScope ["script", "k", "feed", "tables", "names", "text", "texts", "turn", "bent", "again", "way", "one", "table"] ["script"] (defScope s_law) := ⟨rfl, rfl, rfl, by decide +kernel, rfl, by decide +kernel, by decide +kernel⟩
def sp_law (K : PySem.W.Frag) : Sp := fun vs H Q _ => ∃ (a : Addr) (ns : List Int), vs = [.ref a] ∧ SqL K H a (ns.map V.int) ∧ ∀ H', Q (.bl true) H'
theorem ok_law (F : Fun K "law" "law" s_law f fd) (T : LT4 K mg CR CT CS CI) (c__law_feed : Cal P w K mg base 1 "_law_feed" (sp_feed K)) (c__law_take : Cal P w K mg base 1 "_law_take" sp_take) (c__law_pick : Cal P w K mg base 2 "_law_pick" sp_pickL) (c__law_schema : Cal P w K mg base 4 "_law_schema" sp_schema) (c__law_rows : Cal P w K mg base 1 "_law_rows" sp_rows)
    (c__law_told : Cal P w K mg base 9 "_law_told" sp_told4) (c__law_wrong : Cal P w K mg base 4 "_law_wrong" sp_wrong4) (c__law_signs : Cal P w K mg base 3 "_law_signs" sp_signs4) (c__law_pieces : Cal P w K mg base 3 "_law_pieces" sp_pieces4) :
    FnOk P w K mg base (L2.CX P w) 10 f fd ["script"] (sp_law K) := by
  refine F.okX sc_law (fun vs H Q E h => ?_) (fun cdv A outer s H vs Q E hr h => ?_)
  · obtain ⟨a, ns, rfl, _⟩ := h
    rfl
  · obtain ⟨a, ns, rfl, hs, k⟩ := h
    refine ⟨_, (pss_cons (ps_for (passes_of rfl) (by rfl) (pi_range1 (by rfl) T.b_range (pa_cons (pe_callB (call_max2 (by rfl)) (by rfl) T.b_max (by decide +kernel) (pa_cons pe_int (pa_cons (pe_callB (call_min2 (by rfl)) (by rfl) T.b_min (by decide +kernel) (pa_cons pe_int (pa_cons (pe_callB (call_len_seqK K rfl) (by rfl) T.b_len (by decide +kernel) (pa_cons (pv 0) pa_nil)) pa_nil))) pa_nil))) pa_nil)) (pg_name (i := 1) sc_law.nd rfl (Or.inl rfl))
  (pss_cons (ps_set (i := 2) sc_law.nd rfl (Or.inl rfl) (p_call E c__law_feed hr (by decide) (by rfl) (passX rfl rfl rfl (takes_of rfl rfl rfl rfl)) (pa_cons (pv 0) (pa_cons (pv 1) pa_nil))))
  (pss_cons (ps_set (i := 3) sc_law.nd rfl (Or.inl rfl) (p_call E c__law_schema hr (by decide) (by rfl) (passX rfl rfl rfl (takes_of rfl rfl rfl rfl)) (pa_cons (pv 2) pa_nil)))
  (pss_cons (ps_set (i := 4) sc_law.nd rfl (Or.inl rfl) (pe_op op_cat (pe_op op_cat (pe_lc (own := [("table", 12)]) (g := gName 12) (tt := tYes) (by rfl) sc_law.nd (pi_listK K rfl (pv 3)) (blkOk_by (own := [("table", 12)]) (N := ["script", "k", "feed", "tables", "names", "text", "texts", "turn", "bent", "again", "way", "one", "table"]) (sc := (defScope s_law)) (by decide +kernel)) (fun _ _ _ _ _ => (pg_name (i := 12) sc_law.nd rfl (Or.inl rfl))) (fun _ _ _ _ _ => pts_nil) (fun _ _ _ _ _ => (pe_ix (ix_tupK K rfl) (pv 12) pe_int (fun _ _ => rfl)))) (pe_callTy (call_list_ofK K rfl) (by rfl) T.b_list (by decide +kernel) (pa_cons (pe_ix (ix_tupK K rfl) (pe_ix (ix_listK K rfl) (pv 3) pe_int (fun _ _ => rfl)) pe_int (fun _ _ => rfl)) pa_nil))) (pe_callTy (call_list_ofK K rfl) (by rfl) T.b_list (by decide +kernel) (pa_cons (pe_ix (ix_tupK K rfl) (pe_ix (ix_listK K rfl) (pv 3) (pe_un un_neg pe_int) (fun _ _ => rfl)) pe_int (fun _ _ => rfl)) pa_nil))))
  (pss_cons (ps_set (i := 5) sc_law.nd rfl (Or.inl rfl) (pe_joinK K rfl pe_str (p_call E c__law_rows hr (by decide) (by rfl) (passX rfl rfl rfl (takes_of rfl rfl rfl rfl)) (pa_cons (pv 3) pa_nil))))
  (pss_cons (ps_set (i := 6) sc_law.nd rfl (Or.inl rfl) (pe_lst (pa_cons (pv 5) (pa_cons pe_str (pa_cons pe_str (pa_cons (pe_op op_add_str (pv 5) pe_str) (pa_cons (pe_op op_add_str pe_str (pv 5)) (pa_cons (pe_op op_add_str (pv 5) pe_str) (pa_cons pe_str (pa_cons (pe_slice sl_str (pv 5) po_none (po_some (pe_un un_neg pe_int))) pa_nil))))))))))
  (pss_cons (ps_for (passes_of rfl) (by rfl) (pi_range1 (by rfl) T.b_range (pa_cons pe_int pa_nil)) (pg_name (i := 7) sc_law.nd rfl (Or.inl rfl))
  (pss_cons (ps_set (i := 8) sc_law.nd rfl (Or.inl rfl) (pv 5))
  (pss_cons (ps_for (passes_of rfl) (by rfl) (pi_range1 (by rfl) T.b_range (pa_cons (p_call E c__law_pick hr (by decide) (by rfl) (passX rfl rfl rfl (takes_of rfl rfl rfl rfl)) (pa_cons (pv 2) (pa_cons (pe_lst (pa_cons pe_int (pa_cons pe_int (pa_cons pe_int (pa_cons pe_int pa_nil))))) pa_nil))) pa_nil)) (pg_name (i := 9) sc_law.nd rfl (Or.inl rfl))
  (pss_cons (ps_set (i := 10) sc_law.nd rfl (Or.inl rfl) (p_call E c__law_take hr (by decide) (by rfl) (passX rfl rfl rfl (takes_of rfl rfl rfl rfl)) (pa_cons (pv 2) (pa_cons pe_int pa_nil))))
  (pss_one (ps_if (pt_cmpR op_eq (pv 10) pe_int (nomark _))
  (pss_one (ps_set (i := 8) sc_law.nd rfl (Or.inl rfl) (p_call E c__law_signs hr (by decide) (by rfl) (passX rfl rfl rfl (takes_of rfl rfl rfl rfl)) (pa_cons (pv 2) (pa_cons (pv 8) pa_nil)))))
  (pss_one (ps_set (i := 8) sc_law.nd rfl (Or.inl rfl) (p_call E c__law_pieces hr (by decide) (by rfl) (passX rfl rfl rfl (takes_of rfl rfl rfl rfl)) (pa_cons (pv 2) (pa_cons (pv 8) (pa_cons (pe_ix (ix_listK K rfl) (pe_lst (pa_cons pe_str (pa_cons pe_str (pa_cons pe_str (pa_cons pe_str pa_nil))))) (pe_op op_sub (pv 10) pe_int) (fun _ _ => rfl)) (pa_cons (pv 4) pa_nil)))))))))))
  (pss_one (ps_expr (pe_bm PySem.F.plainAttrs_list PySem.F.slot_list_append PySem.F.type_list_append mt_append (pv 6) (pa_cons (pv 8) pa_nil)))))))
  (pss_one (ps_for (passes_of rfl) (by rfl) (pi_listK K rfl (pv 6)) (pg_name (i := 11) sc_law.nd rfl (Or.inl rfl))
  (pss_one (ps_if (pt_cmpR op_ne (pe_callB call_repr_in (by rfl) T.b_repr (by decide +kernel) (pa_cons (p_call E c__law_told hr (by decide) (by rfl) (passX rfl rfl rfl (takes_of rfl rfl rfl rfl)) (pa_cons (pv 11) pa_nil)) pa_nil)) (pe_callB call_repr_in (by rfl) T.b_repr (by decide +kernel) (pa_cons (p_call E c__law_wrong hr (by decide) (by rfl) (passX rfl rfl rfl (takes_of rfl rfl rfl rfl)) (pa_cons (pv 11) pa_nil)) pa_nil)) (nomark _))
  (pss_one (ps_ret pe_bl))
  pss_nil)))))))))))
  (pss_one (ps_ret pe_bl))), ?_⟩
    have rng : ∀ z : Nat, ∃ y : Nat, y ≤ 4 ∧ (if (if (z : Int) < 3 then (z : Int) else 3) > 2 then (if (z : Int) < 3 then (z : Int) else 3) else 2) = (y : Int) := fun z => by
      by_cases h1 : (z : Int) < 3
      · rw [if_pos h1]
        by_cases h2 : (z : Int) > 2
        · rw [if_pos h2]; exact ⟨z, by omega, rfl⟩
        · rw [if_neg h2]; exact ⟨2, by omega, rfl⟩
      · rw [if_neg h1]; exact ⟨3, by omega, rfl⟩
    obtain ⟨y, y4, ey⟩ := rng (ns.map V.int).length
    refine ⟨_, rfl, a, _, rfl, .inl hs, _, _, rfl, _, _, rfl, _, rfl, ?_⟩
    rw [ey]
    refine ⟨by omega, by omega, ?_⟩
    rw [Int.toNat_natCast]
    refine for_it (walk_range (lo := 0) (n := y)) (fun _ σ H' => (∃ v1 v2 v3 v4 v5 v6 v7 v8 v9 v10 v11, σ = [some (.ref a), v1, v2, v3, v4, v5, v6, v7, v8, v9, v10, v11, none]) ∧ But [] H H') ⟨⟨_, _, _, _, _, _, _, _, _, _, _, rfl⟩, But.refl⟩ (fun _ σ H' _ _ => trivial) (fun m x σ H1 H1' hm ⟨⟨v1, v2, v3, v4, v5, v6, v7, v8, v9, v10, v11, es⟩, b1⟩ yy => ?_) (fun σ H1 _ => ?_)
    rotate_left
    · exact k H1
    obtain ⟨rfl, rfl⟩ := yy
    subst es
    have em : V.int (0 + (m : Int)) = V.int ((m : Nat) : Int) := by rw [Int.zero_add]
    refine ⟨_, rfl, _, rfl, a, ns, m, by show [V.ref a, V.int (0 + (m : Int))] = _; rw [em], by omega, sql_keep b1 hs, fun H2 fa b2 nfa hfa => ?_⟩
    -- tables
    refine ⟨_, rfl, fa, rfl, hfa, fun H4 tl vt ts b4 f4 ntl etl et ok ne l5 noY => ?_⟩
    have wf := wf_all ok ne l5
    have room := text_room l5 wf
    have tn0 := schema_tn ok ne l5
    have each := okTs_at ok
    have ntf : tl ≠ fa := fun z => by obtain ⟨d1, s1, e⟩ := f4; rw [z, e] at etl; injection etl with etl; injection etl with etl; rw [← etl] at et; obtain ⟨t0, _, q, _, _, _, _, _, e, _⟩ := et.at (i := 0) rfl; cases e
    -- names
    refine ⟨_, rfl, tl, rfl, ⟨_, SqL.of etl⟩, fun D hD => ?_⟩
    refine lc_grow (fun i => (ts[i]?).map fun t => sv t.name) (walk_list (K := K) (a := tl) (xs := vt)) hD (fun H' b => SqL.of (b.at etl)) (fun i x acc H6 H7 N hi hz b6 hD6 y hy _ => ?_) (fun H5 b5 hD5 => ?_)
    · obtain ⟨rfl, hx⟩ := y
      obtain ⟨o, ho, q, ca, ua, ra, uk, rk, rfl, hq, _⟩ := et.at hx
      exact ⟨rfl, _, rfl, q, _, 0, _, rfl, rfl, SqT.of (b6.at hq), rfl, lc_putG b6 hD hD6 (by have := et.1; omega) fun H'' bb hh => hy _ H'' (by rw [ho]; rfl) bb hh⟩
    have en : (List.range vt.length).filterMap (fun i => (ts[i]?).map fun t => sv t.name) = svs (ts.map (·.name)) := by
      rw [et.1, range_map]
      unfold svs
      rw [List.map_map]; rfl
    rw [en] at hD5
    obtain ⟨t0, tr0, ets⟩ : ∃ t0 r, ts = t0 :: r := by
      cases ts with
      | nil => exact absurd rfl ne
      | cons t r => exact ⟨t, r, rfl⟩
    have e0 : ts[0]? = some t0 := by rw [ets]; rfl
    have hlast : ts[ts.length - 1]? = some (ts[ts.length - 1]'(by have := List.length_pos_iff.mpr ne; omega)) := List.getElem?_eq_getElem _
    generalize htz : ts[ts.length - 1]'(by have := List.length_pos_iff.mpr ne; omega) = tz at hlast
    obtain ⟨x0, hx0, q0, ca0, ua0, ra0, uk0, rk0, rfl, hq0, hca0, _⟩ := et.atx e0
    obtain ⟨xz, hxz, qz, caz, uaz, raz, ukz, rkz, rfl, hqz, hcaz, _⟩ := et.atx hlast
    have o0 : t0 ∈ ts := List.mem_of_getElem? e0
    have oz : tz ∈ ts := List.mem_of_getElem? hlast
    refine ⟨_, rfl, tl, vt, 0, _, rfl, rfl, SqL.of (b5.at etl), atI_nat hx0, q0, _, 1, _, rfl, rfl, SqT.of (b5.at hq0), rfl, ca0, _, rfl, .inr (SqT.of (b5.at hca0)), fun l1 hl1 => ?_⟩
    have b6 : But [] H5 (upd H5 l1 (.lst (svs t0.cols))) := newB hl1
    have e6 : (upd H5 l1 (.lst (svs t0.cols))) l1 = some (.lst (svs t0.cols)) := upd_same
    generalize upd H5 l1 (.lst (svs t0.cols)) = H6 at b6 e6
    have w0 := (wf t0 o0).cols
    have wz := (wf tz oz).cols
    have ltn : (ts.map (·.name)).length = ts.length := List.length_map _
    refine ⟨D, l1, _, _, rfl, rfl, b6.at hD5, e6, szl (by rw [svs_len, svs_len]; omega), fun l2 hl2 => ?_⟩
    rw [← svs_app]
    have b7 : But [] H6 (upd H6 l2 (.lst (svs (ts.map (·.name) ++ t0.cols)))) := newB hl2
    have e7 : (upd H6 l2 (.lst (svs (ts.map (·.name) ++ t0.cols)))) l2 = some (.lst (svs (ts.map (·.name) ++ t0.cols))) := upd_same
    generalize upd H6 l2 (.lst (svs (ts.map (·.name) ++ t0.cols))) = H7 at b7 e7
    have b57 := (b5.trans b6).trans b7
    refine ⟨_, rfl, 1, rfl, tl, vt, -(1 : Int), _, rfl, rfl, SqL.of (b57.at etl), atI_lastV (by rw [et.1]; exact hxz), qz, _, 1, _, rfl, rfl, SqT.of (b57.at hqz), rfl, caz, _, rfl, .inr (SqT.of (b57.at hcaz)), fun l3 hl3 => ?_⟩
    have b8 : But [] H7 (upd H7 l3 (.lst (svs tz.cols))) := newB hl3
    have e8 : (upd H7 l3 (.lst (svs tz.cols))) l3 = some (.lst (svs tz.cols)) := upd_same
    generalize upd H7 l3 (.lst (svs tz.cols)) = H8 at b8 e8
    refine ⟨l2, l3, _, _, rfl, rfl, b8.at e7, e8, szl (by rw [svs_len, svs_len, List.length_append]; omega), fun nl hnl0 => ?_⟩
    rw [← svs_app]
    have b9 : But [] H8 (upd H8 nl (.lst (svs (ts.map (·.name) ++ t0.cols ++ tz.cols)))) := newB hnl0
    have e9 : (upd H8 nl (.lst (svs (ts.map (·.name) ++ t0.cols ++ tz.cols)))) nl = some (.lst (svs (ts.map (·.name) ++ t0.cols ++ tz.cols))) := upd_same
    have n0 : ts.map (·.name) ++ t0.cols ++ tz.cols ≠ [] := by rw [ets]; simp
    have n1000 : (ts.map (·.name) ++ t0.cols ++ tz.cols).length ≤ 1000 := by rw [List.length_append, List.length_append]; omega
    have nms : ∀ w ∈ ts.map (·.name) ++ t0.cols ++ tz.cols, isName w = true := fun w hw => by
      rcases List.mem_append.mp hw with z | z
      · rcases List.mem_append.mp z with z | z
        · obtain ⟨t', ht', rfl⟩ := List.mem_map.mp z
          obtain ⟨ab, o⟩ := each t' ht'
          exact o.name
        · obtain ⟨ab, o⟩ := each t0 o0
          exact o.colsN w z
      · obtain ⟨ab, o⟩ := each tz oz
        exact o.colsN w z
    generalize ts.map (·.name) ++ t0.cols ++ tz.cols = names at b9 e9 n0 n1000 nms
    generalize upd H8 nl (.lst (svs names)) = H9 at b9 e9
    have b49 : But [] H4 H9 := (b57.trans b8).trans b9
    have nnf : nl ≠ fa := fun z => by
      obtain ⟨d1, s1, e⟩ := f4
      rw [z, (b57.trans b8).at e] at hnl0
      cases hnl0
    clear e6 e7 e8
    -- text
    refine ⟨⟨_, rfl⟩, _, rfl, tl, vt, ts, rfl, b49.at etl, et.mono fun _ _ z => z.fix (fixO b49), l5, wf, fun H10 rl b10 nrl erl => ?_⟩
    have jr : ((((ts.flatMap tableRows).map S).map fun x => x.length).sum + ((ts.flatMap tableRows).map S).length * (S [10]).length) ≤ 16777216 := by
      have e1 : (((ts.flatMap tableRows).map S).map fun x => x.length).sum = ((ts.flatMap tableRows).map List.length).sum := by rw [List.map_map]; congr 1
      rw [e1, List.length_map, S_len]
      have := room.1
      show _ + _ * 1 ≤ 16777216
      omega
    refine ⟨S [10], rl, (ts.flatMap tableRows).map S, rfl, rfl, .inl (by rw [← svs_str]; exact SqL.of erl), jr, ?_⟩
    rw [join_S]
    have b410 := b49.trans b10
    have f10 : FeedR H10 fa := by obtain ⟨d1, s1, e⟩ := f4; exact ⟨d1, s1, b410.at e⟩
    have e10 : H10 nl = some (.lst (svs names)) := b10.at e9
    have b210 : But [fa] H2 H10 := b4.trans (But.of b410)
    show gName 5 (sv (schemaText ts)) _ H10 _
    generalize schemaText ts = tx at tn0
    have tlen := tn0.len
    have sz : ∀ {m : Nat}, m ≤ 900000 → m ≤ sizeLine := fun h => szl (by omega)
    -- texts
    obtain ⟨cut, ecut, cut1, cut2, cut3⟩ := cutS_to tx
    refine ⟨_, rfl, _, rfl, S tx, S [10], rfl, rfl, sz (by rw [S_len, S_len]; simp; omega), ?_⟩
    rw [S_app]
    refine ⟨_, rfl, S [10], S tx, rfl, rfl, sz (by rw [S_len, S_len]; simp; omega), ?_⟩
    rw [S_app]
    refine ⟨_, rfl, S tx, S [10, 101, 110, 100], rfl, rfl, sz (by rw [S_len, S_len]; simp; omega), ?_⟩
    rw [S_app]
    refine ⟨_, rfl, 4, rfl, _, rfl, S tx, rfl, sz (by rw [S_len]; omega), ?_⟩
    rw [ecut]
    refine ⟨szl (by simp), fun xl hxl => ?_⟩
    have b11 : But [] H10 (upd H10 xl (.lst (svs [tx, [], [10], tx ++ [10], [10] ++ tx, tx ++ [10, 101, 110, 100], [101, 110, 100], cut]))) := newB hxl
    have e11 : (upd H10 xl (.lst (svs [tx, [], [10], tx ++ [10], [10] ++ tx, tx ++ [10, 101, 110, 100], [101, 110, 100], cut]))) xl = some (.lst (svs [tx, [], [10], tx ++ [10], [10] ++ tx, tx ++ [10, 101, 110, 100], [101, 110, 100], cut])) := upd_same
    show gName 6 (.ref xl) _ (upd H10 xl (.lst (svs [tx, [], [10], tx ++ [10], [10] ++ tx, tx ++ [10, 101, 110, 100], [101, 110, 100], cut]))) _
    have hL0 : ∀ l ∈ ([tx, [], [10], tx ++ [10], [10] ++ tx, tx ++ [10, 101, 110, 100], [101, 110, 100], cut] : List Cn.T), Tn 60000 3000 l := by
      have lit : ∀ l : Cn.T, (l.all fun c => decide (c < 128)) = true → l.length ≤ 100 → Tn 100 100 l := fun l h1 h2 => ⟨fun c hc => of_decide_eq_true (List.all_eq_true.mp h1 c hc), h2, Nat.le_trans List.count_le_length h2⟩
      intro l hl
      simp only [List.mem_cons, List.not_mem_nil, or_false] at hl
      rcases hl with z | z | z | z | z | z | z | z <;> rw [z]
      · exact tn0.le (by decide) (by decide)
      · exact (lit [] (by decide) (by decide)).le (by decide) (by decide)
      · exact (lit [10] (by decide) (by decide)).le (by decide) (by decide)
      · exact (tn_app tn0 (lit [10] (by decide) (by decide))).le (by decide) (by decide)
      · exact (tn_app (lit [10] (by decide) (by decide)) tn0).le (by decide) (by decide)
      · exact (tn_app tn0 (lit [10, 101, 110, 100] (by decide) (by decide))).le (by decide) (by decide)
      · exact (lit [101, 110, 100] (by decide) (by decide)).le (by decide) (by decide)
      · exact ⟨fun c hc => tn0.ok c (cut1 c hc), by omega, by have := tn0.cnt; omega⟩
    have l8 : ([tx, [], [10], tx ++ [10], [10] ++ tx, tx ++ [10, 101, 110, 100], [101, 110, 100], cut] : List Cn.T).length = 8 := rfl
    generalize ([tx, [], [10], tx ++ [10], [10] ++ tx, tx ++ [10, 101, 110, 100], [101, 110, 100], cut] : List Cn.T) = L0 at b11 e11 hL0 l8
    have nxf : fa ≠ xl := fun z => by obtain ⟨d1, s1, e⟩ := f10; rw [← z, e] at hxl; cases hxl
    have nxn : nl ≠ xl := fun z => by rw [← z, e10] at hxl; cases hxl
    have f11 : FeedR (upd H10 xl (.lst (svs L0))) fa := by obtain ⟨d1, s1, e⟩ := f10; exact ⟨d1, s1, b11.at e⟩
    have en11 := b11.at e10
    generalize upd H10 xl (.lst (svs L0)) = H11 at b11 e11 f11 en11
    have back : ∀ {H'}, But [fa, xl] H11 H' → But [] H H' := fun {H'} b => by
      have h1 : But [fa] H2 H' := fun z o hz e => by
        have e2 := b11.at (b210 z o hz e)
        refine b z o (fun q => ?_) e2
        simp only [List.mem_cons, List.not_mem_nil, or_false] at q
        rcases q with q | q
        · exact hz (by rw [q]; simp)
        · have e3 := b210 z o hz e
          rw [q, hxl] at e3
          cases e3
      exact b1.trans (((But.of b2).trans h1).drop nfa)
    -- eighteen texts more
    refine ⟨_, rfl, by decide, by decide, ?_⟩
    refine for_it (walk_range (lo := 0) (n := 18)) (fun i σ H' => ∃ L, (∃ v7 v8 v9 v10 v11, σ = [some (.ref a), some (.int (0 + (m : Int))), some (.ref fa), some (.ref tl), some (.ref nl), some (sv tx), some (.ref xl), v7, v8, v9, v10, v11, none]) ∧ But [fa, xl] H11 H' ∧ FeedR H' fa ∧ H' xl = some (.lst (svs L)) ∧ L.length ≤ 8 + i ∧ ∀ l ∈ L, Tn 60000 3000 l)
      ⟨L0, ⟨_, _, _, _, _, rfl⟩, But.refl, f11, e11, by omega, hL0⟩ (fun _ σ H' _ _ => trivial) (fun i x σ H12 H12' hi ⟨L, ⟨v7, v8, v9, v10, v11, es⟩, b12, f12, e12, l12, hL⟩ yy => ?_) (fun σ H12 ⟨L, ⟨v7, v8, v9, v10, v11, es⟩, b12, f12, e12, l12, hL⟩ => ?_)
    · obtain ⟨rfl, rfl⟩ := yy
      subst es
      refine ⟨_, rfl, ?_⟩
      refine ⟨_, rfl, szl (by simp), fun q hq => ?_⟩
      have bq : But [] H12' (upd H12' q (.lst [.int 1, .int 1, .int 2, .int 3])) := newB hq
      have nqf : q ≠ fa := fun z => by obtain ⟨d1, s1, e⟩ := f12; rw [z, e] at hq; cases hq
      have fq : FeedR (upd H12' q (.lst [.int 1, .int 1, .int 2, .int 3])) fa := by obtain ⟨d1, s1, e⟩ := f12; exact ⟨d1, s1, bq.at e⟩
      refine ⟨fa, q, _, rfl, by simp, by simp, fq, nqf, upd_same, fun H13 x b13 f13 hx => ?_⟩
      have b1213 : But [fa] H12' H13 := (But.of bq).trans b13
      obtain ⟨r, r3, rfl⟩ : ∃ r : Nat, r ≤ 3 ∧ x = .int r := by
        simp only [List.mem_cons, List.not_mem_nil, or_false] at hx
        rcases hx with z | z | z | z
        · exact ⟨1, by decide, z⟩
        · exact ⟨1, by decide, z⟩
        · exact ⟨2, by decide, z⟩
        · exact ⟨3, by decide, z⟩
      refine ⟨_, rfl, by omega, by omega, ?_⟩
      rw [Int.toNat_natCast]
      have e13 := b1213.at1 e12 nxf.symm
      have en13 : H13 nl = some (.lst (svs names)) := b1213.at1 (b12 nl _ (by simp [nnf, nxn]) en11) nnf
      refine for_it (walk_range (lo := 0) (n := r)) (fun j σ H' => ∃ u, (∃ v9 v10 v11, σ = [some (.ref a), some (.int (0 + (m : Int))), some (.ref fa), some (.ref tl), some (.ref nl), some (sv tx), some (.ref xl), some (.int (0 + (i : Int))), some (sv u), v9, v10, v11, none]) ∧ But [fa] H13 H' ∧ FeedR H' fa ∧ Tn (nB j) (cB j) u)
        ⟨tx, ⟨_, _, _, rfl⟩, But.refl, f13, tn0⟩ (fun _ σ H' _ _ => trivial) (fun j x σ H14 H14' hj ⟨u, ⟨v9, v10, v11, es⟩, b14, f14, tu⟩ yy => ?_) (fun σ H14 ⟨u, ⟨v9, v10, v11, es⟩, b14, f14, tu⟩ => ?_)
      · obtain ⟨rfl, rfl⟩ := yy
        subst es
        have nb := nB_le j (by omega)
        refine ⟨_, rfl, fa, 5, rfl, by decide, by decide, f14, fun H15 wy b15 f15 hwy => ?_⟩
        refine ⟨_, rfl, rfl, _, rfl, ?_⟩
        refine ite2 (fun hw => ?_) (fun hw => ?_)
        · refine ⟨_, rfl, _, rfl, fa, u, nB j, cB j, rfl, f15, tu, by omega, fun H16 u2 b16 f16 t2 => ?_⟩
          exact ⟨u2, ⟨_, _, _, rfl⟩, (b14.trans b15).trans b16, f16, t2.le (by show _ ≤ 2 * nB j + 200; omega) (by show _ ≤ 2 * cB j + 40; omega)⟩
        · have w0 : wy ≠ 0 := fun z => hw (by rw [z]; rfl)
          refine ⟨_, rfl, _, rfl, szl (by simp), fun p hp => ?_⟩
          have bp : But [] H15 (upd H15 p (.lst [.str "\n", .str "\n", .str " ", .str " "])) := newB hp
          have fp : FeedR (upd H15 p (.lst [.str "\n", .str "\n", .str " ", .str " "])) fa := by obtain ⟨d1, s1, e⟩ := f15; exact ⟨d1, s1, bp.at e⟩
          obtain ⟨c, hc, ec⟩ : ∃ c : Nat, (c = 10 ∨ c = 32) ∧ atI [V.str "\n", V.str "\n", V.str " ", V.str " "] ((wy : Int) - 1) = some (sv [c]) := by
            have : wy = 1 ∨ wy = 2 ∨ wy = 3 ∨ wy = 4 := by omega
            rcases this with z | z | z | z <;> rw [z]
            · exact ⟨10, .inl rfl, rfl⟩
            · exact ⟨10, .inl rfl, rfl⟩
            · exact ⟨32, .inr rfl, rfl⟩
            · exact ⟨32, .inr rfl, rfl⟩
          have en15 : (upd H15 p (.lst [.str "\n", .str "\n", .str " ", .str " "])) nl = some (.lst (svs names)) := bp.at (b15.at1 (b14.at1 en13 nnf) nnf)
          refine ⟨_, rfl, _, 1, rfl, rfl, p, _, _, _, rfl, rfl, SqL.of upd_same, ec, _, rfl, fa, nl, u, c, nB j, cB j, names, rfl, hc, fp, tu, by omega, nnf, en15, n0, n1000, nms, fun H16 u2 b16 f16 t2 => ?_⟩
          exact ⟨u2, ⟨_, _, _, rfl⟩, ((b14.trans b15).trans (But.of bp)).trans b16, f16, t2⟩
      · subst es
        have e14 := b14.at1 e13 nxf.symm
        have top := nB_top r r3
        refine ⟨_, rfl, tyList e14, _, rfl, xl, svs L, _, rfl, rfl, e14, szt (by rw [svs_len]; omega), ?_⟩
        have e1 : svs L ++ [sv u] = svs (L ++ [u]) := by rw [svs_app]; rfl
        have bb : But [fa, xl] H12' (upd H14 xl (.lst (svs L ++ [sv u]))) := ((b1213.trans b14).more (by simp)).put (by simp)
        refine ⟨L ++ [u], ⟨_, _, _, _, _, rfl⟩, b12.trans bb, ?_, by rw [upd_same, e1], by rw [List.length_append]; simp; omega, fun l hl => ?_⟩
        · obtain ⟨d1, s1, e⟩ := f14; exact ⟨d1, s1, by rw [upd_ne nxf]; exact e⟩
        · rcases List.mem_append.mp hl with z | z
          · exact hL l z
          · rw [List.mem_singleton.mp z]; exact tu.le top.1 top.2
    · subst es
      -- both readers
      refine ⟨_, rfl, xl, rfl, ⟨_, SqL.of e12⟩, ?_⟩
      refine for_it (walk_list (K := K) (a := xl) (xs := svs L)) (fun i σ H' => (∃ v7 v8 v9 v10 v11, σ = [some (.ref a), some (.int (0 + (m : Int))), some (.ref fa), some (.ref tl), some (.ref nl), some (sv tx), some (.ref xl), v7, v8, v9, v10, v11, none]) ∧ But [] H12 H') ⟨⟨_, _, _, _, _, rfl⟩, But.refl⟩ (fun i σ H' _ ⟨_, b⟩ => SqL.of (b.at e12)) (fun i x σ H13 H13' hi ⟨⟨v7, v8, v9, v10, v11, es⟩, b13⟩ yy => ?_) (fun σ H13 ⟨⟨v7, v8, v9, v10, v11, es⟩, b13⟩ => ?_)
      · obtain ⟨rfl, hx⟩ := yy
        subst es
        obtain ⟨u, hu, rfl⟩ := svs_get hx
        have tu := hL u (List.mem_of_getElem? hu)
        have u4 : Txt4 u := tu.txt (by decide) (by decide)
        refine ⟨_, rfl, u, rfl, u4.2.1, fun H14 b14 => ?_⟩
        dsimp only [tNil]
        refine row_repr (H := H14) u4.2.1 ?_
        refine ⟨_, rfl, u, rfl, u4, fun H15 b15 => ?_⟩
        dsimp only [tNil]
        refine row_repr (H := H15) u4.2.1 ?_
        refine ⟨rfl, _, rfl, ?_⟩
        rw [decide_eq_true rfl]
        exact iteF ⟨⟨_, _, _, _, _, rfl⟩, (b13.trans b14).trans b15⟩
      · subst es
        exact ⟨⟨_, _, _, _, _, _, _, _, _, _, _, rfl⟩, back (b12.trans (b13.more (by simp)))⟩
end
end Cn
set_option Elab.async false
set_option linter.all false
set_option maxRecDepth 100000
set_option maxHeartbeats 0
/-! the head: facts, the run, the end -/
namespace Cn
open PySem L2
abbrev Rw : PySem.W.OpenRow := PySem.W.OpenLaw.row PySem.Challenge.rw_countonce_k04_wrong_rows
def loose1 : List PySem.Str := ["_wall", "CountError", "InvalidText", "UnknownTable", "is_name", "Rows", "MOST_TABLES", "MOST_COLUMNS", "MOST_KEYS", "MOST_KEY_COLUMNS", "MOST_REFERENCES", "Table", "Schema", "table_rows", "read_tables", "read_table", "read_columns", "read_keys", "are_different", "has_all", "read_references", "read_reference", "_law_feed", "_law_take", "_law_pick"]
def loose2 : List PySem.Str := ["_law_words", "_law_mixed", "_law_keys", "_law_references", "_law_schema", "_law_rows", "_law_is_name", "_law_are_columns", "_law_is_key", "_law_is_reference", "_law_taken", "_law_wrong", "_law_told", "_law_signs", "_law_pieces"]
def loose : List PySem.Str := loose1 ++ (loose2)
def fnAll : List He5.DefA := [
  ⟨(fun K => He.fAd K ("_wall", none)), "_wall", "_wall", defArgs s__wall, defBody s__wall, defScope s__wall, [], []⟩,
  ⟨(fun K => He.fAd K ("InvalidText", some "__init__")), "__init__", "InvalidText.__init__", defArgs s_InvalidText_init, defBody s_InvalidText_init, defScope s_InvalidText_init, [], []⟩,
  ⟨(fun K => He.fAd K ("UnknownTable", some "__init__")), "__init__", "UnknownTable.__init__", defArgs s_UnknownTable_init, defBody s_UnknownTable_init, defScope s_UnknownTable_init, [], []⟩,
  ⟨(fun K => He.fAd K ("is_name", none)), "is_name", "is_name", defArgs s_is_name, defBody s_is_name, defScope s_is_name, [], []⟩,
  ⟨(fun K => He.fAd K ("Rows", some "__init__")), "__init__", "Rows.__init__", defArgs s_Rows_init, defBody s_Rows_init, defScope s_Rows_init, [], []⟩,
  ⟨(fun K => He.fAd K ("Rows", some "all_read")), "all_read", "Rows.all_read", defArgs s_Rows_all_read, defBody s_Rows_all_read, defScope s_Rows_all_read, [], []⟩,
  ⟨(fun K => He.fAd K ("Rows", some "begins")), "begins", "Rows.begins", defArgs s_Rows_begins, defBody s_Rows_begins, defScope s_Rows_begins, [], []⟩,
  ⟨(fun K => He.fAd K ("Rows", some "words")), "words", "Rows.words", defArgs s_Rows_words, defBody s_Rows_words, defScope s_Rows_words, [], []⟩,
  ⟨(fun K => He.fAd K ("Rows", some "need")), "need", "Rows.need", defArgs s_Rows_need, defBody s_Rows_need, defScope s_Rows_need, [], []⟩,
  ⟨(fun K => He.fAd K ("Rows", some "new_name")), "new_name", "Rows.new_name", defArgs s_Rows_new_name, defBody s_Rows_new_name, defScope s_Rows_new_name, [], []⟩,
  ⟨(fun K => He.fAd K ("Rows", some "exactly")), "exactly", "Rows.exactly", defArgs s_Rows_exactly, defBody s_Rows_exactly, defScope s_Rows_exactly, [], []⟩,
  ⟨(fun K => He.fAd K ("Rows", some "finish")), "finish", "Rows.finish", defArgs s_Rows_finish, defBody s_Rows_finish, defScope s_Rows_finish, [], []⟩,
  ⟨(fun K => He.fAd K ("Table", some "__init__")), "__init__", "Table.__init__", defArgs s_Table_init, defBody s_Table_init, defScope s_Table_init, [], []⟩,
  ⟨(fun K => He.fAd K ("Schema", some "__init__")), "__init__", "Schema.__init__", defArgs s_Schema_init, defBody s_Schema_init, defScope s_Schema_init, [], []⟩,
  ⟨(fun K => He5.wf K (He.ga K "Schema") "classmethod" "parse"), "parse", "Schema.parse", defArgs s_Schema_parse, defBody s_Schema_parse, defScope s_Schema_parse, [], []⟩,
  ⟨(fun K => He.fAd K ("Schema", some "table")), "table", "Schema.table", defArgs s_Schema_table, defBody s_Schema_table, defScope s_Schema_table, [], []⟩,
  ⟨(fun K => He.fAd K ("Schema", some "__str__")), "__str__", "Schema.__str__", defArgs s_Schema_str, defBody s_Schema_str, defScope s_Schema_str, [], []⟩,
  ⟨(fun K => He.fAd K ("Schema", some "__eq__")), "__eq__", "Schema.__eq__", defArgs s_Schema_eq, defBody s_Schema_eq, defScope s_Schema_eq, [], []⟩,
  ⟨(fun K => He.fAd K ("table_rows", none)), "table_rows", "table_rows", defArgs s_table_rows, defBody s_table_rows, defScope s_table_rows, [], []⟩,
  ⟨(fun K => He.fAd K ("read_tables", none)), "read_tables", "read_tables", defArgs s_read_tables, defBody s_read_tables, defScope s_read_tables, [], []⟩,
  ⟨(fun K => He.fAd K ("read_table", none)), "read_table", "read_table", defArgs s_read_table, defBody s_read_table, defScope s_read_table, [], []⟩,
  ⟨(fun K => He.fAd K ("read_columns", none)), "read_columns", "read_columns", defArgs s_read_columns, defBody s_read_columns, defScope s_read_columns, [], []⟩,
  ⟨(fun K => He.fAd K ("read_keys", none)), "read_keys", "read_keys", defArgs s_read_keys, defBody s_read_keys, defScope s_read_keys, [], []⟩,
  ⟨(fun K => He.fAd K ("are_different", none)), "are_different", "are_different", defArgs s_are_different, defBody s_are_different, defScope s_are_different, [], []⟩,
  ⟨(fun K => He.fAd K ("has_all", none)), "has_all", "has_all", defArgs s_has_all, defBody s_has_all, defScope s_has_all, [], []⟩,
  ⟨(fun K => He.fAd K ("read_references", none)), "read_references", "read_references", defArgs s_read_references, defBody s_read_references, defScope s_read_references, [], []⟩,
  ⟨(fun K => He.fAd K ("read_reference", none)), "read_reference", "read_reference", defArgs s_read_reference, defBody s_read_reference, defScope s_read_reference, [], []⟩,
  ⟨(fun K => He.fAd K ("_law_feed", none)), "_law_feed", "_law_feed", defArgs s__law_feed, defBody s__law_feed, defScope s__law_feed, [], []⟩,
  ⟨(fun K => He.fAd K ("_law_take", none)), "_law_take", "_law_take", defArgs s__law_take, defBody s__law_take, defScope s__law_take, [], []⟩,
  ⟨(fun K => He.fAd K ("_law_pick", none)), "_law_pick", "_law_pick", defArgs s__law_pick, defBody s__law_pick, defScope s__law_pick, [], []⟩,
  ⟨(fun K => He.fAd K ("_law_words", none)), "_law_words", "_law_words", defArgs s__law_words, defBody s__law_words, defScope s__law_words, [], []⟩,
  ⟨(fun K => He.fAd K ("_law_mixed", none)), "_law_mixed", "_law_mixed", defArgs s__law_mixed, defBody s__law_mixed, defScope s__law_mixed, [], []⟩,
  ⟨(fun K => He.fAd K ("_law_keys", none)), "_law_keys", "_law_keys", defArgs s__law_keys, defBody s__law_keys, defScope s__law_keys, [], []⟩,
  ⟨(fun K => He.fAd K ("_law_references", none)), "_law_references", "_law_references", defArgs s__law_references, defBody s__law_references, defScope s__law_references, [], []⟩,
  ⟨(fun K => He.fAd K ("_law_schema", none)), "_law_schema", "_law_schema", defArgs s__law_schema, defBody s__law_schema, defScope s__law_schema, [], []⟩,
  ⟨(fun K => He.fAd K ("_law_rows", none)), "_law_rows", "_law_rows", defArgs s__law_rows, defBody s__law_rows, defScope s__law_rows, [], []⟩,
  ⟨(fun K => He.fAd K ("_law_is_name", none)), "_law_is_name", "_law_is_name", defArgs s__law_is_name, defBody s__law_is_name, defScope s__law_is_name, [], []⟩,
  ⟨(fun K => He.fAd K ("_law_are_columns", none)), "_law_are_columns", "_law_are_columns", defArgs s__law_are_columns, defBody s__law_are_columns, defScope s__law_are_columns, [], []⟩,
  ⟨(fun K => He.fAd K ("_law_is_key", none)), "_law_is_key", "_law_is_key", defArgs s__law_is_key, defBody s__law_is_key, defScope s__law_is_key, [], []⟩,
  ⟨(fun K => He.fAd K ("_law_is_reference", none)), "_law_is_reference", "_law_is_reference", defArgs s__law_is_reference, defBody s__law_is_reference, defScope s__law_is_reference, [], []⟩,
  ⟨(fun K => He.fAd K ("_law_taken", none)), "_law_taken", "_law_taken", defArgs s__law_taken, defBody s__law_taken, defScope s__law_taken, [], []⟩,
  ⟨(fun K => He.fAd K ("_law_wrong", none)), "_law_wrong", "_law_wrong", defArgs s__law_wrong, defBody s__law_wrong, defScope s__law_wrong, [], []⟩,
  ⟨(fun K => He.fAd K ("_law_told", none)), "_law_told", "_law_told", defArgs s__law_told, defBody s__law_told, defScope s__law_told, [], []⟩,
  ⟨(fun K => He.fAd K ("_law_signs", none)), "_law_signs", "_law_signs", defArgs s__law_signs, defBody s__law_signs, defScope s__law_signs, [], []⟩,
  ⟨(fun K => He.fAd K ("_law_pieces", none)), "_law_pieces", "_law_pieces", defArgs s__law_pieces, defBody s__law_pieces, defScope s__law_pieces, [], []⟩,
  ⟨(fun K => He.fAd K ("law", none)), "law", "law", defArgs s_law, defBody s_law, defScope s_law, [], []⟩]
def faAll : List He.Fa := [.free "len", .free "all", .free "any", .free "tuple", .free "list", .free "str", .free "set", .free "isinstance", .cls "Rows", .cls "Table", .cls "Schema", .noat "Rows" "_rows", .noat "Rows" "_at", .noat "Table" "name", .noat "Table" "columns", .noat "Table" "unique", .noat "Table" "refers", .noat "Schema" "tables", .noat "Schema" "_text", .glo "Schema", .glo "Table", .int "MOST_TABLES" 5, .int "MOST_COLUMNS" 5, .int "MOST_KEYS" 3, .int "MOST_KEY_COLUMNS" 3, .int "MOST_REFERENCES" 2, .free "max", .free "min", .free "abs", .free "range", .free "int", .free "dict", .free "sorted", .free "repr", .free "ValueError", .free "enumerate", .glo "CountError", .glo "InvalidText", .glo "has_all", .glo "are_different", .glo "is_name", .mkr "Rows", .glo "Rows", .meth "Rows" "all_read", .meth "Rows" "begins", .meth "Rows" "words", .meth "Rows" "need", .meth "Rows" "new_name", .meth "Rows" "exactly", .glo "read_columns", .glo "read_keys", .glo "read_reference", .glo "read_references", .mkr "Table", .glo "read_table", .glo "read_tables", .glo "table_rows", .mkr "Schema", .meth "Schema" "__str__", .glo "_law_take", .glo "_law_feed", .glo "_law_pick", .glo "_law_words", .glo "_law_mixed", .glo "_law_keys", .glo "_law_rows", .glo "_law_references", .glo "_law_schema", .glo "UnknownTable", .meth "Schema" "table", .glo "_law_is_name", .glo "_law_are_columns", .glo "_law_is_key", .glo "_law_told", .glo "_law_is_reference", .glo "_law_taken", .glo "_law_wrong", .glo "_law_signs", .glo "_law_pieces", .glo "law"]
structure ExR (K : PySem.W.Frag) : Prop where
  oeI : (oexB K (He.ga K "InvalidText")) = true
  xiI : (xinitB K (He.ga K "InvalidText")) = true
  noI : (decide (PySem.W.findIn K (.ref (He.ga K "InvalidText")) "row" = some none)) = true
  rdS : (PySem.W.readsIn K (He.ga K "Schema") (.type "type")) = true
  wrS : (He5.wrapB K (He.ga K "Schema") "classmethod" "classmethod.__get__" "parse") = true
  wfS : (PySem.W.fnIn K (He5.wf K (He.ga K "Schema") "classmethod" "parse")) = true
  nT : (decide ((He.ga K "Table") ≠ (He.ga K "Rows"))) = true
  nS : (decide ((He.ga K "Schema") ≠ (He.ga K "Rows"))) = true
  nTS : (decide ((He.ga K "Table") ≠ (He.ga K "Schema"))) = true
  oeU : (oexB K (He.ga K "UnknownTable")) = true
  xiU : (xinitB K (He.ga K "UnknownTable")) = true
  noU : (decide (PySem.W.findIn K (.ref (He.ga K "UnknownTable")) "name" = some none)) = true
  xfI : (xfB K (He.ga K "InvalidText")) = true
  exI : (decide (PySem.W.exmOne K (.ref (He.ga K "InvalidText")) (.ref (He.ga K "CountError")) = some true)) = true
  ecI : (excB K (He.ga K "InvalidText")) = true
  isV : (decide (PySem.W.kitOne K (.ref (He.ga K "InvalidText")) (.type "ValueError") = some true)) = true
  scl : (decide (PySem.W.findIn K (.ref (He.ga K "Schema")) "__class__" = some (some (.builtin "object.__class__")))) = true
  smo : (decide (PySem.W.mroIn K (He.ga K "Schema") (.type "object") = some true)) = true
def exL (K : PySem.W.Frag) : Bool := oexB K (He.ga K "InvalidText") && (xinitB K (He.ga K "InvalidText") && (decide (PySem.W.findIn K (.ref (He.ga K "InvalidText")) "row" = some none) && (PySem.W.readsIn K (He.ga K "Schema") (.type "type") && (He5.wrapB K (He.ga K "Schema") "classmethod" "classmethod.__get__" "parse" && (PySem.W.fnIn K (He5.wf K (He.ga K "Schema") "classmethod" "parse") && (decide ((He.ga K "Table") ≠ (He.ga K "Rows")) && (decide ((He.ga K "Schema") ≠ (He.ga K "Rows")) && (decide ((He.ga K "Table") ≠ (He.ga K "Schema")) && (oexB K (He.ga K "UnknownTable") && (xinitB K (He.ga K "UnknownTable") && (decide (PySem.W.findIn K (.ref (He.ga K "UnknownTable")) "name" = some none) && (xfB K (He.ga K "InvalidText") && (decide (PySem.W.exmOne K (.ref (He.ga K "InvalidText")) (.ref (He.ga K "CountError")) = some true) && (excB K (He.ga K "InvalidText") && (decide (PySem.W.kitOne K (.ref (He.ga K "InvalidText")) (.type "ValueError") = some true) && (decide (PySem.W.findIn K (.ref (He.ga K "Schema")) "__class__" = some (some (.builtin "object.__class__"))) && (decide (PySem.W.mroIn K (He.ga K "Schema") (.type "object") = some true))))))))))))))))))
theorem exL_ok {K : PySem.W.Frag} (h : exL K = true) : ExR K := by
  unfold exL at h
  obtain ⟨h0, h⟩ := He.ba h
  obtain ⟨h1, h⟩ := He.ba h
  obtain ⟨h2, h⟩ := He.ba h
  obtain ⟨h3, h⟩ := He.ba h
  obtain ⟨h4, h⟩ := He.ba h
  obtain ⟨h5, h⟩ := He.ba h
  obtain ⟨h6, h⟩ := He.ba h
  obtain ⟨h7, h⟩ := He.ba h
  obtain ⟨h8, h⟩ := He.ba h
  obtain ⟨h9, h⟩ := He.ba h
  obtain ⟨h10, h⟩ := He.ba h
  obtain ⟨h11, h⟩ := He.ba h
  obtain ⟨h12, h⟩ := He.ba h
  obtain ⟨h13, h⟩ := He.ba h
  obtain ⟨h14, h⟩ := He.ba h
  obtain ⟨h15, h⟩ := He.ba h
  obtain ⟨h16, h⟩ := He.ba h
  exact ⟨h0, h1, h2, h3, h4, h5, h6, h7, h8, h9, h10, h11, h12, h13, h14, h15, h16, h⟩
def exK (K : PySem.W.Frag) : Bool := (faAll.all fun f => f.ok K) && exL K
structure Says (K : PySem.W.Frag) : Prop where
  fact : ∀ (i : Nat) {f : He.Fa}, faAll[i]? = some f → f.ok K = true
  ex : ExR K
  def_ : ∀ (i : Nat) {d : He5.DefA}, fnAll[i]? = some d → ∃ fd, L2.FunD K d.name d.qual d.params d.body d.scope (d.dvs K) (d.kws K) (d.at_ K) fd
theorem says_of {K : PySem.W.Frag} (c : SaysZ exK fnAll K) : Says K := by
  have c0 := He.ba (show (exK K && fnAll.all fun d => d.ok K) = true from congrArg (fun z : He.AlD => z.1) c)
  have c1 := He.ba (show ((faAll.all fun f => f.ok K) && exL K) = true from c0.1)
  refine ⟨fun i f h => List.all_eq_true.mp c1.1 f (List.mem_of_getElem? h), exL_ok c1.2, fun i d h => ?_⟩
  have e : fnAll.map (fun d => He5.fnA K (d.at_ K)) = fnAll.map He5.DefA.val := congrArg (fun z : He.AlD => z.2) c
  have e2 : (fnAll.map fun d => He5.fnA K (d.at_ K))[i]? = (fnAll.map He5.DefA.val)[i]? := by rw [e]
  rw [List.getElem?_map, List.getElem?_map, h] at e2
  exact He5.DefA.funD (Option.some.inj e2) (List.all_eq_true.mp c0.2 d (List.mem_of_getElem? h))
def d1 : He5.DefA := fnAll[1]
def d2 : He5.DefA := fnAll[2]
def d3 : He5.DefA := fnAll[3]
def d4 : He5.DefA := fnAll[4]
def d5 : He5.DefA := fnAll[5]
def d6 : He5.DefA := fnAll[6]
def d7 : He5.DefA := fnAll[7]
def d8 : He5.DefA := fnAll[8]
def d9 : He5.DefA := fnAll[9]
def d10 : He5.DefA := fnAll[10]
def d12 : He5.DefA := fnAll[12]
def d13 : He5.DefA := fnAll[13]
def d14 : He5.DefA := fnAll[14]
def d15 : He5.DefA := fnAll[15]
def d16 : He5.DefA := fnAll[16]
def d18 : He5.DefA := fnAll[18]
def d19 : He5.DefA := fnAll[19]
def d20 : He5.DefA := fnAll[20]
def d21 : He5.DefA := fnAll[21]
def d22 : He5.DefA := fnAll[22]
def d23 : He5.DefA := fnAll[23]
def d24 : He5.DefA := fnAll[24]
def d25 : He5.DefA := fnAll[25]
def d26 : He5.DefA := fnAll[26]
def d27 : He5.DefA := fnAll[27]
def d28 : He5.DefA := fnAll[28]
def d29 : He5.DefA := fnAll[29]
def d30 : He5.DefA := fnAll[30]
def d31 : He5.DefA := fnAll[31]
def d32 : He5.DefA := fnAll[32]
def d33 : He5.DefA := fnAll[33]
def d34 : He5.DefA := fnAll[34]
def d35 : He5.DefA := fnAll[35]
def d36 : He5.DefA := fnAll[36]
def d37 : He5.DefA := fnAll[37]
def d38 : He5.DefA := fnAll[38]
def d39 : He5.DefA := fnAll[39]
def d40 : He5.DefA := fnAll[40]
def d41 : He5.DefA := fnAll[41]
def d42 : He5.DefA := fnAll[42]
def d43 : He5.DefA := fnAll[43]
def d44 : He5.DefA := fnAll[44]
def d45 : He5.DefA := fnAll[45]
theorem facts {P : Program} {w : World} {K : PySem.W.Frag} {h : Heap} {mg : Str → Option Value} {f : Addr} (X : K.In h) (G : h.Ns mainGlobals mg) (hfa : mg ("law" : Str) = some (.ref f)) (c : Says K) :
    ∃ fd : FuncData, (∀ (s : Shared) (v : Value), BindsTo s fd ⟨[v], []⟩ [("script", v)]) ∧ ∀ base : Heap, K.In base → base.Ns mainGlobals mg → FnOk P w K mg base (L2.CX P w) 10 f fd ["script"] (sp_law K) := by
  obtain ⟨fdL, FL⟩ := c.def_ 45 (d := d45) rfl
  have eL := hfa.symm.trans (He.glo_ok X G (c.fact 79 rfl))
  cases eL
  have b := FunD.bindsA (ps := ["script"]) FL fun _ _ _ _ _ _ us hl => match us, hl with | [_], _ => rfl
  refine ⟨fdL, fun s v => b s [v] rfl, fun base _ _ => ?_⟩
  have e := c.ex
  have T0 : Txt K mg (He.ga K "Rows") (He.ga K "Table") (He.ga K "Schema") := {
    b_len := (He.free_ok X G (c.fact 0 rfl))
    b_all := (He.free_ok X G (c.fact 1 rfl))
    b_any := (He.free_ok X G (c.fact 2 rfl))
    b_tuple := (He.free_ok X G (c.fact 3 rfl))
    b_list := (He.free_ok X G (c.fact 4 rfl))
    b_str := (He.free_ok X G (c.fact 5 rfl))
    b_set := (He.free_ok X G (c.fact 6 rfl))
    b_isinstance := (He.free_ok X G (c.fact 7 rfl))
    clR := (He.cls_ok (c.fact 8 rfl))
    clT := (He.cls_ok (c.fact 9 rfl))
    clS := (He.cls_ok (c.fact 10 rfl))
    naR1 := (He.noat_ok (c.fact 11 rfl))
    naR2 := (He.noat_ok (c.fact 12 rfl))
    naT1 := (He.noat_ok (c.fact 13 rfl))
    naT2 := (He.noat_ok (c.fact 14 rfl))
    naT3 := (He.noat_ok (c.fact 15 rfl))
    naT4 := (He.noat_ok (c.fact 16 rfl))
    naS1 := (He.noat_ok (c.fact 17 rfl))
    naS2 := (He.noat_ok (c.fact 18 rfl))
    g_Schema := (He.glo_ok X G (c.fact 19 rfl))
    g_Table := (He.glo_ok X G (c.fact 20 rfl))
    g_MOST_TABLES := (He.int_ok X G (c.fact 21 rfl))
    g_MOST_COLUMNS := (He.int_ok X G (c.fact 22 rfl))
    g_MOST_KEYS := (He.int_ok X G (c.fact 23 rfl))
    g_MOST_KEY_COLUMNS := (He.int_ok X G (c.fact 24 rfl))
    g_MOST_REFERENCES := (He.int_ok X G (c.fact 25 rfl))
    nT := of_decide_eq_true e.nT, nS := of_decide_eq_true e.nS, nTS := of_decide_eq_true e.nTS }
  have T1 : LTx K mg (He.ga K "Rows") (He.ga K "Table") (He.ga K "Schema") (He.ga K "InvalidText") := { T0 with
    b_max := (He.free_ok X G (c.fact 26 rfl))
    b_min := (He.free_ok X G (c.fact 27 rfl))
    b_abs := (He.free_ok X G (c.fact 28 rfl))
    b_range := (He.free_ok X G (c.fact 29 rfl))
    b_int := (He.free_ok X G (c.fact 30 rfl))
    b_dict := (He.free_ok X G (c.fact 31 rfl))
    b_sorted := (He.free_ok X G (c.fact 32 rfl))
    }
  have T4 : LT4 K mg (He.ga K "Rows") (He.ga K "Table") (He.ga K "Schema") (He.ga K "InvalidText") := { T1 with
    b_repr := (He.free_ok X G (c.fact 33 rfl))
    b_ValueError := (He.free_ok X G (c.fact 34 rfl))
    b_enumerate := (He.free_ok X G (c.fact 35 rfl))
    g_CountError := (He.glo_ok X G (c.fact 36 rfl))
    g_InvalidText := (He.glo_ok X G (c.fact 37 rfl))
    xf_row := xfB_ok e.xfI
    no_row := of_decide_eq_true e.noI
    exm := of_decide_eq_true e.exI
    exc := excB_ok e.ecI
    isV := of_decide_eq_true e.isV
    scl := of_decide_eq_true e.scl
    smo := of_decide_eq_true e.smo }
  obtain ⟨fd24, F24⟩ := c.def_ 24 (d := d24) rfl
  have B24 : Binds K fd24 ["columns", "others"] [] := FunD.bindsN F24 fun _ _ _ _ _ _ us hl => match us, hl with | [_, _], _ => rfl
  have c_has_all : Cal P w K mg base 1 "has_all" (sp_has_all K) := ⟨_, fd24, _, (ok_has_all (P := P) (w := w) (base := base) (He5.fun_of F24) T0), (He.glo_ok X G (c.fact 38 rfl)), F24.kp, B24⟩
  obtain ⟨fd23, F23⟩ := c.def_ 23 (d := d23) rfl
  have B23 : Binds K fd23 ["words", "columns"] [] := FunD.bindsN F23 fun _ _ _ _ _ _ us hl => match us, hl with | [_, _], _ => rfl
  have c_are_different : Cal P w K mg base 2 "are_different" (sp_are_diff K) := ⟨_, fd23, _, (ok_are_diff (P := P) (w := w) (base := base) (He5.fun_of F23) T0 c_has_all), (He.glo_ok X G (c.fact 39 rfl)), F23.kp, B23⟩
  obtain ⟨fd3, F3⟩ := c.def_ 3 (d := d3) rfl
  have B3 : Binds K fd3 ["word"] [] := FunD.bindsN F3 fun _ _ _ _ _ _ us hl => match us, hl with | [_], _ => rfl
  have c_is_name : Cal P w K mg base 1 "is_name" sp_is_name := ⟨_, fd3, _, (ok_is_name (P := P) (w := w) (base := base) (He5.fun_of F3) T0), (He.glo_ok X G (c.fact 40 rfl)), F3.kp, B3⟩
  obtain ⟨fd1, F1⟩ := c.def_ 1 (d := d1) rfl
  have B1 : Binds K fd1 ["self", "row"] [] := FunD.bindsN F1 fun _ _ _ _ _ _ us hl => match us, hl with | [_, _], _ => rfl
  have x_InvalidText : Xn P w K mg base 1 "InvalidText" "row" (He.ga K "InvalidText") := ⟨oexB_ok e.oeI, (He.glo_ok X G (c.fact 37 rfl)), _, fd1, _, of_decide_eq_true (He.ba e.xiI).1, of_decide_eq_true (He.ba e.xiI).2, (ok_InvalidText_init (P := P) (w := w) (base := base) (He5.fun_of F1) (oexB_ok e.oeI) (of_decide_eq_true e.noI)), B1⟩
  obtain ⟨fd4, F4⟩ := c.def_ 4 (d := d4) rfl
  have B4 : Binds K fd4 ["self", "text"] [] := FunD.bindsN F4 fun _ _ _ _ _ _ us hl => match us, hl with | [_, _], _ => rfl
  have m_Rows : Mak P w K mg base 1 "Rows" (He.ga K "Rows") (sp_Rows_init (He.ga K "Rows")) := ⟨_, fd4, _, He.mkr_ok (c.fact 41 rfl), (ok_Rows_init (P := P) (w := w) (base := base) (He5.fun_of F4) T0), (He.glo_ok X G (c.fact 42 rfl)), B4⟩
  obtain ⟨fd5, F5⟩ := c.def_ 5 (d := d5) rfl
  have B5 : Binds K fd5 ["self"] [] := FunD.bindsN F5 fun _ _ _ _ _ _ us hl => match us, hl with | [_], _ => rfl
  have c_Rows_all_read : Met P w K mg base 1 (He.ga K "Rows") "all_read" (sp_all_read (He.ga K "Rows")) := ⟨_, fd5, _, (He.cls_ok (c.fact 8 rfl)), He.meth_ok (c.fact 43 rfl), (ok_all_read (P := P) (w := w) (base := base) (He5.fun_of F5) T0), B5⟩
  obtain ⟨fd6, F6⟩ := c.def_ 6 (d := d6) rfl
  have B6 : Binds K fd6 ["self", "start"] [] := FunD.bindsN F6 fun _ _ _ _ _ _ us hl => match us, hl with | [_, _], _ => rfl
  have c_Rows_begins : Met P w K mg base 2 (He.ga K "Rows") "begins" (sp_begins (He.ga K "Rows")) := ⟨_, fd6, _, (He.cls_ok (c.fact 8 rfl)), He.meth_ok (c.fact 44 rfl), (ok_begins (P := P) (w := w) (base := base) (He5.fun_of F6) T0 c_Rows_all_read), B6⟩
  obtain ⟨fd7, F7⟩ := c.def_ 7 (d := d7) rfl
  have B7 : Binds K fd7 ["self", "start"] [] := FunD.bindsN F7 fun _ _ _ _ _ _ us hl => match us, hl with | [_, _], _ => rfl
  have c_Rows_words : Met P w K mg base 3 (He.ga K "Rows") "words" (sp_words (He.ga K "Rows") (He.ga K "InvalidText")) := ⟨_, fd7, _, (He.cls_ok (c.fact 8 rfl)), He.meth_ok (c.fact 45 rfl), (ok_words (P := P) (w := w) (base := base) (He5.fun_of F7) T0 c_Rows_begins x_InvalidText), B7⟩
  obtain ⟨fd8, F8⟩ := c.def_ 8 (d := d8) rfl
  have B8 : Binds K fd8 ["self", "holds"] [] := FunD.bindsN F8 fun _ _ _ _ _ _ us hl => match us, hl with | [_, _], _ => rfl
  have c_Rows_need : Met P w K mg base 3 (He.ga K "Rows") "need" (sp_need (He.ga K "Rows") (He.ga K "InvalidText")) := ⟨_, fd8, _, (He.cls_ok (c.fact 8 rfl)), He.meth_ok (c.fact 46 rfl), (ok_need (P := P) (w := w) (base := base) (He5.fun_of F8) T0 x_InvalidText), B8⟩
  obtain ⟨fd9, F9⟩ := c.def_ 9 (d := d9) rfl
  have B9 : Binds K fd9 ["self", "start", "taken"] [] := FunD.bindsN F9 fun _ _ _ _ _ _ us hl => match us, hl with | [_, _, _], _ => rfl
  have c_Rows_new_name : Met P w K mg base 4 (He.ga K "Rows") "new_name" (sp_new_name K (He.ga K "Rows") (He.ga K "InvalidText")) := ⟨_, fd9, _, (He.cls_ok (c.fact 8 rfl)), He.meth_ok (c.fact 47 rfl), (ok_new_name (P := P) (w := w) (base := base) (He5.fun_of F9) T0 c_Rows_words c_Rows_need c_is_name), B9⟩
  obtain ⟨fd10, F10⟩ := c.def_ 10 (d := d10) rfl
  have B10 : Binds K fd10 ["self", "row"] [] := FunD.bindsN F10 fun _ _ _ _ _ _ us hl => match us, hl with | [_, _], _ => rfl
  have c_Rows_exactly : Met P w K mg base 3 (He.ga K "Rows") "exactly" (sp_exactly (He.ga K "Rows") (He.ga K "InvalidText")) := ⟨_, fd10, _, (He.cls_ok (c.fact 8 rfl)), He.meth_ok (c.fact 48 rfl), (ok_exactly (P := P) (w := w) (base := base) (He5.fun_of F10) T0 c_Rows_all_read x_InvalidText), B10⟩
  obtain ⟨fd21, F21⟩ := c.def_ 21 (d := d21) rfl
  have B21 : Binds K fd21 ["rows"] [] := FunD.bindsN F21 fun _ _ _ _ _ _ us hl => match us, hl with | [_], _ => rfl
  have c_read_columns : Cal P w K mg base 5 "read_columns" (sp_read_columns (He.ga K "Rows") (He.ga K "InvalidText")) := ⟨_, fd21, _, (ok_read_columns (P := P) (w := w) (base := base) (He5.fun_of F21) T0 c_Rows_begins c_Rows_need c_Rows_new_name), (He.glo_ok X G (c.fact 49 rfl)), F21.kp, B21⟩
  obtain ⟨fd22, F22⟩ := c.def_ 22 (d := d22) rfl
  have B22 : Binds K fd22 ["rows", "columns"] [] := FunD.bindsN F22 fun _ _ _ _ _ _ us hl => match us, hl with | [_, _], _ => rfl
  have c_read_keys : Cal P w K mg base 4 "read_keys" (sp_read_keys (He.ga K "Rows") (He.ga K "InvalidText")) := ⟨_, fd22, _, (ok_read_keys (P := P) (w := w) (base := base) (He5.fun_of F22) T0 c_Rows_begins c_Rows_need c_Rows_words c_are_different c_has_all), (He.glo_ok X G (c.fact 50 rfl)), F22.kp, B22⟩
  obtain ⟨fd26, F26⟩ := c.def_ 26 (d := d26) rfl
  have B26 : Binds K fd26 ["rows", "table", "above"] [] := FunD.bindsN F26 fun _ _ _ _ _ _ us hl => match us, hl with | [_, _, _], _ => rfl
  have c_read_reference : Cal P w K mg base 4 "read_reference" (sp_read_reference (He.ga K "Rows") (He.ga K "Table") (He.ga K "InvalidText")) := ⟨_, fd26, _, (ok_read_reference (P := P) (w := w) (base := base) (He5.fun_of F26) T0 c_Rows_begins c_Rows_need c_Rows_words c_are_different), (He.glo_ok X G (c.fact 51 rfl)), F26.kp, B26⟩
  obtain ⟨fd25, F25⟩ := c.def_ 25 (d := d25) rfl
  have B25 : Binds K fd25 ["rows", "table", "above"] [] := FunD.bindsN F25 fun _ _ _ _ _ _ us hl => match us, hl with | [_, _, _], _ => rfl
  have c_read_references : Cal P w K mg base 5 "read_references" (sp_read_references (He.ga K "Rows") (He.ga K "Table") (He.ga K "InvalidText")) := ⟨_, fd25, _, (ok_read_references (P := P) (w := w) (base := base) (He5.fun_of F25) T0 c_Rows_begins c_Rows_need c_read_reference), (He.glo_ok X G (c.fact 52 rfl)), F25.kp, B25⟩
  obtain ⟨fd12, F12⟩ := c.def_ 12 (d := d12) rfl
  have B12 : Binds K fd12 ["self", "name", "columns", "unique", "refers"] [] := FunD.bindsN F12 fun _ _ _ _ _ _ us hl => match us, hl with | [_, _, _, _, _], _ => rfl
  have m_Table : Mak P w K mg base 1 "Table" (He.ga K "Table") (sp_Table_init (He.ga K "Table")) := ⟨_, fd12, _, He.mkr_ok (c.fact 53 rfl), (ok_Table_init (P := P) (w := w) (base := base) (He5.fun_of F12) T0), (He.glo_ok X G (c.fact 20 rfl)), B12⟩
  obtain ⟨fd20, F20⟩ := c.def_ 20 (d := d20) rfl
  have B20 : Binds K fd20 ["rows", "above"] [] := FunD.bindsN F20 fun _ _ _ _ _ _ us hl => match us, hl with | [_, _], _ => rfl
  have c_read_table : Cal P w K mg base 6 "read_table" (sp_read_table (He.ga K "Rows") (He.ga K "Table") (He.ga K "InvalidText")) := ⟨_, fd20, _, (ok_read_table (P := P) (w := w) (base := base) (He5.fun_of F20) T0 c_Rows_need c_Rows_new_name c_Rows_exactly c_read_columns c_read_keys c_read_references m_Table), (He.glo_ok X G (c.fact 54 rfl)), F20.kp, B20⟩
  obtain ⟨fd19, F19⟩ := c.def_ 19 (d := d19) rfl
  have B19 : Binds K fd19 ["rows"] [] := FunD.bindsN F19 fun _ _ _ _ _ _ us hl => match us, hl with | [_], _ => rfl
  have c_read_tables : Cal P w K mg base 7 "read_tables" (sp_read_tables (He.ga K "Rows") (He.ga K "Table") (He.ga K "InvalidText")) := ⟨_, fd19, _, (ok_read_tables (P := P) (w := w) (base := base) (He5.fun_of F19) T0 c_Rows_all_read c_read_table), (He.glo_ok X G (c.fact 55 rfl)), F19.kp, B19⟩
  obtain ⟨fd18, F18⟩ := c.def_ 18 (d := d18) rfl
  have B18 : Binds K fd18 ["table"] [] := FunD.bindsN F18 fun _ _ _ _ _ _ us hl => match us, hl with | [_], _ => rfl
  have c_table_rows : Cal P w K mg base 1 "table_rows" (sp_table_rows (He.ga K "Table")) := ⟨_, fd18, _, (ok_table_rows (P := P) (w := w) (base := base) (He5.fun_of F18) T0), (He.glo_ok X G (c.fact 56 rfl)), F18.kp, B18⟩
  obtain ⟨fd13, F13⟩ := c.def_ 13 (d := d13) rfl
  have B13 : Binds K fd13 ["self", "tables"] [] := FunD.bindsN F13 fun _ _ _ _ _ _ us hl => match us, hl with | [_, _], _ => rfl
  have m_Schema : Mak P w K mg base 2 "Schema" (He.ga K "Schema") (sp_Schema_init (He.ga K "Schema") (He.ga K "Table")) := ⟨_, fd13, _, He.mkr_ok (c.fact 57 rfl), (ok_Schema_init (P := P) (w := w) (base := base) (He5.fun_of F13) T0 c_table_rows), (He.glo_ok X G (c.fact 19 rfl)), B13⟩
  obtain ⟨fd14, F14⟩ := c.def_ 14 (d := d14) rfl
  have B14 : Binds K fd14 ["cls", "text"] [] := FunD.bindsN F14 fun _ _ _ _ _ _ us hl => match us, hl with | [_, _], _ => rfl
  have k_Schema_parse : CMt P w K mg base 8 (He.ga K "Schema") "parse" (sp_parse (He.ga K "Table") (He.ga K "Schema") (He.ga K "InvalidText")) := ⟨_, _, _, cread_of2 e.rdS, He5.cmet_of e.wrS e.wfS, (((ok_parse (P := P) (w := w) (base := base) (He5.fun_of F14) T0 m_Rows m_Schema c_read_tables).raw B14 .nil).imp fun vs H Q E h => by rw [List.append_nil]; exact h)⟩
  obtain ⟨fd16, F16⟩ := c.def_ 16 (d := d16) rfl
  have B16 : Binds K fd16 ["self"] [] := FunD.bindsN F16 fun _ _ _ _ _ _ us hl => match us, hl with | [_], _ => rfl
  have c_Schema_str : Met P w K mg base 1 (He.ga K "Schema") "__str__" (sp_str (He.ga K "Table") (He.ga K "Schema")) := ⟨_, fd16, _, (He.cls_ok (c.fact 10 rfl)), He.meth_ok (c.fact 58 rfl), (ok_str (P := P) (w := w) (base := base) (He5.fun_of F16) T0), B16⟩
  obtain ⟨fd28, F28⟩ := c.def_ 28 (d := d28) rfl
  have B28 : Binds K fd28 ["feed", "many"] [] := FunD.bindsN F28 fun _ _ _ _ _ _ us hl => match us, hl with | [_, _], _ => rfl
  have c__law_take : Cal P w K mg base 1 "_law_take" sp_take := ⟨_, fd28, _, (ok_take (P := P) (w := w) (base := base) (He5.fun_of F28) T1), (He.glo_ok X G (c.fact 59 rfl)), F28.kp, B28⟩
  obtain ⟨fd27, F27⟩ := c.def_ 27 (d := d27) rfl
  have B27 : Binds K fd27 ["script", "k"] [] := FunD.bindsN F27 fun _ _ _ _ _ _ us hl => match us, hl with | [_, _], _ => rfl
  have c__law_feed : Cal P w K mg base 1 "_law_feed" (sp_feed K) := ⟨_, fd27, _, (ok_feed (P := P) (w := w) (base := base) (He5.fun_of F27) T1), (He.glo_ok X G (c.fact 60 rfl)), F27.kp, B27⟩
  obtain ⟨fd29, F29⟩ := c.def_ 29 (d := d29) rfl
  have B29 : Binds K fd29 ["feed", "some"] [] := FunD.bindsN F29 fun _ _ _ _ _ _ us hl => match us, hl with | [_, _], _ => rfl
  have c__law_pick_t : Cal P w K mg base 2 "_law_pick" sp_pick := ⟨_, fd29, _, (ok_pick (P := P) (w := w) (base := base) (He5.fun_of F29) T1 c__law_take), (He.glo_ok X G (c.fact 61 rfl)), F29.kp, B29⟩
  obtain ⟨fd30, F30⟩ := c.def_ 30 (d := d30) rfl
  have B30 : Binds K fd30 ["feed", "size"] [] := FunD.bindsN F30 fun _ _ _ _ _ _ us hl => match us, hl with | [_, _], _ => rfl
  have c__law_words : Cal P w K mg base 2 "_law_words" sp_words2 := ⟨_, fd30, _, (ok_words2 (P := P) (w := w) (base := base) (He5.fun_of F30) T1 c__law_take), (He.glo_ok X G (c.fact 62 rfl)), F30.kp, B30⟩
  obtain ⟨fd31, F31⟩ := c.def_ 31 (d := d31) rfl
  have B31 : Binds K fd31 ["feed", "some"] [] := FunD.bindsN F31 fun _ _ _ _ _ _ us hl => match us, hl with | [_, _], _ => rfl
  have c__law_mixed : Cal P w K mg base 2 "_law_mixed" (sp_mixed K) := ⟨_, fd31, _, (ok_mixed (P := P) (w := w) (base := base) (He5.fun_of F31) T1 c__law_take), (He.glo_ok X G (c.fact 63 rfl)), F31.kp, B31⟩
  obtain ⟨fd32, F32⟩ := c.def_ 32 (d := d32) rfl
  have B32 : Binds K fd32 ["feed", "columns"] [] := FunD.bindsN F32 fun _ _ _ _ _ _ us hl => match us, hl with | [_, _], _ => rfl
  have c__law_keys : Cal P w K mg base 3 "_law_keys" sp_keys := ⟨_, fd32, _, (ok_keys (P := P) (w := w) (base := base) (He5.fun_of F32) T1 c__law_take c__law_mixed), (He.glo_ok X G (c.fact 64 rfl)), F32.kp, B32⟩
  obtain ⟨fd35, F35⟩ := c.def_ 35 (d := d35) rfl
  have B35 : Binds K fd35 ["tables"] [] := FunD.bindsN F35 fun _ _ _ _ _ _ us hl => match us, hl with | [_], _ => rfl
  have c__law_rows : Cal P w K mg base 1 "_law_rows" sp_rows := ⟨_, fd35, _, (ok_rows (P := P) (w := w) (base := base) (He5.fun_of F35) T1), (He.glo_ok X G (c.fact 65 rfl)), F35.kp, B35⟩
  obtain ⟨fd29, F29⟩ := c.def_ 29 (d := d29) rfl
  have B29 : Binds K fd29 ["feed", "some"] [] := FunD.bindsN F29 fun _ _ _ _ _ _ us hl => match us, hl with | [_, _], _ => rfl
  have c__law_pick : Cal P w K mg base 2 "_law_pick" sp_pickL := ⟨_, fd29, _, (ok_pickL (P := P) (w := w) (base := base) (He5.fun_of F29) T1 c__law_take), (He.glo_ok X G (c.fact 61 rfl)), F29.kp, B29⟩
  obtain ⟨fd33, F33⟩ := c.def_ 33 (d := d33) rfl
  have B33 : Binds K fd33 ["feed", "name", "columns", "keys", "above"] [] := FunD.bindsN F33 fun _ _ _ _ _ _ us hl => match us, hl with | [_, _, _, _, _], _ => rfl
  have c__law_references : Cal P w K mg base 3 "_law_references" sp_refsD := ⟨_, fd33, _, (ok_refsD (P := P) (w := w) (base := base) (He5.fun_of F33) T1 c__law_take c__law_mixed c__law_pick), (He.glo_ok X G (c.fact 66 rfl)), F33.kp, B33⟩
  obtain ⟨fd34, F34⟩ := c.def_ 34 (d := d34) rfl
  have B34 : Binds K fd34 ["feed"] [] := FunD.bindsN F34 fun _ _ _ _ _ _ us hl => match us, hl with | [_], _ => rfl
  have c__law_schema : Cal P w K mg base 4 "_law_schema" sp_schema := ⟨_, fd34, _, (ok_schemaD (P := P) (w := w) (base := base) (He5.fun_of F34) T1 c__law_take c__law_mixed c__law_pick c__law_words c__law_keys c__law_references), (He.glo_ok X G (c.fact 67 rfl)), F34.kp, B34⟩
  obtain ⟨fd2, F2⟩ := c.def_ 2 (d := d2) rfl
  have B2 : Binds K fd2 ["self", "name"] [] := FunD.bindsN F2 fun _ _ _ _ _ _ us hl => match us, hl with | [_, _], _ => rfl
  have x_UnknownTable : Xn P w K mg base 1 "UnknownTable" "name" (He.ga K "UnknownTable") := ⟨oexB_ok e.oeU, (He.glo_ok X G (c.fact 68 rfl)), _, fd2, _, of_decide_eq_true (He.ba e.xiU).1, of_decide_eq_true (He.ba e.xiU).2, (ok_UnknownTable_init (P := P) (w := w) (base := base) (He5.fun_of F2) (oexB_ok e.oeU) (of_decide_eq_true e.noU)), B2⟩
  obtain ⟨fd15, F15⟩ := c.def_ 15 (d := d15) rfl
  have B15 : Binds K fd15 ["self", "name"] [] := FunD.bindsN F15 fun _ _ _ _ _ _ us hl => match us, hl with | [_, _], _ => rfl
  have c_Schema_table : Met P w K mg base 3 (He.ga K "Schema") "table" (sp_table (He.ga K "Table") (He.ga K "Schema") (He.ga K "UnknownTable")) := ⟨_, fd15, _, (He.cls_ok (c.fact 10 rfl)), He.meth_ok (c.fact 69 rfl), (ok_table (P := P) (w := w) (base := base) (He5.fun_of F15) T1 x_UnknownTable), B15⟩
  obtain ⟨fd36, F36⟩ := c.def_ 36 (d := d36) rfl
  have B36 : Binds K fd36 ["word"] [] := FunD.bindsN F36 fun _ _ _ _ _ _ us hl => match us, hl with | [_], _ => rfl
  have c__law_is_name : Cal P w K mg base 1 "_law_is_name" sp_isname4 := ⟨_, fd36, _, (ok_isname4 (P := P) (w := w) (base := base) (He5.fun_of F36) T1), (He.glo_ok X G (c.fact 70 rfl)), F36.kp, B36⟩
  obtain ⟨fd37, F37⟩ := c.def_ 37 (d := d37) rfl
  have B37 : Binds K fd37 ["part", "columns"] [] := FunD.bindsN F37 fun _ _ _ _ _ _ us hl => match us, hl with | [_, _], _ => rfl
  have c__law_are_columns : Cal P w K mg base 1 "_law_are_columns" (sp_arecols K) := ⟨_, fd37, _, (ok_arecols (P := P) (w := w) (base := base) (He5.fun_of F37) T1), (He.glo_ok X G (c.fact 71 rfl)), F37.kp, B37⟩
  obtain ⟨fd38, F38⟩ := c.def_ 38 (d := d38) rfl
  have B38 : Binds K fd38 ["key", "columns", "keys"] [] := FunD.bindsN F38 fun _ _ _ _ _ _ us hl => match us, hl with | [_, _, _], _ => rfl
  have c__law_is_key : Cal P w K mg base 2 "_law_is_key" (sp_iskey K) := ⟨_, fd38, _, (ok_iskey (P := P) (w := w) (base := base) (He5.fun_of F38) T1 c__law_are_columns), (He.glo_ok X G (c.fact 72 rfl)), F38.kp, B38⟩
  obtain ⟨fd42, F42⟩ := c.def_ 42 (d := d42) rfl
  have B42 : Binds K fd42 ["text"] [] := FunD.bindsN F42 fun _ _ _ _ _ _ us hl => match us, hl with | [_], _ => rfl
  have c__law_told : Cal P w K mg base 9 "_law_told" sp_told4 := ⟨_, fd42, _, (ok_told4 (P := P) (w := w) (base := base) (He5.fun_of F42) T4 k_Schema_parse c_Schema_str), (He.glo_ok X G (c.fact 73 rfl)), F42.kp, B42⟩
  obtain ⟨fd39, F39⟩ := c.def_ 39 (d := d39) rfl
  have B39 : Binds K fd39 ["words", "table", "above"] [] := FunD.bindsN F39 fun _ _ _ _ _ _ us hl => match us, hl with | [_, _, _], _ => rfl
  have c__law_is_reference : Cal P w K mg base 2 "_law_is_reference" sp_isref := ⟨_, fd39, _, (ok_isref (P := P) (w := w) (base := base) (He5.fun_of F39) T1 c__law_are_columns), (He.glo_ok X G (c.fact 74 rfl)), F39.kp, B39⟩
  obtain ⟨fd40, F40⟩ := c.def_ 40 (d := d40) rfl
  have B40 : Binds K fd40 ["words", "table", "above"] [] := FunD.bindsN F40 fun _ _ _ _ _ _ us hl => match us, hl with | [_, _, _], _ => rfl
  have c__law_taken : Cal P w K mg base 3 "_law_taken" sp_taken := ⟨_, fd40, _, (ok_taken (P := P) (w := w) (base := base) (He5.fun_of F40) T1 c__law_is_name c__law_is_key c__law_is_reference), (He.glo_ok X G (c.fact 75 rfl)), F40.kp, B40⟩
  obtain ⟨fd41, F41⟩ := c.def_ 41 (d := d41) rfl
  have B41 : Binds K fd41 ["text"] [] := FunD.bindsN F41 fun _ _ _ _ _ _ us hl => match us, hl with | [_], _ => rfl
  have c__law_wrong : Cal P w K mg base 4 "_law_wrong" sp_wrong4 := ⟨_, fd41, _, (ok_wrong4 (P := P) (w := w) (base := base) (He5.fun_of F41) T4 c__law_is_name c__law_taken), (He.glo_ok X G (c.fact 76 rfl)), F41.kp, B41⟩
  obtain ⟨fd43, F43⟩ := c.def_ 43 (d := d43) rfl
  have B43 : Binds K fd43 ["feed", "text"] [] := FunD.bindsN F43 fun _ _ _ _ _ _ us hl => match us, hl with | [_, _], _ => rfl
  have c__law_signs : Cal P w K mg base 3 "_law_signs" sp_signs4 := ⟨_, fd43, _, (ok_signs4 (P := P) (w := w) (base := base) (He5.fun_of F43) T1 c__law_take c__law_pick_t c__law_pick), (He.glo_ok X G (c.fact 77 rfl)), F43.kp, B43⟩
  obtain ⟨fd44, F44⟩ := c.def_ 44 (d := d44) rfl
  have B44 : Binds K fd44 ["feed", "text", "sep", "names"] [] := FunD.bindsN F44 fun _ _ _ _ _ _ us hl => match us, hl with | [_, _, _, _], _ => rfl
  have c__law_pieces : Cal P w K mg base 3 "_law_pieces" sp_pieces4 := ⟨_, fd44, _, (ok_pieces4 (P := P) (w := w) (base := base) (He5.fun_of F44) T1 c__law_take c__law_pick), (He.glo_ok X G (c.fact 78 rfl)), F44.kp, B44⟩
  exact (ok_law (P := P) (w := w) (base := base) (He5.fun_of FL) T4 c__law_feed c__law_take c__law_pick c__law_schema c__law_rows c__law_told c__law_wrong c__law_signs c__law_pieces)
end Cn
set_option Elab.async false
set_option linter.all false
set_option maxRecDepth 100000
set_option maxHeartbeats 0
namespace Cn
open PySem L2
def ob (s : PySem.W.SharedT) : He.AlD := obsZG 6 exK fnAll (HandSHeadRun.getT s)
theorem ob_eq (s : PySem.W.SharedT) : ob s = (hookZ 6 exK fnAll).obs s.abs := obsZ_eq (HandSHeadRun.getT_eq s)
theorem run (w : World) : HandSHeadRun.RunEq Rw (PySem.W.view Rw.prog [44]) (hookZ 6 exK fnAll) ob 6000 loose w := by
  intro os
  kernel_rfl
end Cn
set_option Elab.async false
set_option linter.all false
set_option maxRecDepth 100000
set_option maxHeartbeats 0
open PySem PySem.W PySem.Calls PyProof.Rows
theorem PySem.Challenge.cw_countonce_k04_wrong_rows_holds : PySem.Challenge.rw_countonce_k04_wrong_rows.Holds := by
  w_on; o_law
  refine HandSHeadRun.head_any (r := OpenLaw.row PySem.Challenge.rw_countonce_k04_wrong_rows) (q := view (OpenLaw.row PySem.Challenge.rw_countonce_k04_wrong_rows).prog [44]) (H := Cn.hookZ 6 Cn.exK Cn.fnAll) (ob := Cn.ob) (M := 6000) (loose := Cn.loose) (d := HandSHeadRun.topDef (OpenLaw.row PySem.Challenge.rw_countonce_k04_wrong_rows).prog 44) (kwd := []) Cn.ob_eq
    (by kernel_rfl) (fun s => by kernel_rfl) Cn.run (by kernel_rfl) (by kernel_rfl) (by kernel_rfl) (by rfl) (by first | assumption | decide +kernel) (by decide +kernel) ⟨rfl, rfl, rfl, rfl, rfl, by decide +kernel⟩ ?hw ?hc
  case hw => w_witness2
  case hc =>
    refine Cn.walkW (l := PySem.Challenge.rw_countonce_k04_wrong_rows) (n := 63) (k := 10) (x := "script") (CW := fun w => L2.CX (PySem.Challenge.rw_countonce_k04_wrong_rows).prog w) rfl (by decide) (by kernel_rfl) ⟨rfl, by decide, by decide⟩ ?F (fun _ _ _ _ _ h => by
      obtain ⟨_, _, _, _, _, _, _, _, _, _, _, _, z⟩ := h
      exact z.elim)
    intro w mg fa h Y G hmg0
    obtain ⟨K, KX, c⟩ := Y
    have hmg : mg ("law" : PySem.Str) = some (.ref fa) := by
      have e : (HandSHeadRun.topDef (OpenLaw.row PySem.Challenge.rw_countonce_k04_wrong_rows).prog 44).name = ("law" : PySem.Str) := by kernel_rfl
      rw [← e]
      exact hmg0
    obtain ⟨fd, hb, hF⟩ := Cn.facts (P := (PySem.Challenge.rw_countonce_k04_wrong_rows).prog) (w := w) KX G hmg (Cn.says_of c)
    exact ⟨K, fd, Cn.sp_law K, KX, hb, fun H a ns hl _ hS => ⟨a, ns, rfl, hS, fun _ => rfl⟩, hF⟩
