import PyProof.Rows.All
import Wide.All
import OpenK.AllK
import Wide.FinOn
import HandS.ForMost
import HandS.ForExc
import HandS.WordsExc
import HandS.Walk
import HandS.ExcInit
import HandS.ExcField
import HandS.ExcSuper
import HandS.TryMany
import HandS.CallSlots
import HandS.ClsMeth
import HandS.FStr
import HandS.IsInst
import HandS.OwnEq
import HandS.RaiseMore
import HandS.SetKeys
import HandS.Strs
import HandS.Zip
import HandS.Star
import HandS.Small
import HandS.Style
import HandS.Steps
import HandS.Defaults
import HandS.Head0
import HandS.Head1
import HandS.Head2
import HandS.Head3
import HandS.HeadEnd
import HandS.HeadHook1
import HandS.HeadHook2
import HandS.HeadNt
import HandS.ExcValue
import KE.KCallOwn
import KE.KExcIs
import HandS.ExcIs
import KE.GoesEnum
import KE.GoesMore
import HandS.Text
import HandS.Deep
import HandS.DictComp
import PyProof.P3In
import HandS.LawCells
import HandS.Evl
import KE.KStateDown
import KE.KExcInit
import PySem.Challenge.RW_countonce_k12_bounds_of_reports
set_option Elab.async false
set_option linter.all false
set_option maxRecDepth 100000
set_option maxHeartbeats 2000000
/-! Cn: shared ground: calls by bundles, texts as lists of signs, heaps. -/
namespace Cn
open PySem L2

/-! ### calls -/
structure Cal (P : Program) (w : World) (K : PySem.W.Frag) (mg : Str → Option Value) (base : Heap) (k : Nat) (x : Str) (sp : Sp) : Prop where
  ex : ∃ (f : Addr) (fd : FuncData) (ps : List Str), FnOk P w K mg base (L2.CX P w) k f fd ps sp ∧ mg x = some (.ref f) ∧ PySem.W.keepIn K (.ref f) = true ∧ Binds K fd ps []
structure Met (P : Program) (w : World) (K : PySem.W.Frag) (mg : Str → Option Value) (base : Heap) (k : Nat) (C : Addr) (m : Str) (sp : Sp) : Prop where
  ex : ∃ (f : Addr) (fd : FuncData) (ps : List Str), Cls K C ∧ Meth K C m f ∧ FnOk P w K mg base (L2.CX P w) k f fd ps sp ∧ Binds K fd ps []
structure Mak (P : Program) (w : World) (K : PySem.W.Frag) (mg : Str → Option Value) (base : Heap) (k : Nat) (x : Str) (C : Addr) (sp : Sp) : Prop where
  ex : ∃ (f : Addr) (fd : FuncData) (ps : List Str), Mk K C f ∧ FnOk P w K mg base (L2.CX P w) k f fd ps sp ∧ mg x = some (.ref C) ∧ Binds K fd ps []
section
variable {X : Cx} {k j : Nat} {C : Addr} {x m : Str} {sp : Sp} {p pos apos : Pos} {e o : Expr} {es : List Expr} {ta : TE} {t : TA} {E : XK}
theorem passX (hs : X.stack = X.env :: X.outer) (hf : X.env.frame = some X.env.locals) (hex : X.ex = []) {E : XK}
    (tk : Takes X (fun c d _ H => E c d H)) : Passes (L2.CX X.prog X.w) X E := passes_call tk fun _ _ _ _ h => h
theorem p_call (E : XK) (c : Cal X.prog X.w X.K X.mg X.base k x sp) (hr : Room j X.A) (hk : k ≤ j) (hg : Gl X x) (hx : Passes (L2.CX X.prog X.w) X E) (ha : PA X (e :: es) t)
    (hdb : (x == ("__debug__" : Str)) = false := by decide) (he : starEach (e :: es) X.env = (false, eval e X.env) :: starEach es X.env := by rfl) (hpl : (backTo pos (starEach es X.env)).any (·.1) = false := by rfl) :
    PE X (.Call (.Name x p) (e :: es) [] pos) (tCall sp [] E t) := by
  obtain ⟨f, fd, ps, F, hm, kp, b⟩ := c.ex
  exact pe_call F (hr.mono hk) hg hm kp b .nil hx ha hdb he hpl
theorem p_call0 (E : XK) (c : Cal X.prog X.w X.K X.mg X.base k x sp) (hr : Room j X.A) (hk : k ≤ j) (hg : Gl X x) (hx : Passes (L2.CX X.prog X.w) X E)
    (hdb : (x == ("__debug__" : Str)) = false := by decide) : PE X (.Call (.Name x p) [] [] pos) (tCall sp [] E tNil) := by
  obtain ⟨f, fd, ps, F, hm, kp, b⟩ := c.ex
  exact pe_call0 F (hr.mono hk) hg hm kp b .nil hx hdb
theorem p_make (E : XK) (c : Mak X.prog X.w X.K X.mg X.base k x C sp) (hr : Room j X.A) (hk : k + 1 ≤ j) (hg : Gl X x) (hx : Passes (L2.CX X.prog X.w) X E) (ha : PA X (e :: es) t)
    (hdb : (x == ("__debug__" : Str)) = false := by decide) (he : starEach (e :: es) X.env = (false, eval e X.env) :: starEach es X.env := by rfl) (hpl : (backTo pos (starEach es X.env)).any (·.1) = false := by rfl) :
    PE X (.Call (.Name x p) (e :: es) [] pos) (tMake C sp [] E t) := by
  obtain ⟨f, fd, ps, M, F, hm, b⟩ := c.ex
  exact pe_make M F (hr.mono hk) hg hm b .nil hx ha hdb he hpl
theorem p_meth {pl : Sem Bool} (E : XK) (c : Met X.prog X.w X.K X.mg X.base k C m sp) (hr : Room j X.A) (hk : k ≤ j) (hx : Passes (L2.CX X.prog X.w) X E) (he : PE X o ta) (ha : PA X (e :: es) t)
    (hst : starEach (e :: es) X.env = (false, eval e X.env) :: starEach es X.env := by rfl) (hpl : (backTo pos (starEach es X.env)).any (·.1) = false := by rfl)
    (ht : eval (.Call (.Attribute o m apos) (e :: es) [] pos) X.env = (do
      let ov ← eval o X.env
      standAt apos.atName
      let (f, first) ← holding [ov] (getMethod ov m pl)
      callWith pos f first (backTo pos (starEach (e :: es) X.env)) (backToKw pos (keywordEach [] X.env))) := by rfl) :
    PE X (.Call (.Attribute o m apos) (e :: es) [] pos) (tMeth C m sp [] E ta t) := by
  obtain ⟨f, fd, ps, hc, hm, F, b⟩ := c.ex
  exact pe_meth (pl := pl) he hc hm F (hr.mono hk) b .nil hx ha hst hpl ht
theorem p_meth0 {pl : Sem Bool} (E : XK) (c : Met X.prog X.w X.K X.mg X.base k C m sp) (hr : Room j X.A) (hk : k ≤ j) (hx : Passes (L2.CX X.prog X.w) X E) (he : PE X o ta)
    (ht : eval (.Call (.Attribute o m apos) [] [] pos) X.env = (do
      let ov ← eval o X.env
      standAt apos.atName
      let (f, first) ← holding [ov] (getMethod ov m pl)
      callWith pos f first (backTo pos (starEach [] X.env)) (backToKw pos (keywordEach [] X.env))) := by rfl) :
    PE X (.Call (.Attribute o m apos) [] [] pos) (tMeth C m sp [] E ta tNil) := by
  obtain ⟨f, fd, ps, hc, hm, F, b⟩ := c.ex
  exact pe_meth0 (pl := pl) he hc hm F (hr.mono hk) b .nil hx ht
end
end Cn
set_option Elab.async false
set_option linter.all false
set_option maxRecDepth 100000
set_option maxHeartbeats 2000000
namespace Cn
open PySem L2

/-! ### heaps -/
/-- all that was tracked, but at l, is as it was -/
def But (l : List Addr) (H H' : Hp) : Prop := ∀ a o, a ∉ l → H a = some o → H' a = some o
theorem But.refl {l : List Addr} {H : Hp} : But l H H := fun _ _ _ h => h
theorem But.trans {l : List Addr} {H H1 H2 : Hp} (a : But l H H1) (b : But l H1 H2) : But l H H2 := fun x o n h => b x o n (a x o n h)
theorem But.of {l : List Addr} {H H' : Hp} (a : But [] H H') : But l H H' := fun x o _ h => a x o (by simp) h
theorem But.more {l m : List Addr} {H H' : Hp} (a : But l H H') (h : ∀ x ∈ l, x ∈ m) : But m H H' := fun x o n e => a x o (fun z => n (h x z)) e
theorem But.new {l : List Addr} {H H' : Hp} {p : Addr} {o : HO} (a : But l H H') (h : H' p = none) : But l H (upd H' p o) := fun x u n e => by
  rw [upd_ne (ne_of_none (a x u n e) h)]
  exact a x u n e
theorem But.put {l : List Addr} {H H' : Hp} {p : Addr} {o : HO} (a : But l H H') (h : p ∈ l) : But l H (upd H' p o) := fun x u n e => by
  rw [upd_ne (fun z => n (by rw [z]; exact h))]
  exact a x u n e
/-- a new object, changed afterwards -/
theorem But.put0 {l : List Addr} {H H' : Hp} {p : Addr} {o : HO} (a : But l H H') (h : H p = none) : But l H (upd H' p o) := fun x u n e => by
  rw [upd_ne (fun z => by rw [z, h] at e; cases e)]
  exact a x u n e
theorem But.drop {l : List Addr} {p : Addr} {H H' : Hp} (a : But (p :: l) H H') (h : H p = none) : But l H H' := fun x o n e => a x o (fun z => by
  rcases List.mem_cons.mp z with z | z
  · rw [z, h] at e; cases e
  · exact n z) e
theorem But.at {l : List Addr} {H H' : Hp} {a : Addr} {o : HO} (b : But l H H') (h : H a = some o) (n : a ∉ l := by simp) : H' a = some o := b a o n h
theorem But.same {H H' : Hp} (b : But [] H H') : Same H H' := fun a o h => b a o (by simp) h
theorem But.free {H H' : Hp} {l : List Addr} (b : But l H H') {p : Addr} (h : H' p = none) (n : p ∉ l) : H p = none := by
  cases e : H p with
  | none => rfl
  | some o => rw [b p o n e] at h; cases h
theorem not1 {a b : Addr} (h : a ≠ b) : a ∉ [b] := by simpa using h
theorem But.at1 {p : Addr} {H H' : Hp} {a : Addr} {o : HO} (b : But [p] H H') (h : H a = some o) (n : a ≠ p) : H' a = some o := b a o (not1 n) h

/-! ### texts as lists of signs -/
def S (l : List Nat) : Str := ⟨l.toArray⟩
theorem tl_S (l : List Nat) : TL.tl (S l) = l := rfl
theorem S_tl (x : Str) : S (TL.tl x) = x := TL.mk_tl x
theorem S_inj {a b : List Nat} (h : S a = S b) : a = b := by
  have := congrArg TL.tl h
  exact this
theorem S_len (l : List Nat) : (S l).length = l.length := by rw [TL.len_tl]; rfl
theorem S_app (a b : List Nat) : S a ++ S b = S (a ++ b) := TL.ext_tl (by rw [TL.tl_append]; rfl)
theorem S_eq (x : Str) {l : List Nat} (h : TL.tl x = l) : x = S l := by rw [← h, S_tl]
abbrev sv (l : List Nat) : V := .str (S l)
/-- a list of texts, as values -/
def svs (ls : List (List Nat)) : List V := ls.map sv
theorem svs_len (ls : List (List Nat)) : (svs ls).length = ls.length := by simp [svs]
theorem svs_get {ls : List (List Nat)} {i : Nat} {x : V} (h : (svs ls)[i]? = some x) : ∃ l, ls[i]? = some l ∧ x = sv l := by
  unfold svs at h
  rw [List.getElem?_map] at h
  cases e : ls[i]? with
  | none => rw [e] at h; cases h
  | some l => rw [e] at h; exact ⟨l, rfl, (Option.some.inj h).symm⟩
theorem svs_at {ls : List (List Nat)} {i : Nat} {l : List Nat} (h : ls[i]? = some l) : (svs ls)[i]? = some (sv l) := by
  unfold svs
  rw [List.getElem?_map, h]; rfl
theorem svs_app (a b : List (List Nat)) : svs (a ++ b) = svs a ++ svs b := by simp [svs]
theorem svs_str (ls : List (List Nat)) : svs ls = (ls.map S).map V.str := by simp [svs]

/-! ### names of the module -/
section
variable {X : Cx}
theorem p_gint {x : Str} {i : Int} {pos : Pos} (hm : ∃ t, X.mg x = some (.int i t)) (hg : Gl X x := by rfl) (hd : (x == ("__debug__" : Str)) = false := by decide) : PE X (.Name x pos) (tC (.int i)) := by
  obtain ⟨t, hm⟩ := hm
  exact pe_glob hg hm ⟨_, rfl⟩ hd
end

/-! ### errors of one field -/
/-- C's __init__: self.f = v -/
def sp_exinit (C : Addr) (f : Str) : Sp := fun vs H Q _ => ∃ a v, vs = [.ref a, v] ∧ H a = some (exo a C none) ∧ ∀ d, H d = none → d ≠ a → Q .non (upd (upd H d (exd d [(f, v)])) a (exo a C (some d)))
structure Xn (P : Program) (w : World) (K : PySem.W.Frag) (mg : Str → Option Value) (base : Heap) (k : Nat) (x f : Str) (C : Addr) : Prop where
  oex : OexC K C
  gC : mg x = some (.ref C)
  init : ∃ (fI : Addr) (fd : FuncData) (ps : List Str), PySem.W.findIn K (.ref C) "__init__" = some (some (.ref fI)) ∧ PySem.W.typeIn K (.ref fI) = some (.type "function") ∧
    FnOk P w K mg base (L2.CX P w) k fI fd ps (sp_exinit C f) ∧ Binds K fd ps []
section
variable {X : Cx} {k j : Nat} {C : Addr} {x f : Str} {p pos pos' : Pos} {e : Expr} {te : TE} {W : WX}
theorem pa_weak {es : List Expr} {t : TA} (ha : PA X es t) : PA X es (fun σ H R => ∃ M : List V → Hp → Prop, t σ H M ∧ ∀ vs H1, M vs H1 → R vs H1) :=
  ⟨fun pos pins s σ H Q I h => by
    obtain ⟨M, h1, h2⟩ := h
    exact thn (ha.run pos pins s σ H M I h1) fun us s1 ⟨vs, H1, I1, r, m⟩ => ⟨vs, H1, I1, r, h2 vs H1 m⟩⟩
theorem p_raise (T : Xn X.prog X.w X.K X.mg X.base k x f C) (hr : Room j X.A) (hk : k + 1 ≤ j) (tk : Takes X W) (hg : Gl X x) (ha : PA X [e] (tCons te tNil)) (hc : X.calm = true := by rfl)
    (hdb : (x == ("__debug__" : Str)) = false := by decide) (he : starEach [e] X.env = (false, eval e X.env) :: starEach [] X.env := by rfl) (hpl : (backTo pos (starEach [] X.env)).any (·.1) = false := by rfl) :
    PS X (.Raise (some (.Call (.Name x p) [e] [] pos)) none pos') (fun _ σ H => te σ H fun v H1 => ∀ H' d, But [] H1 H' → H1 d = none → H' d = some (.xd [(f, v)]) → W (.ref C) (some d) σ H') := by
  obtain ⟨fI, fd, ps, iC, tI, F1, b⟩ := T.init
  have r := ps_raise (pos := pos') hc tk (pmk_oex (p := p) (pos := pos) (ds := []) (dvs := []) T.oex iC tI F1 (hr.mono hk) b .nil passL hg T.gC (pa_weak ha) hdb he hpl)
  refine ⟨fun pins s σ H D I h => r.run pins s σ H D I ⟨fun vs H1 => ∃ v, vs = [v] ∧ ∀ H' d, But [] H1 H' → H1 d = none → H' d = some (.xd [(f, v)]) → W (.ref C) (some d) σ H', ?_, ?_⟩⟩
  · show te σ H fun v H1 => ∃ v', [v] = [v'] ∧ _
    have e1 : (fun (v : V) (H1 : Hp) => ∃ v', [v] = [v'] ∧ ∀ H' d, But [] H1 H' → H1 d = none → H' d = some (.xd [(f, v')]) → W (.ref C) (some d) σ H') = (fun v H1 => ∀ H' d, But [] H1 H' → H1 d = none → H' d = some (.xd [(f, v)]) → W (.ref C) (some d) σ H') := by
      funext v H1
      refine propext ⟨fun ⟨v', e, h⟩ => ?_, fun h => ⟨v, rfl, h⟩⟩
      cases e
      exact h
    rw [e1]
    exact h
  · rintro vs H1 ⟨v, rfl, q⟩
    refine ⟨by show 1 ≤ 1000; decide, fun a ha => ⟨a, v, rfl, upd_same, fun d hd hda => ⟨rfl, d, [(f, v)], upd_same, ?_, ?_, ?_⟩⟩⟩
    · rw [upd_ne hda, upd_same]
    · rw [upd_ne hda] at hd; exact hd
    · have hd1 : H1 d = none := by rw [upd_ne hda] at hd; exact hd
      refine q _ d (fun b o _ e => ?_) hd1 upd_same
      have nb : b ≠ a := ne_of_none e ha
      have nd : b ≠ d := ne_of_none e hd1
      rw [upd_ne nd, del_ne nb, upd_ne nb, upd_ne nd, upd_ne nb]
      exact e
end
end Cn
set_option Elab.async false
set_option linter.all false
set_option maxRecDepth 100000
set_option maxHeartbeats 4000000
/-! Cn.B2: len(set(t)), t a tuple of texts. -/
namespace Cn
open PySem PySem.Spec PyProof.Rows L2

/-- the different ones of xs, as a set meets them -/
def met (xs : List Str) (i : Nat) : List Str := (xs.take i).foldl (fun σ k => if σ.any (· == k) then σ else σ ++ [k]) []
theorem met_step {xs : List Str} {i : Nat} (h : i < xs.length) : met xs (i + 1) = if (met xs i).any (· == xs[i]) then met xs i else met xs i ++ [xs[i]] := by
  have e : xs.take (i + 1) = xs.take i ++ [xs[i]] := by rw [List.take_add_one, List.getElem?_eq_getElem h]; rfl
  unfold met
  rw [e, List.foldl_append]; rfl
theorem met_le (xs : List Str) : ∀ i, i ≤ xs.length → (met xs i).length ≤ i
  | 0, _ => by simp [met]
  | i + 1, h => by
    have ih := met_le xs i (by omega)
    rw [met_step (by omega)]
    split
    · omega
    · rw [List.length_append, List.length_singleton]; omega
theorem met_has {xs : List Str} {i : Nat} (h : i < xs.length) (k : Str) : (met xs (i + 1)).any (· == k) = ((met xs i).any (· == k) || decide (k = xs[i])) := by
  rw [met_step h]
  by_cases q : (met xs i).any (· == xs[i]) = true
  · rw [if_pos q]
    by_cases e : k = xs[i]
    · rw [e, q]; simp
    · simp [e]
  · rw [if_neg q, List.any_append]
    by_cases e : k = xs[i]
    · simp [e]
    · have e' : (xs[i] == k) = false := beq_eq_false_iff_ne.mpr fun z => e z.symm
      simp [e, e']
theorem met_num {xs : List Str} {i : Nat} (h : i < xs.length) : (met xs (i + 1)).length = if (met xs i).any (· == xs[i]) then (met xs i).length else (met xs i).length + 1 := by
  rw [met_step h]
  split <;> simp
theorem str_item {us : List Value} {xs : List Str} (h : StrsAre us xs) : ∀ (i : Nat) (v : Value) (hi : i < xs.length), us[i]? = some v → ∃ t, v = .str xs[i] t := by
  induction h with
  | nil => intro i v hi; exact absurd hi (by simp)
  | cons x t r ih =>
    intro i v hi e
    cases i with
    | zero => exact ⟨t, (Option.some.inj e).symm⟩
    | succ i => exact ih i v (by simpa using hi) e

section
variable {prog : Program} {w : World} {A : Around} {R : Result → Shared → Prop} {it : Addr} {fp wr : List Addr} {G : Array GenState → Array GenState → Prop} {n : Nat} {P : Nat → Value → Prop} {St : Nat → Shared → Prop}
/-- the loop that fills the set at T from the iterator it -/
theorem fill_texts (V : WalksS prog w A.in1 it fp wr G n P St) (T : Addr) (nT : T ∉ fp) (xs : List Str) (hn : xs.length = n) (hb : n + 1 < scanBound) (hv : ∀ i v (hi : i < xs.length), P i v → ∃ t, v = .str xs[i] t) :
    ∀ (m i : Nat) (s : Shared), n - i = m → i ≤ n → St i s → s.heap.SetOf (PySem.strKind prog w) T (fun k => (met xs i).any (· == k)) (met xs i).length →
      (∀ s', Moved (T :: wr) G s s' → s'.heap.SetOf (PySem.strKind prog w) T (fun k => (met xs n).any (· == k)) (met xs n).length → R (.ok (.ret .none)) s') →
      codeAny (model prog w) A (.builtin "set.update.loop" ⟨[.ref T, .ref it], []⟩) R s := by
  have nW : T ∉ wr := fun z => nT (V.sub _ z)
  have up : ∀ b ∈ wr, b ∈ T :: wr := fun b z => List.mem_cons_of_mem _ z
  have carry : ∀ {i : Nat} {s s' : Shared}, Moved wr G s s' → s.heap.SetOf (PySem.strKind prog w) T (fun k => (met xs i).any (· == k)) (met xs i).length → s'.heap.SetOf (PySem.strKind prog w) T (fun k => (met xs i).any (· == k)) (met xs i).length :=
    fun {i s s'} mv ⟨o, es, ep, tb, ho, more⟩ => ⟨o, es, ep, tb, mv.heap T _ nW ho, more⟩
  intro m
  induction m with
  | zero =>
    intro i s hm hi st hS hR
    obtain rfl : i = n := by omega
    refine codeAny_builtin F.entry_set_update_loop ?_
    rw [Around.under_plainId F.plain_set_update_loop _]
    show wpAny _ A.in1 (pyNext (.ref it) >>= _) _ _ s
    refine wpAny_bind (V.done s _ _ st fun s' mv => ?_)
    show wpAny _ A.in1 (ret Value.none) _ _ s'
    exact wpAny_pure (hR s' (mv.mono up) (carry mv hS))
  | succ m ih =>
    intro i s hm hi st hS hR
    have lt : i < n := by omega
    have ltx : i < xs.length := by omega
    refine codeAny_builtin F.entry_set_update_loop ?_
    rw [Around.under_plainId F.plain_set_update_loop _]
    show wpAny _ A.in1 (pyNext (.ref it) >>= _) _ _ s
    refine wpAny_bind (V.item i s _ _ lt st fun v s' hP st' mv => ?_)
    obtain ⟨tk, rfl⟩ := hv i v ltx hP
    have hS' := carry (i := i) mv hS
    show wpAny _ A.in1 (holding [Value.str xs[i] tk] (setAdd T (.str xs[i] tk)) >>= _) _ _ s'
    refine wpAny_bind (wpAny_holding ?_)
    unfold setAdd
    refine wpAny_holding (wpAny_bind ((PySem.strKind prog w).pyHash (k := xs[i]) (strKind_is _ _ _ _) ?_))
    have room : (met xs i).length + 1 < scanBound := by have := met_le xs i (by omega); omega
    refine wpAny_setAddHashed_of (knd := PySem.strKind prog w) (s := { s' with toks := s'.toks + 1 }) (strKind_is _ _ _ _) rfl hS' room fun h' sb hS2 => ?_
    have hS3 : h'.SetOf (PySem.strKind prog w) T (fun k => (met xs (i + 1)).any (· == k)) (met xs (i + 1)).length := SetOf_congr hS2 (fun k => (met_has ltx k).symm) (met_num ltx).symm
    refine wpAny_pure ⟨plainId_quiet F.plain_set_update_loop _, ih (i + 1) _ (by omega) lt (V.frame _ s' _ _ st' (Nat.le_succ _) fun b z o e => ?_) hS3 fun s2 mv2 hS4 => ?_⟩
    · rw [sb.2 b (fun q : b = T => nT (by rw [← q]; exact z))]; exact e
    · refine hR s2 (Moved.trans V.gtrans ((mv.mono up).then_heap (Nat.le_succ _) fun b o z e => ?_) mv2) hS4
      rw [sb.2 b (fun q : b = T => z (by rw [q]; exact List.mem_cons_self))]; exact e
end
section
variable {prog : Program} {w : World} {A : Around} {E : Value → Shared → Prop} {s : Shared}
abbrev newSet (led : Bool) : Obj := { cls := .type "set", dict := none, data := .set #[] 0 (.fresh 0 0 led) }
/-- set(t) -/
theorem set_of_tuple {l : Addr} {its : Array Value} {xs : List Str} {Q : Value → Shared → Prop} (hh : A.handled = none) (hl : s.heap.IsTuple l its) (hi : StrsAre its.toList xs) (hb : xs.length + 1 < scanBound)
    (h : ∀ (h' : Heap) (tk : Nat), h'.SetOf (PySem.strKind prog w) s.heap.objs.size (fun k => (met xs xs.length).any (· == k)) (met xs xs.length).length → (∀ b o, b < s.heap.objs.size → s.heap.get? b = some o → h'.get? b = some o) →
      Q (.ref s.heap.objs.size) { s with heap := h', toks := tk }) : wpAny (model prog w) A (call (.type "set") [.ref l]) Q E s := by
  obtain ⟨c, tl, mro⟩ := PySem.F.called_set.mro
  have made := PySem.F.called_set.made
  have sub := PySem.F.called_set.sub
  refine wpAny_call (codeAny_of_tree ?_)
  show wpAny _ _ (callAny (.type "set") _) _ _ _
  refine wpAny_pure ⟨Code.quiet_builtin _ (by decide +kernel), codeAny_builtin PySem.F.entry_type_call ?_⟩
  rw [Around.under_plain (weight_type_call_type "set" [.ref l] []) rfl]
  have nt := PySem.F.called_set.notType
  have cc := PySem.F.called_set.canCreate
  have tc := PySem.F.typeCall_set_1 (.ref l)
  repeat (any_goals (first | assumption | wp_step))
  refine codeAny_mono (code_set_new_1 (.ref l) (E := E) (Q₁ := fun u s1 => ∃ led, u = .ref s.heap.objs.size ∧ s1 = { s with heap := s.heap.push (newSet led) }) fun led => ⟨led, rfl, rfl⟩) fun r s1 hr => ?_
  cases r with
  | error e => exact hr
  | ok fl =>
    cases fl with
    | ret u =>
      obtain ⟨led, rfl, rfl⟩ := hr
      have atS : (s.heap.push (newSet led)).get? s.heap.objs.size = some (newSet led) := Heap.get?_push_size _ rfl
      have isS : Shared.TypeIs { s with heap := s.heap.push (newSet led) } (.ref s.heap.objs.size) "set" := ⟨_, atS, rfl⟩
      have il := PySem.F.called_set.init.lookup
      have ib := PySem.F.called_set.init.bind (.ref s.heap.objs.size)
      repeat (any_goals (first | assumption | wp_step))
      refine codeAny_mono (codeAny_call_builtin (R := wants (fun u s2 => u = .none ∧ ∃ h' tk, s2 = { s with heap := h', toks := tk } ∧ h'.SetOf (PySem.strKind prog w) s.heap.objs.size (fun k => (met xs xs.length).any (· == k)) (met xs xs.length).length ∧
        (∀ b o, b < s.heap.objs.size → s.heap.get? b = some o → h'.get? b = some o)) E) PySem.F.called_set.init.plain PySem.F.entry_set_init (check_set_init_1 isS ?_)) fun r2 s2 hr2 => ?_
      · obtain ⟨⟨oc, od, odt, osl⟩, ho, ec, nl, ed⟩ := hl
        simp only at ec ed
        subst ec; subst ed
        have ho' : (s.heap.push (newSet led)).get? l = some { cls := .type "tuple", dict := od, data := .seq its nl, slots := osl } := Heap.get?_push_of_some _ ho
        have s1 := PySem.F.sub_tuple_set
        have s2 := PySem.F.sub_tuple_frozenset
        have nd : (Value.type "tuple" == Value.type "dict") = false := by decide
        have hl1 : (s.heap.push (newSet led)).IsTuple l its := ⟨_, ho', rfl, nl, rfl⟩
        unfold Builtin.«set.__init__» noKeywords Builtin.Frozenset.updateFrom
        generalize gP : pyIter = PI
        wp_walk
        subst gP
        refine wpAny_pyIter_tuple hl1 (wpAny_bind (wpAny_runValue ?_))
        have ltl : l < s.heap.objs.size := Heap.lt_size ho
        have h3 : A.in1.in1.in1.handled = none := by simp [hh]
        have nI : l ≠ (s.heap.push (newSet led)).objs.size := by
          rw [Heap.size_push]
          exact Nat.ne_of_lt (Nat.lt_succ_of_lt ltl)
        have nF : s.heap.objs.size ∉ [(s.heap.push (newSet led)).objs.size, l] := by
          rw [Heap.size_push]
          simp only [List.mem_cons, List.not_mem_nil, or_false, not_or]
          exact ⟨Nat.ne_of_lt (Nat.lt_succ_self _), Nat.ne_of_gt ltl⟩
        have sz : xs.length = its.size := by rw [← StrsAre.len_eq hi, Array.length_toList]
        refine fill_texts ((Walks.tuple h3 _ l nI its).toS) s.heap.objs.size nF xs sz (by rw [← sz]; exact hb) (fun i v hix e => str_item hi i v hix (by rw [Array.getElem?_toList]; exact e)) (its.size - 0) 0 _ (by omega) (Nat.zero_le _)
          ⟨⟨_, Heap.get?_push_size _ rfl, rfl, rfl⟩, (hl1.push _)⟩ ?c1 ?c2
        case c1 =>
          exact SetOf_congr ((setObjOf_fresh (knd := PySem.strKind prog w) led).setOf (Heap.get?_push_of_some _ atS) (by unfold scanBound; omega)) (fun _ => rfl) rfl
        case c2 =>
          rw [← sz]
          rintro ⟨h', g', d', tk', os'⟩ mv hS'
          have eg : g' = s.gens := mv.gens
          have ed : d' = s.drawn := mv.drawn
          have eo : os' = s.os := mv.os
          subst eg; subst ed; subst eo
          show wpAny _ _ _ _ _ _
          refine wpAny_pure ?_
          show wpAny _ _ (ret Value.none) _ _ _
          refine wpAny_pure ⟨rfl, h', tk', rfl, hS', fun b o hlt e => ?_⟩
          refine mv.heap b o ?_ (Heap.get?_push_of_some _ (Heap.get?_push_of_some _ e))
          rw [Heap.size_push]
          simp only [List.mem_cons, List.not_mem_nil, or_false, not_or]
          exact ⟨Nat.ne_of_lt hlt, Nat.ne_of_lt (Nat.lt_succ_of_lt hlt)⟩
      · cases r2 with
        | error e => exact hr2
        | ok f2 =>
          cases f2 with
          | ret u2 =>
            obtain ⟨rfl, h', tk, rfl, hS', hk⟩ := hr2
            repeat (any_goals (first | assumption | wp_step))
            exact h _ _ hS' hk
          | _ => exact hr2.elim
    | _ => exact hr.elim
end
section
variable {X : Cx}
/-- len(set(t)) -/
def tLenSet2 (K : PySem.W.Frag) (ta : TE) : TE := fun σ H Q => ta σ H fun x H1 => ∃ l, ∃ xs : List Str, x = .ref l ∧ SqT K H1 l (xs.map V.str) ∧ xs.length ≤ 4000 ∧ Q (.int ((met xs xs.length).length : Nat)) H1
theorem p_lenSet {a : Expr} {ta : TE} {p p2 q pos : Pos} (hc : X.calm = true) (hg : Gl X "len") (hm : X.mg "len" = none) (hg2 : Gl X "set") (hm2 : X.mg "set" = none) (ha : PE X a ta)
    (na : starEach [a] X.env = (false, eval a X.env) :: starEach [] X.env := by rfl) : PE X (.Call (.Name "len" p) [.Call (.Name "set" p2) [a] [] q] [] pos) (tLenSet2 X.K ta) := by
  refine ⟨fun pins s σ H Q I h => Call_ (ld_blt I hg hm boot_len (callWith_builtin1 (args_cons ?_ rfl) rfl rfl))⟩
  refine Call_ (ld_blt I hg2 hm2 boot_set (callWith_type1 (args_cons (thn (ha.run pins s σ H _ I h) fun v s1 ⟨x, H1, I1, r1, q1⟩ => args_nil ?_) na) na rfl))
  obtain ⟨l, xs, rfl, hq, hz, q1⟩ := q1
  cases r1
  obtain ⟨its, r, pl, _⟩ := I1.tuple hq
  refine set_of_tuple (I1.ok.hd hc) pl (by simpa using strsAre_of r) (by unfold scanBound; omega) fun h' tk hS hk => args_nil ?_
  obtain ⟨o, es, ep, t, ho, hex, hd, _, _, _, hf, hn⟩ := hS
  have I2 : Inv X pins σ H1 { s1 with heap := h', toks := tk } := I1.kept fun b o e => hk b o (Heap.lt_size e) e
  have le := met_le xs xs.length (Nat.le_refl _)
  exact call_len_set ho hex hd hf (by rw [hn]; omega) ⟨.int ((met xs xs.length).length : Nat), H1, I2.tok _, ⟨_, by rw [hn]⟩, q1⟩
/-- C(..) where a name of the def holds the class -/
def tClsL (i : Nat) (C : Addr) (sp : Sp) (E : XK) (t : TA) : TE := fun σ H Q => σ[i]? = some (some (.ref C)) ∧ tMake C sp [] E t σ H Q
theorem p_cls {k j i : Nat} {C : Addr} {y x : Str} {sp : Sp} {e : Expr} {es : List Expr} {t : TA} {p pos : Pos} (E : XK) (c : Mak X.prog X.w X.K X.mg X.base k y C sp) (hr : Room j X.A) (hk : k + 1 ≤ j) (hx : Passes (L2.CX X.prog X.w) X E) (ha : PA X (e :: es) t)
    (hN : X.N[i]? = some x := by rfl) (hv : Vis X.env.scope x := by first | exact Or.inl rfl | exact Or.inr (Or.inl rfl) | exact Or.inr (Or.inr rfl)) (hdb : (x == ("__debug__" : Str)) = false := by decide) (hcd : (x == ("__classdict__" : Str)) = false := by decide)
    (he : starEach (e :: es) X.env = (false, eval e X.env) :: starEach es X.env := by rfl) (hpl : (backTo pos (starEach es X.env)).any (·.1) = false := by rfl) : PE X (.Call (.Name x p) (e :: es) [] pos) (tClsL i C sp E t) := by
  obtain ⟨f, fd, ps, M, F, hm, b⟩ := c.ex
  refine ⟨fun pins s σ H Q I ⟨hs, ht⟩ => ?_⟩
  refine wpAny_Call_Name_kw (thn ((pe_var (pos := p) hN hv hdb hcd).run pins s σ H (fun v H1 => v = .ref C ∧ H1 = H) I ⟨.ref C, hs, rfl, rfl⟩) fun u s1 ⟨v, H1, I1, r1, q1⟩ => ?_)
  obtain ⟨rfl, rfl⟩ := q1
  cases r1
  exact PySem.W.callWith_K (h₀ := X.base) I.ok.mod.kin M.kp (thn (ha.run pos pins s1 σ _ _ I1 ht) fun us s2 ⟨vs, H2, I2, r, q⟩ => ⟨I2.kIn, run_make M F (hr.mono hk) b .nil hx I2 r q⟩) he hpl
end
end Cn
set_option linter.all false
/-! Cn.M0: the program as plain functions over lists of signs. -/
namespace Cn
abbrev T := List Nat

def isPre : T → T → Bool
  | [], _ => true
  | _ :: _, [] => false
  | x :: a, y :: b => x == y && isPre a b
def splitC (c : Nat) : T → List T
  | [] => [[]]
  | x :: r => if x == c then [] :: splitC c r else match splitC c r with
    | [] => [[x]]
    | h :: t => (x :: h) :: t
theorem splitC_ne (c : Nat) : ∀ l, splitC c l ≠ []
  | [] => by simp [splitC]
  | x :: r => by
    unfold splitC
    split
    · simp
    · split <;> simp
def joinT (sep : T) : List T → T
  | [] => []
  | [p] => p
  | p :: q :: r => p ++ (sep ++ joinT sep (q :: r))
def isName (w : T) : Bool := decide (1 ≤ w.length) && (decide (w.length ≤ 8) && w.all fun c => decide (97 ≤ c) && decide (c ≤ 122))
/-- written texts -/
def kTable : T := [116, 97, 98, 108, 101, 32]
def kColumn : T := [32, 32, 99, 111, 108, 117, 109, 110, 32]
def kKey : T := [32, 32, 107, 101, 121, 32]
def kRef : T := [32, 32, 114, 101, 102, 32]
def kOpt : T := [32, 32, 111, 112, 116, 105, 111, 110, 97, 108, 32]
def kEnd : T := [101, 110, 100]
def kArrow : T := [45, 62]

structure Tbl where
  name : T
  cols : List T
  keys : List (List T)
  refs : List (List T × T × Bool)
  deriving DecidableEq

section
variable (L : List T)
def begins (n : Nat) (st : T) : Bool := match L[n]? with
  | some r => isPre st r
  | none => false
def words (n : Nat) (st : T) : Option (List T) := match L[n]? with
  | some r => if isPre st r then some (splitC 32 (r.drop st.length)) else none
  | none => none
def newName (n : Nat) (st : T) (taken : List T) : Except Nat T := match words L n st with
  | some ws => if ws.length == 1 && (isName (ws.headD []) && !taken.contains (ws.headD [])) then .ok (ws.headD []) else .error n
  | none => .error n
def exactly (n : Nat) (row : T) : Bool := L[n]? == some row
def colsLoop : Nat → Nat → List T → Except Nat (List T × Nat)
  | 0, n, cols => .ok (cols, n)
  | f + 1, n, cols =>
    if cols.isEmpty || begins L n kColumn then
      match newName L n kColumn cols with
      | .error e => .error e
      | .ok w => if cols.length + 1 ≤ 5 then colsLoop f (n + 1) (cols ++ [w]) else .error n
    else .ok (cols, n)
def hasAll (cols others : List T) : Bool := others.all fun o => cols.contains o
def areDiff (ws cols : List T) : Bool := decide ws.Nodup && hasAll cols ws
def keysLoop (cols : List T) : Nat → Nat → List (List T) → Except Nat (List (List T) × Nat)
  | 0, n, keys => .ok (keys, n)
  | f + 1, n, keys =>
    if keys.isEmpty || begins L n kKey then
      match words L n kKey with
      | none => .error n
      | some k =>
        if decide (k.length ≤ 3) && areDiff k cols then
          if keys.any fun o => hasAll k o || hasAll o k then .error n
          else if keys.length + 1 ≤ 3 then keysLoop cols f (n + 1) (keys ++ [k]) else .error n
        else .error n
    else .ok (keys, n)
def refStart (req : Bool) : T := if req then kRef else kOpt
def targets (req : Bool) (t : Tbl) (above : List Tbl) : List Tbl := if req then above else above ++ [t]
def foundIn (req : Bool) (t : Tbl) (above : List Tbl) (tgt : T) : List Tbl := (targets req t above).filter fun a => a.name == tgt
def fits (found : List Tbl) (cols : List T) : Bool := match found with
  | [f] => (f.keys.headD []).length == cols.length
  | _ => false
def barred (req : Bool) (t : Tbl) (cols : List T) : Bool := !req && t.keys.any (fun k => cols.any fun c => k.contains c)
def readRef (n : Nat) (t : Tbl) (above : List Tbl) : Except Nat (List T × T × Bool) :=
  match words L n (refStart (begins L n kRef)) with
  | none => .error n
  | some ws =>
    if decide (3 ≤ ws.length) && (ws.getD (ws.length - 2) [] == kArrow) then
      if fits (foundIn (begins L n kRef) t above (ws.getD (ws.length - 1) [])) (ws.take (ws.length - 2)) then
        if areDiff (ws.take (ws.length - 2)) t.cols then
          if barred (begins L n kRef) t (ws.take (ws.length - 2)) then .error n else .ok (ws.take (ws.length - 2), ws.getD (ws.length - 1) [], begins L n kRef)
        else .error n
      else .error n
    else .error n
def refsLoop (t : Tbl) (above : List Tbl) : Nat → Nat → List (List T × T × Bool) → Except Nat (List (List T × T × Bool) × Nat)
  | 0, n, refs => .ok (refs, n)
  | f + 1, n, refs =>
    if begins L n kRef || begins L n kOpt then
      match readRef L n t above with
      | .error e => .error e
      | .ok r =>
        if r.1.any fun c => (refs.flatMap (·.1)).contains c then .error n
        else if refs.length + 1 ≤ 2 then refsLoop t above f (n + 1) (refs ++ [r]) else .error n
    else .ok (refs, n)
def readTable (n : Nat) (above : List Tbl) : Except Nat (Tbl × Nat) :=
  match newName L n kTable (above.map (·.name)) with
  | .error e => .error e
  | .ok name =>
    if above.length < 5 then
      match colsLoop L 6 (n + 1) [] with
      | .error e => .error e
      | .ok (cols, n1) =>
        match keysLoop L cols 4 n1 [] with
        | .error e => .error e
        | .ok (keys, n2) =>
          match refsLoop L ⟨name, cols, keys, []⟩ above 3 n2 [] with
          | .error e => .error e
          | .ok (refs, n3) => if exactly L n3 kEnd then .ok (⟨name, cols, keys, refs⟩, n3 + 1) else .error n3
    else .error n
def tablesLoop : Nat → Nat → List Tbl → Except Nat (List Tbl × Nat)
  | 0, n, ts => .ok (ts, n)
  | f + 1, n, ts =>
    if ts.isEmpty || !(n == L.length) then
      match readTable L n ts with
      | .error e => .error e
      | .ok (t, n1) => tablesLoop f n1 (ts ++ [t])
    else .ok (ts, n)
end
def parseRows (L : List T) : Except Nat (List Tbl) := match tablesLoop L 6 0 [] with
  | .error e => .error e
  | .ok (ts, _) => .ok ts
def refRow (r : List T × T × Bool) : T := [32, 32] ++ ((if r.2.2 then [114, 101, 102] else [111, 112, 116, 105, 111, 110, 97, 108]) ++ ([32] ++ (joinT [32] r.1 ++ ([32, 45, 62, 32] ++ r.2.1))))
def tableRows (t : Tbl) : List T := [kTable ++ t.name] ++ (t.cols.map (fun c => kColumn ++ c) ++ (t.keys.map (fun k => kKey ++ joinT [32] k) ++ (t.refs.map refRow ++ [kEnd])))
def schemaText (ts : List Tbl) : T := joinT [10] (ts.flatMap tableRows)

/-! ### what a read table is -/
structure WfT (t : Tbl) : Prop where
  name : t.name.length ≤ 8
  cols0 : t.cols ≠ []
  cols : t.cols.length ≤ 5
  col : ∀ c ∈ t.cols, c.length ≤ 8
  keys0 : t.keys ≠ []
  keys : t.keys.length ≤ 3
  key : ∀ k ∈ t.keys, k.length ≤ 3 ∧ ∀ c ∈ k, c ∈ t.cols
  refs : t.refs.length ≤ 2
  ref : ∀ r ∈ t.refs, r.1.length ≤ 3 ∧ r.2.1.length ≤ 8 ∧ ∀ c ∈ r.1, c ∈ t.cols
theorem isName_len {w : T} (h : isName w = true) : w.length ≤ 8 := by
  unfold isName at h
  simp only [Bool.and_eq_true, decide_eq_true_eq] at h
  exact h.2.1
theorem newName_ok {L : List T} {n : Nat} {st : T} {taken : List T} {w : T} (h : newName L n st taken = .ok w) : isName w = true ∧ w ∉ taken := by
  unfold newName at h
  split at h
  · split at h
    · rename_i ws _ q
      cases h
      simp only [Bool.and_eq_true, Bool.not_eq_true', beq_iff_eq] at q
      exact ⟨q.2.1, fun z => by have := q.2.2; rw [List.contains_iff_mem.mpr z] at this; cases this⟩
    · cases h
  · cases h
theorem words_lt {L : List T} {n : Nat} {st : T} {ws : List T} (h : words L n st = some ws) : n < L.length := by
  unfold words at h
  split at h
  · rename_i r hr
    exact (List.getElem?_eq_some_iff.mp hr).1
  · cases h
theorem newName_lt {L : List T} {n : Nat} {st : T} {taken : List T} {w : T} (h : newName L n st taken = .ok w) : n < L.length := by
  unfold newName at h
  split at h
  · rename_i ws hw
    exact words_lt hw
  · cases h
theorem words_len {L : List T} {n : Nat} {st : T} {ws : List T} (h : words L n st = some ws) : ws ≠ [] := by
  unfold words at h
  split at h
  · split at h
    · cases h; exact splitC_ne _ _
    · cases h
  · cases h
theorem colsLoop_ok {L : List T} : ∀ {f n : Nat} {cols r : List T} {n' : Nat}, colsLoop L f n cols = .ok (r, n') → cols.length ≤ 5 → (∀ c ∈ cols, c.length ≤ 8) → f + cols.length = 6 → r ≠ [] ∧ r.length ≤ 5 ∧ ∀ c ∈ r, c.length ≤ 8
  | 0, n, cols, r, n', h, h5, h8, hf => by omega
  | f + 1, n, cols, r, n', h, h5, h8, hf => by
    unfold colsLoop at h
    split at h
    · split at h
      · cases h
      · rename_i w hw
        split at h
        · exact colsLoop_ok h (by simp; omega) (fun c hc => by
            rcases List.mem_append.mp hc with z | z
            · exact h8 c z
            · rw [List.mem_singleton.mp z]; exact isName_len (newName_ok hw).1) (by simp; omega)
        · cases h
    · rename_i q
      cases h
      simp only [Bool.or_eq_true, not_or, List.isEmpty_iff] at q
      exact ⟨q.1, h5, h8⟩
theorem hasAll_ok {cols others : List T} (h : hasAll cols others = true) : ∀ c ∈ others, c ∈ cols := fun c hc => by
  have := List.all_eq_true.mp h c hc
  exact List.contains_iff_mem.mp this
theorem areDiff_ok {ws cols : List T} (h : areDiff ws cols = true) : ws.Nodup ∧ ∀ c ∈ ws, c ∈ cols := by
  unfold areDiff at h
  simp only [Bool.and_eq_true, decide_eq_true_eq] at h
  exact ⟨h.1, hasAll_ok h.2⟩
theorem keysLoop_ok {L : List T} {cols : List T} : ∀ {f n : Nat} {keys r : List (List T)} {n' : Nat}, keysLoop L cols f n keys = .ok (r, n') → keys.length ≤ 3 → (∀ k ∈ keys, k.length ≤ 3 ∧ ∀ c ∈ k, c ∈ cols) → f + keys.length = 4 →
    r ≠ [] ∧ r.length ≤ 3 ∧ ∀ k ∈ r, k.length ≤ 3 ∧ ∀ c ∈ k, c ∈ cols
  | 0, n, keys, r, n', h, h3, hk, hf => by omega
  | f + 1, n, keys, r, n', h, h3, hk, hf => by
    unfold keysLoop at h
    split at h
    · split at h
      · cases h
      · split at h
        · rename_i k _ q
          simp only [Bool.and_eq_true, decide_eq_true_eq] at q
          split at h
          · cases h
          · split at h
            · exact keysLoop_ok h (by simp; omega) (fun c hc => by
                rcases List.mem_append.mp hc with z | z
                · exact hk c z
                · rw [List.mem_singleton.mp z]; exact ⟨q.1, (areDiff_ok q.2).2⟩) (by simp; omega)
            · cases h
        · cases h
    · rename_i q
      cases h
      simp only [Bool.or_eq_true, not_or, List.isEmpty_iff] at q
      exact ⟨q.1, h3, hk⟩
theorem fits_ok {fl : List Tbl} {cols : List T} (h : fits fl cols = true) : ∃ f, fl = [f] ∧ (f.keys.headD []).length = cols.length := by
  unfold fits at h
  split at h
  · exact ⟨_, rfl, eq_of_beq h⟩
  · cases h
theorem foundIn_mem {req : Bool} {t f : Tbl} {above : List Tbl} {tgt : T} (h : f ∈ foundIn req t above tgt) : (f ∈ above ∨ f = t) ∧ f.name = tgt := by
  obtain ⟨f1, f2⟩ := List.mem_filter.mp h
  refine ⟨?_, eq_of_beq f2⟩
  unfold targets at f1
  split at f1
  · exact .inl f1
  · rcases List.mem_append.mp f1 with z | z
    · exact .inl z
    · exact .inr (List.mem_singleton.mp z)
theorem readRef_ok {L : List T} {n : Nat} {t : Tbl} {above : List Tbl} {r : List T × T × Bool} (h : readRef L n t above = .ok r) (hn : t.name.length ≤ 8) (ha : ∀ a ∈ above, WfT a) (ht : ∀ k ∈ t.keys, k.length ≤ 3) (h0 : t.keys ≠ []) :
    r.1.length ≤ 3 ∧ r.2.1.length ≤ 8 ∧ ∀ c ∈ r.1, c ∈ t.cols := by
  unfold readRef at h
  split at h
  · cases h
  · rename_i ws _
    split at h
    · split at h
      · rename_i q
        split at h
        · rename_i qd
          split at h
          · cases h
          · cases h
            obtain ⟨f, ef, el⟩ := fits_ok q
            obtain ⟨hf, hfn⟩ := foundIn_mem (f := f) (by rw [ef]; exact List.mem_singleton.mpr rfl)
            have hk : (f.keys.headD []).length ≤ 3 := by
              have key : ∀ k ∈ f.keys, k.length ≤ 3 := by
                rcases hf with z | z
                · exact fun k hk => ((ha f z).key k hk).1
                · rw [z]; exact ht
              cases e : f.keys with
              | nil => simp
              | cons k r => exact key k (by rw [e]; exact List.mem_cons_self)
            refine ⟨by rw [← el]; exact hk, ?_, (areDiff_ok qd).2⟩
            show (ws.getD (ws.length - 1) []).length ≤ 8
            rw [← hfn]
            rcases hf with z | z
            · exact (ha f z).name
            · rw [z]; exact hn
        · cases h
      · cases h
    · cases h
theorem refsLoop_ok {L : List T} {t : Tbl} {above : List Tbl} (hn : t.name.length ≤ 8) (ha : ∀ a ∈ above, WfT a) (ht : ∀ k ∈ t.keys, k.length ≤ 3) (h0 : t.keys ≠ []) : ∀ {f n : Nat} {refs r : List (List T × T × Bool)} {n' : Nat}, refsLoop L t above f n refs = .ok (r, n') → refs.length ≤ 2 →
    (∀ r ∈ refs, r.1.length ≤ 3 ∧ r.2.1.length ≤ 8 ∧ ∀ c ∈ r.1, c ∈ t.cols) → f + refs.length = 3 → r.length ≤ 2 ∧ ∀ q ∈ r, q.1.length ≤ 3 ∧ q.2.1.length ≤ 8 ∧ ∀ c ∈ q.1, c ∈ t.cols
  | 0, n, refs, r, n', h, h2, hr, hf => by omega
  | f + 1, n, refs, r, n', h, h2, hr, hf => by
    unfold refsLoop at h
    split at h
    · split at h
      · cases h
      · rename_i q hq
        split at h
        · cases h
        · split at h
          · exact refsLoop_ok hn ha ht h0 h (by simp; omega) (fun c hc => by
              rcases List.mem_append.mp hc with z | z
              · exact hr c z
              · rw [List.mem_singleton.mp z]; exact readRef_ok hq hn ha ht h0) (by simp; omega)
          · cases h
    · cases h
      exact ⟨h2, hr⟩
theorem readTable_ok {L : List T} {n : Nat} {above : List Tbl} {t : Tbl} {n' : Nat} (h : readTable L n above = .ok (t, n')) (ha : ∀ a ∈ above, WfT a) : WfT t ∧ above.length < 5 ∧ t.name ∉ above.map (·.name) := by
  unfold readTable at h
  split at h
  · cases h
  · rename_i name hname
    split at h
    · rename_i h5
      split at h
      · cases h
      · rename_i cols n1 hc
        split at h
        · cases h
        · rename_i keys n2 hk
          split at h
          · cases h
          · rename_i refs n3 hr
            split at h
            · cases h
              have c := colsLoop_ok hc (by simp) (by simp) (by simp)
              have k := keysLoop_ok hk (by simp) (by simp) (by simp)
              have nm := newName_ok hname
              have r := refsLoop_ok (t := ⟨name, cols, keys, []⟩) (isName_len nm.1) ha (fun k' hk' => (k.2.2 k' hk').1) k.1 hr (by simp) (by simp) (by simp)
              exact ⟨⟨isName_len nm.1, c.1, c.2.1, c.2.2, k.1, k.2.1, k.2.2, r.1, r.2⟩, h5, nm.2⟩
            · cases h
    · cases h
theorem tablesLoop_ok {L : List T} : ∀ {f n : Nat} {ts r : List Tbl} {n' : Nat}, tablesLoop L f n ts = .ok (r, n') → ts.length ≤ 5 → (∀ t ∈ ts, WfT t) → f + ts.length = 6 → r ≠ [] ∧ r.length ≤ 5 ∧ ∀ t ∈ r, WfT t
  | 0, n, ts, r, n', h, h5, hw, hf => by omega
  | f + 1, n, ts, r, n', h, h5, hw, hf => by
    unfold tablesLoop at h
    split at h
    · split at h
      · cases h
      · rename_i t n1 ht
        obtain ⟨w, l, _⟩ := readTable_ok ht hw
        exact tablesLoop_ok h (by simp; omega) (fun c hc => by
          rcases List.mem_append.mp hc with z | z
          · exact hw c z
          · rw [List.mem_singleton.mp z]; exact w) (by simp; omega)
    · rename_i q
      cases h
      simp only [Bool.or_eq_true, not_or, List.isEmpty_iff] at q
      exact ⟨q.1, h5, hw⟩
theorem parseRows_ok {L : List T} {ts : List Tbl} (h : parseRows L = .ok ts) : ts ≠ [] ∧ ts.length ≤ 5 ∧ ∀ t ∈ ts, WfT t := by
  unfold parseRows at h
  split at h
  · cases h
  · rename_i r n' hr
    cases h
    exact tablesLoop_ok hr (by simp) (by simp) (by simp)
end Cn
set_option Elab.async false
set_option linter.all false
set_option maxRecDepth 100000
set_option maxHeartbeats 2000000
/-! Cn.B3: the model's texts and the plain lists of signs; what stands for a table. -/
namespace Cn
open PySem L2

theorem isPre_take : ∀ (a b : T), isPre a b = (b.take a.length == a)
  | [], b => by simp [isPre]
  | _ :: _, [] => by simp [isPre]
  | x :: a, y :: b => by
    have ih := isPre_take a b
    show (x == y && isPre a b) = (y :: b.take a.length == x :: a)
    rw [ih]
    by_cases e : x = y
    · subst e; simp
    · have e1 : (x == y) = false := beq_eq_false_iff_ne.mpr e
      have e2 : (y :: b.take a.length == x :: a) = false := beq_eq_false_iff_ne.mpr fun z => e (List.cons.inj z).1.symm
      rw [e1, e2]; rfl
theorem starts_S (a b : T) : Txt.startswith (S a) (S b) = isPre b a := by
  unfold Txt.startswith
  rw [PySem.StrLaws.subAt_eq, isPre_take, S_len, S_len]
  show (decide (0 + b.length ≤ a.length) && ((a.drop 0).take b.length == b)) = (a.take b.length == b)
  rw [List.drop_zero]
  by_cases h : b.length ≤ a.length
  · rw [decide_eq_true (by omega), Bool.true_and]
  · have e : (a.take b.length == b) = false := beq_eq_false_iff_ne.mpr fun z => h (by rw [← z, List.length_take]; omega)
    rw [e, Bool.and_false]
theorem spl_one (c : Nat) : ∀ (l acc : T), TL.spl [c] 0 acc l = match splitC c l with
    | [] => [acc]
    | h :: t => (acc ++ h) :: t
  | [], acc => by rw [TL.spl_nil]; simp [splitC]
  | x :: r, acc => by
    have ih := spl_one c r
    by_cases e : x = c
    · subst e
      have h : TL.pre [x] (x :: r) = true := by simp [TL.pre]
      rw [TL.spl_hit h]
      show acc :: TL.spl [x] 0 [] r = _
      rw [ih]
      simp only [splitC, beq_self_eq_true, if_true]
      cases q : splitC x r with
      | nil => exact absurd q (splitC_ne x r)
      | cons h t => simp
    · have h : TL.pre [c] (x :: r) = false := TL.pre_of_head _ _ e
      rw [TL.spl_miss h, ih]
      have e1 : (x == c) = false := beq_eq_false_iff_ne.mpr e
      simp only [splitC, e1, Bool.false_eq_true, if_false]
      cases q : splitC c r with
      | nil => exact absurd q (splitC_ne c r)
      | cons h t => simp
theorem split_S (c : Nat) (hc : c < 256) (l : T) : Txt.split (S l) (S [c]) = (splitC c l).map S := by
  refine TL.map_tl_inj ?_
  rw [TL.split_spl _ _ (by simp [tl_S]) (TL.kind_ok (by simp [S, hc])), tl_S, tl_S, spl_one, List.map_map]
  have e : (TL.tl ∘ S) = id := by funext x; exact tl_S x
  rw [e, List.map_id]
  cases q : splitC c l with
  | nil => exact absurd q (splitC_ne c l)
  | cons h t => simp
theorem joinT_L (sep : T) : ∀ ps : List T, TL.joinL sep ps = joinT sep ps
  | [] => rfl
  | [_] => rfl
  | p :: q :: r => by
    show p ++ (sep ++ TL.joinL sep (q :: r)) = p ++ (sep ++ joinT sep (q :: r))
    rw [joinT_L sep (q :: r)]
theorem join_S (sep : T) (ps : List T) : Txt.join (S sep) (ps.map S) = S (joinT sep ps) := by
  refine TL.ext_tl ?_
  rw [TL.join_eq, TL.tl_join, tl_S, tl_S, ← joinT_L, List.map_map]
  have e : (TL.tl ∘ S) = id := by funext x; exact tl_S x
  rw [e, List.map_id]
theorem cutS_drop (l : T) (k : Nat) : cutS (S l) (some (k : Int)) none = S (l.drop k) := by
  refine TL.ext_tl ?_
  show ((l.drop (HT.sIx (S l).length 0 (some (k : Int)))).take (HT.sIx (S l).length (S l).length none - HT.sIx (S l).length 0 (some (k : Int)))) = l.drop k
  rw [HT.sIx_nat, HT.sIx_none, S_len]
  by_cases h : k ≤ l.length
  · rw [Nat.min_eq_left h, List.take_of_length_le (by rw [List.length_drop]; omega)]
  · rw [Nat.min_eq_right (by omega), List.drop_of_length_le (Nat.le_refl _), List.drop_of_length_le (by omega)]; simp
/-- words[:-2] -/
theorem cutV_m2 (xs : List V) : cutV xs none (some (-2)) = xs.take (xs.length - 2) := by
  unfold cutV
  have e1 : HT.sIx xs.length 0 none = 0 := rfl
  have e2 : HT.sIx xs.length xs.length (some (-2)) = xs.length - 2 := by
    show (if (-2 : Int) < 0 then ((-2 : Int) + (xs.length : Int)).toNat else min (-2 : Int).toNat xs.length) = xs.length - 2
    rw [if_pos (by decide)]; omega
  rw [e1, e2, List.drop_zero, Nat.sub_zero]
theorem svs_take (ls : List T) (k : Nat) : (svs ls).take k = svs (ls.take k) := by simp [svs, List.map_take]
theorem splitC_len (c : Nat) : ∀ l : T, (splitC c l).length ≤ l.length + 1
  | [] => by simp [splitC]
  | x :: r => by
    have ih := splitC_len c r
    unfold splitC
    split
    · simp; omega
    · split
      · simp
      · rename_i h t e; rw [e] at ih; simp at ih ⊢; omega
theorem splitC_mem (c : Nat) : ∀ (l p : T), p ∈ splitC c l → p.length ≤ l.length
  | [], p, h => by simp [splitC] at h; rw [h]; simp
  | x :: r, p, h => by
    have ih := splitC_mem c r
    unfold splitC at h
    split at h
    · rcases List.mem_cons.mp h with z | z
      · rw [z]; simp
      · have := ih p z; simp; omega
    · split at h
      · rw [List.mem_singleton.mp h]; simp
      · rename_i g t e
        rw [e] at ih
        rcases List.mem_cons.mp h with z | z
        · have := ih g List.mem_cons_self; rw [z]; simp; omega
        · have := ih p (List.mem_cons_of_mem _ z); simp; omega
theorem eqV_sv (a b : T) : eqV (sv a) (sv b) = (a == b) := by
  show (S a == S b) = (a == b)
  by_cases e : a = b
  · subst e; simp
  · have h1 : (S a == S b) = false := beq_eq_false_iff_ne.mpr fun z => e (S_inj z)
    have h2 : (a == b) = false := beq_eq_false_iff_ne.mpr e
    rw [h1, h2]
theorem inV_svs (a : T) (ls : List T) : inV (sv a) (svs ls) = ls.contains a := by
  unfold inV svs
  rw [List.any_map]
  induction ls with
  | nil => rfl
  | cons b r ih =>
    rw [List.any_cons, List.contains_cons, ih]
    show (eqV (sv b) (sv a) || _) = _
    rw [eqV_sv]
    congr 1
    by_cases e : a = b
    · subst e; rfl
    · rw [beq_eq_false_iff_ne.mpr e, beq_eq_false_iff_ne.mpr fun z => e z.symm]
theorem flat_svs (ls : List T) : (svs ls).all flatV = true := by
  rw [List.all_eq_true]
  intro x hx
  obtain ⟨l, _, rfl⟩ := List.mem_map.mp hx
  rfl

/-! ### rows of things -/
def Each {α : Type} (R : V → α → Prop) (vs : List V) (xs : List α) : Prop := vs.length = xs.length ∧ ∀ (i : Nat) v x, vs[i]? = some v → xs[i]? = some x → R v x
section
variable {α : Type} {R R' : V → α → Prop} {vs : List V} {xs : List α}
theorem Each.nil : Each R [] [] := ⟨rfl, fun i v x h => by simp at h⟩
theorem Each.mono (e : Each R vs xs) (h : ∀ v x, R v x → R' v x) : Each R' vs xs := ⟨e.1, fun i v x a b => h v x (e.2 i v x a b)⟩
theorem Each.snoc {v : V} {x : α} (e : Each R vs xs) (h : R v x) : Each R (vs ++ [v]) (xs ++ [x]) := by
  refine ⟨by rw [List.length_append, List.length_append, e.1]; rfl, fun i v' x' a b => ?_⟩
  by_cases hi : i < vs.length
  · rw [List.getElem?_append_left hi] at a
    rw [List.getElem?_append_left (by rw [← e.1]; exact hi)] at b
    exact e.2 i v' x' a b
  · have h1 : i = vs.length := by
      have := (List.getElem?_eq_some_iff.mp a).1
      rw [List.length_append] at this; simp at this; omega
    subst h1
    rw [List.getElem?_append_right (Nat.le_refl _)] at a
    rw [e.1, List.getElem?_append_right (Nat.le_refl _)] at b
    simp at a b
    subst a; subst b
    exact h
theorem Each.at {i : Nat} {v : V} (e : Each R vs xs) (h : vs[i]? = some v) : ∃ x, xs[i]? = some x ∧ R v x := by
  have hi := (List.getElem?_eq_some_iff.mp h).1
  have hx : xs[i]? = some (xs[i]'(by rw [← e.1]; exact hi)) := List.getElem?_eq_getElem _
  exact ⟨_, hx, e.2 i v _ h hx⟩
theorem Each.atx {i : Nat} {x : α} (e : Each R vs xs) (h : xs[i]? = some x) : ∃ v, vs[i]? = some v ∧ R v x := by
  have hi := (List.getElem?_eq_some_iff.mp h).1
  have hx : vs[i]? = some (vs[i]'(by rw [e.1]; exact hi)) := List.getElem?_eq_getElem _
  exact ⟨_, hx, e.2 i _ x hx h⟩
end

/-! ### what stays -/
/-- things that are never changed: tuples, instances of other classes than CR -/
def imm (CR : Addr) : HO → Prop
  | .tup _ => True
  | .ins C _ _ => C ≠ CR
  | _ => False
def Fix (CR : Addr) (H H' : Hp) : Prop := ∀ a o, H a = some o → imm CR o → H' a = some o
theorem Fix.trans {CR : Addr} {H H1 H2 : Hp} (a : Fix CR H H1) (b : Fix CR H1 H2) : Fix CR H H2 := fun x o h i => b x o (a x o h i) i
theorem But.fix {CR : Addr} {l : List Addr} {H H' : Hp} (b : But l H H') (h : ∀ a ∈ l, ∀ o, H a = some o → ¬ imm CR o) : Fix CR H H' := fun a o e i =>
  b a o (fun z => h a z o e i) e
theorem But.fix0 {CR : Addr} {H H' : Hp} (b : But [] H H') : Fix CR H H' := b.fix fun a z => by cases z
theorem Fix.new {CR : Addr} {H H' : Hp} {p : Addr} {o : HO} (f : Fix CR H H') (h : H' p = none) : Fix CR H (upd H' p o) := fun a u e i => by
  rw [upd_ne (ne_of_none (f a u e i) h)]; exact f a u e i
theorem Fix.refl {CR : Addr} {H : Hp} : Fix CR H H := fun _ _ h _ => h

def KeyR (H : Hp) (v : V) (k : List T) : Prop := ∃ a, v = .ref a ∧ H a = some (.tup (svs k))
def RefR (H : Hp) (v : V) (r : List T × T × Bool) : Prop := ∃ a c, v = .ref a ∧ H a = some (.tup [.ref c, sv r.2.1, .bl r.2.2]) ∧ H c = some (.tup (svs r.1))
def tf (n : T) (ca ua ra : Addr) : List (Str × V) := [("name", sv n), ("columns", .ref ca), ("unique", .ref ua), ("refers", .ref ra)]
def TblR (CT : Addr) (H : Hp) (v : V) (t : Tbl) : Prop := ∃ a dx ca ua ra ks rs, v = .ref a ∧ H a = some (.ins CT dx (tf t.name ca ua ra)) ∧ H ca = some (.tup (svs t.cols)) ∧
  H ua = some (.tup ks) ∧ Each (KeyR H) ks t.keys ∧ H ra = some (.tup rs) ∧ Each (RefR H) rs t.refs
section
variable {CR CT : Addr} {H H' : Hp}
theorem KeyR.fix (f : Fix CR H H') {v : V} {k : List T} (h : KeyR H v k) : KeyR H' v k := let ⟨a, e, z⟩ := h; ⟨a, e, f a _ z trivial⟩
theorem RefR.fix (f : Fix CR H H') {v : V} {r : List T × T × Bool} (h : RefR H v r) : RefR H' v r := let ⟨a, c, e, z, y⟩ := h; ⟨a, c, e, f a _ z trivial, f c _ y trivial⟩
theorem TblR.fix (n : CT ≠ CR) (f : Fix CR H H') {v : V} {t : Tbl} (h : TblR CT H v t) : TblR CT H' v t := by
  obtain ⟨a, dx, ca, ua, ra, ks, rs, e, h1, h2, h3, h4, h5, h6⟩ := h
  exact ⟨a, dx, ca, ua, ra, ks, rs, e, f a _ h1 n, f ca _ h2 trivial, f ua _ h3 trivial, h4.mono fun _ _ q => q.fix f, f ra _ h5 trivial, h6.mono fun _ _ q => q.fix f⟩
end

/-! ### the rows that are read -/
def rf (l : Addr) (n : Nat) : List (Str × V) := [("_rows", .ref l), ("_at", .int n)]
structure RowsAt (CR : Addr) (H : Hp) (p d r : Addr) (L : List T) (n : Nat) : Prop where
  at_ : H p = some (.ins CR d (rf r n))
  rows : H r = some (.lst (svs L))
  size : L.length ≤ 1000000 ∧ ∀ r ∈ L, r.length ≤ 1000000
section
variable {CR : Addr} {H H' : Hp} {p d r : Addr} {L : List T} {n : Nat}
theorem RowsAt.keep {m : List Addr} (R : RowsAt CR H p d r L n) (b : But m H H') (hp : p ∉ m) (hr : r ∉ m) : RowsAt CR H' p d r L n := ⟨b p _ hp R.at_, b r _ hr R.rows, R.size⟩
theorem RowsAt.keep0 (R : RowsAt CR H p d r L n) (b : But [] H H') : RowsAt CR H' p d r L n := R.keep b (by simp) (by simp)
theorem RowsAt.put (R : RowsAt CR H p d r L n) {l : Addr} {o : HO} (hp : p ≠ l) (hr : r ≠ l) : RowsAt CR (upd H l o) p d r L n := ⟨by rw [upd_ne hp]; exact R.at_, by rw [upd_ne hr]; exact R.rows, R.size⟩
theorem RowsAt.ne (R : RowsAt CR H p d r L n) : r ≠ p := ne_of R.rows R.at_ (by intro z; cases z)
theorem RowsAt.fix (R : RowsAt CR H p d r L n) (b : But [p] H H') : Fix CR H H' := b.fix fun a z o e i => by
  rw [List.mem_singleton.mp z, R.at_] at e
  cases e
  exact i rfl
end
/-- how the error of a wrong row is wished for -/
def ErrE (CI : Addr) (p : Addr) (H : Hp) (E : XK) (e : Nat) : Prop := ∀ H' d, But [p] H H' → H' d = some (.xd [("row", .int e)]) → E (.ref CI) (some d) H'
theorem ErrE.later {CI p : Addr} {H H1 : Hp} {E : XK} {e : Nat} (h : ErrE CI p H E e) (b : But [p] H H1) : ErrE CI p H1 E e := fun H' d b' hx => h H' d (b.trans b') hx
end Cn
set_option Elab.async false
set_option linter.all false
set_option maxRecDepth 100000
set_option maxHeartbeats 2000000
/-! Cn.B4: the layer's rules with the written part K told (within a comprehension's block the context's own is not to be written out). -/
namespace Cn
open PySem L2
section
variable {X : Cx} (K : PySem.W.Frag) (h : X.K = K)
include h
theorem op_in_seqK : OpR X (compareOp .In) (rIn K false) := by subst h; exact op_in_seq
theorem op_notIn_seqK : OpR X (compareOp .NotIn) (rIn K true) := by subst h; exact op_notIn_seq
theorem ix_listK : IxR X (rIxL K) := by subst h; exact ix_list
theorem ix_tupK : IxR X (rIxT K) := by subst h; exact ix_tup
theorem ix_seqK : IxR X (rIx K) := by subst h; exact ix_seq
theorem sl_listK : SlR X (rSlL K) := by subst h; exact sl_list
theorem sl_tupK : SlR X (rSlT K) := by subst h; exact sl_tup
theorem call_len_seqK : CallR X (.builtin "len") (fun xs H Q => ∃ p ys, xs = [.ref p] ∧ (SqL K H p ys ∨ SqT K H p ys) ∧ Q (.int ys.length) H) := by subst h; exact call_len_seq
theorem call_list_ofK : CallR X (.type "list") (fun xs H Q => ∃ p ys, xs = [.ref p] ∧ (SqL K H p ys ∨ SqT K H p ys) ∧ ∀ l, H l = none → Q (.ref l) (upd H l (.lst ys))) := by subst h; exact call_list_of
theorem call_tuple_ofK : CallR X (.type "tuple") (fun xs H Q => ∃ p ys, xs = [.ref p] ∧ ((SqL K H p ys ∧ ∀ l, H l = none → Q (.ref l) (upd H l (.tup ys))) ∨ (SqT K H p ys ∧ Q (.ref p) H))) := by subst h; exact call_tuple_of
theorem cr_allK (hc : X.calm = true) : CallR X (.builtin "all") (rAll K) := by subst h; exact cr_all hc
theorem cr_anyK (hc : X.calm = true) : CallR X (.builtin "any") (rAny K) := by subst h; exact cr_any hc
theorem op_eqDK (hu : X.A.units + 64 < cLine) : OpR X (compareOp .Eq) (rEqD K) := by subst h; exact op_eqD hu
theorem op_neDK (hu : X.A.units + 64 < cLine) : OpR X (compareOp .NotEq) (rNeD K) := by subst h; exact op_neD hu
theorem call_isiK' : CallR X (.builtin "isinstance") (rIsi K) := by subst h; exact call_isi
theorem call_isiTK : CallR X (.builtin "isinstance") (rIsiT K) := by subst h; exact call_isiT
section
variable {e o : Expr} {f : Str} {pos : Pos} {te to ta tv : TE}
theorem pe_fldK (he : PE X e te) (hb : attributeBase e f X.env (eval e X.env) = eval e X.env) : PE X (.Attribute e f pos) (tFld K te f) := by subst h; exact pe_fld he hb
theorem pi_listK {tg : Expr} (he : PE X e te) : PI X tg e (iList K te) := by subst h; exact pi_list he
theorem pi_tupK {tg : Expr} (he : PE X e te) : PI X tg e (iTup K te) := by subst h; exact pi_tup he
theorem pg_tupK {es : List Expr} {k : Nat} {t : TGs} {n : Nat} (hc : X.calm = true) (g : PGs X es t) (hn : es.length = n := by rfl) (r : PG X (.Tuple es k pos) (gTup X.K n t)) : PG X (.Tuple es k pos) (gTup K n t) := by subst h; exact r
theorem pt_truthK (ha : PE X e te) (he : ∀ whole, isTrue e X.env whole = (do let v ← whole; standAt e.pos; holding [v] (truthy v))) : PT X e (tTru K te) := by subst h; exact pt_truth ha he
theorem p_lenSetK {a : Expr} {p p2 q pos : Pos} (hc : X.calm = true) (hg : Gl X "len") (hm : X.mg "len" = none) (hg2 : Gl X "set") (hm2 : X.mg "set" = none) (ha : PE X a ta)
    (na : starEach [a] X.env = (false, eval a X.env) :: starEach [] X.env := by rfl) : PE X (.Call (.Name "len" p) [.Call (.Name "set" p2) [a] [] q] [] pos) (tLenSet2 K ta) := by subst h; exact p_lenSet hc hg hm hg2 hm2 ha na
theorem ps_fldK {value : Expr} {pos' : Pos} (ha : PE X o ta) (hv : PE X value tv) (hs : swapsWith value (some (.Attribute o f pos')) pos.line X.env = pure false) : PS X (.Assign [.Attribute o f pos'] value pos) (sFld K ta tv f) := by subst h; exact ps_fld ha hv hs
theorem ps_fldaugK {value : Expr} {tpos : Pos} {op : Operator} {rd : V → V → Hp → VK → Prop} (ha : PE X o ta) (hv : PE X value tv) (hop : InOp X op rd) : PS X (.AugAssign (.Attribute o f tpos) op value pos) (sFldAug K ta tv rd f) := by subst h; exact ps_fldaug ha hv hop
theorem pe_joinK {apos : Pos} (ho : PE X o to) (he : PE X e te) (hs : starEach [e] X.env = [(false, eval e X.env)] := by rfl) (hbase : attributeBase o "join" X.env (eval o X.env) = eval o X.env := by rfl) (hline : (apos.endLine == pos.line) = true := by rfl) :
    PE X (.Call (.Attribute o "join" apos) [e] [] pos) (tM1 (fun x xs H Q => ∃ a p, ∃ ys : List Str, x = .str a ∧ xs = [.ref p] ∧ (SqL K H p (ys.map V.str) ∨ SqT K H p (ys.map V.str)) ∧
      (ys.map (·.length)).sum + ys.length * a.length ≤ 16777216 ∧ Q (.str (Txt.join a ys)) H) to te) := by subst h; exact pe_join ho he hs hbase hline
theorem pe_appendK {es : List Expr} {t : TA} {apos : Pos} (ho : PE X o to) (ha : PA X (e :: es) t) (r : PE X (.Call (.Attribute o "append" apos) (e :: es) [] pos) (tBM X.K "list" rAppend to t)) : PE X (.Call (.Attribute o "append" apos) (e :: es) [] pos) (tBM K "list" rAppend to t) := by subst h; exact r
end
end
end Cn
set_option Elab.async false
set_option linter.all false
set_option maxRecDepth 100000
set_option maxHeartbeats 2000000
/-! Cn.B5: comprehensions and loops in short; what is kept. -/
namespace Cn
open PySem L2
theorem sqt_keep {K : PySem.W.Frag} {H H' : Hp} {a : Addr} {xs : List V} (b : But [] H H') (h : SqT K H a xs) : SqT K H' a xs := by
  rcases h with (h | ⟨o, h⟩) | h
  · exact .inl (.inl (b _ _ (by simp) h))
  · exact .inl (.inr ⟨o, b _ _ (by simp) h⟩)
  · exact .inr h
theorem sql_keep {K : PySem.W.Frag} {H H' : Hp} {a : Addr} {xs : List V} (b : But [] H H') (h : SqL K H a xs) : SqL K H' a xs := by
  rcases h with (h | ⟨o, h⟩) | h
  · exact .inl (.inl (b _ _ (by simp) h))
  · exact .inl (.inr ⟨o, b _ _ (by simp) h⟩)
  · exact .inr h
theorem sq_keep {K : PySem.W.Frag} {H H' : Hp} {a : Addr} {xs : List V} (b : But [] H H') (h : SqL K H a xs ∨ SqT K H a xs) : SqL K H' a xs ∨ SqT K H' a xs := h.elim (fun h => .inl (sql_keep b h)) fun h => .inr (sqt_keep b h)
theorem newB {H : Hp} {p : Addr} {o : HO} (h : H p = none) : But [] H (upd H p o) := But.refl.new h
theorem szl {n : Nat} (h : n ≤ 16777216) : n ≤ sizeLine := by rw [sizeLine_eq]; exact h
theorem szt {n : Nat} (h : n < 16777216) : n < sizeLine := by rw [sizeLine_eq]; exact h

section
variable {J : It} {n : Nat} {G : Hp → Prop} {Y : Nat → Hp → V → Hp → Prop}
/-- a comprehension over the values xs whose parts change nothing: the list of F x -/
theorem lc_pure (xs : List V) (F : V → Option V) (w : Walk J n G Y) (hn : n = xs.length) (hY : ∀ i H x H', Y i H x H' → H' = H ∧ xs[i]? = some x) {g : TG} {tt : TT} {te : TE} {vs : List Nat} {σ : St} {H1 : Hp} {D : Addr} {Qd : Hp → Prop}
    (hG : ∀ acc, G (upd H1 D (.lst acc)))
    (hs : ∀ i x acc (N : Hp → Prop), xs[i]? = some x → acc.length ≤ i → (∀ y, F x = some y → N (upd H1 D (.lst (acc ++ [y])))) → (F x = none → N (upd H1 D (.lst acc))) →
      g x (wipe σ vs) (upd H1 D (.lst acc)) fun σ2 H2 => wipe σ2 vs = wipe σ vs ∧ tt σ2 H2 fun b H3 =>
        if b = true then te σ2 H3 fun y H4 => ∃ acc, H4 D = some (.lst acc) ∧ acc.length < sizeLine ∧ N (upd H4 D (.lst (acc ++ [y]))) else N H3)
    (hd : Qd (upd H1 D (.lst (xs.filterMap F)))) :
    ∃ W : Nat → Nat → Hp → Prop, (∃ m, W 0 m (upd H1 D (.lst []))) ∧ ∀ i m H, W i m H →
      (J.stop i H ∧ Qd H) ∨ (J.go i H ∧ ∃ Nx : Hp → Prop, (∀ H', Nx H' → ∃ m', m' < m ∧ W (i + 1) m' H') ∧ ∀ x H', J.yld i H x H' → g x (wipe σ vs) H' fun σ2 H2 => wipe σ2 vs = wipe σ vs ∧ tt σ2 H2 fun b H3 =>
        if b = true then te σ2 H3 fun y H4 => ∃ acc, H4 D = some (.lst acc) ∧ acc.length < sizeLine ∧ Nx (upd H4 D (.lst (acc ++ [y]))) else Nx H3) := by
  refine lc_it w (fun i H' => i ≤ n ∧ H' = upd H1 D (.lst ((xs.take i).filterMap F))) ⟨Nat.zero_le _, by simp⟩ (fun i H' _ e => by rw [e.2]; exact hG _) (fun i x H2 H3 hi e y => ?_) (fun H' e => by rw [e.2, hn, List.take_length]; exact hd)
  obtain ⟨rfl, hx⟩ := hY i _ x _ y
  rw [e.2]
  have st : xs.take (i + 1) = xs.take i ++ [x] := by rw [List.take_add_one, hx]; rfl
  refine hs i x _ (fun H' => i + 1 ≤ n ∧ H' = upd H1 D (.lst ((xs.take (i + 1)).filterMap F))) hx (Nat.le_trans (List.length_filterMap_le ..) (by rw [List.length_take]; omega)) (fun y hy => ⟨hi, ?_⟩) (fun hy => ⟨hi, ?_⟩)
  · rw [st, List.filterMap_append]; simp [hy]
  · rw [st, List.filterMap_append]; simp [hy]
/-- the end of a turn that keeps y -/
theorem lc_put {H1 : Hp} {D : Addr} {acc : List V} {y : V} {N : Hp → Prop} (hz : acc.length < sizeLine) (h : N (upd H1 D (.lst (acc ++ [y])))) :
    ∃ acc', (upd H1 D (.lst acc)) D = some (.lst acc') ∧ acc'.length < sizeLine ∧ N (upd (upd H1 D (.lst acc)) D (.lst (acc' ++ [y]))) :=
  ⟨acc, upd_same, hz, by rw [upd_upd]; exact h⟩
end
section
variable {K : PySem.W.Frag} {a : Addr} {xs : List V}
theorem yat {xs : List V} : ∀ (i : Nat) (H : Hp) (x : V) (H' : Hp), YAt xs i H x H' → H' = H ∧ xs[i]? = some x := fun _ _ _ _ h => h
theorem chars_at {l : T} {i : Nat} {c : Nat} (h : (S l).cps[i]? = some c) : l[i]? = some c := by
  have e : (S l).cps = l.toArray := rfl
  rw [e, List.getElem?_toArray] at h
  exact h
/-- the signs of a text, as values -/
def chs (l : T) : List V := l.map fun c => V.str ⟨#[c]⟩
theorem walk_S {l : T} : Walk (Its (S l)) (chs l).length (fun _ => True) (YAt (chs l)) := by
  have e : (S l).cps.size = (chs l).length := by simp [S, chs]
  rw [← e]
  refine walk_str.mono (fun _ _ => trivial) fun i H x H' _ _ y => ?_
  obtain ⟨h1, c, h2, h3⟩ := y
  refine ⟨h1, ?_⟩
  unfold chs
  rw [List.getElem?_map, chars_at h2, h3]; rfl
end
theorem met_prefix {xs : List Str} : ∀ i, i ≤ xs.length → (xs.take i).Nodup → met xs i = xs.take i
  | 0, _, _ => by simp [met]
  | i + 1, h, nd => by
    have e : xs.take (i + 1) = xs.take i ++ [xs[i]] := by rw [List.take_add_one, List.getElem?_eq_getElem (by omega)]; rfl
    rw [e] at nd ⊢
    have ih := met_prefix i (by omega) (List.nodup_append.mp nd).1
    rw [met_step (by omega), ih]
    have no : ¬ ((xs.take i).any (· == xs[i])) = true := fun z => by
      obtain ⟨y, hy, ey⟩ := List.any_eq_true.mp z
      exact (List.nodup_append.mp nd).2.2 y hy xs[i] (List.mem_singleton.mpr rfl) (eq_of_beq ey)
    rw [if_neg no]
theorem met_full {xs : List Str} : ∀ i, i ≤ xs.length → (met xs i).length = i → (xs.take i).Nodup
  | 0, _, _ => by simp
  | i + 1, h, hl => by
    have e : xs.take (i + 1) = xs.take i ++ [xs[i]] := by rw [List.take_add_one, List.getElem?_eq_getElem (by omega)]; rfl
    have le := met_le xs i (by omega)
    rw [met_step (show i < xs.length by omega)] at hl
    split at hl
    · omega
    · rename_i no
      rw [List.length_append, List.length_singleton] at hl
      have nd := met_full (xs := xs) i (by omega) (by omega)
      have ep := met_prefix i (by omega) nd
      rw [ep] at no
      rw [e]
      refine List.nodup_append.mpr ⟨nd, by simp, fun a ha b hb q => no ?_⟩
      rw [List.mem_singleton.mp hb] at q
      exact List.any_eq_true.mpr ⟨a, ha, by rw [q]; exact beq_self_eq_true _⟩
theorem met_all (xs : List Str) : (met xs xs.length).length = xs.length ↔ xs.Nodup := by
  constructor
  · intro h
    have := met_full xs.length (Nat.le_refl _) h
    rwa [List.take_length] at this
  · intro h
    rw [met_prefix xs.length (Nat.le_refl _) (by rwa [List.take_length]), List.take_length]
theorem nodup_S : ∀ ws : List (List Nat), (ws.map S).Nodup ↔ ws.Nodup
  | [] => by simp
  | a :: r => by
    rw [List.map_cons, List.nodup_cons, List.nodup_cons, nodup_S r]
    have e : S a ∈ r.map S ↔ a ∈ r := ⟨fun z => by
      obtain ⟨b, hb, eb⟩ := List.mem_map.mp z
      rw [← S_inj eb]; exact hb, fun z => List.mem_map.mpr ⟨a, z, rfl⟩⟩
    rw [e]
theorem met_nodup (ws : List (List Nat)) : decide (V.int (((met (ws.map S) (ws.map S).length).length : Nat) : Int) = V.int (((ws.length : Nat)) : Int)) = decide ws.Nodup := by
  have h := met_all (ws.map S)
  rw [nodup_S] at h
  have hl : (ws.map S).length = ws.length := List.length_map ..
  by_cases q : ws.Nodup
  · rw [decide_eq_true q, h.mpr q, hl, decide_eq_true rfl]
  · rw [decide_eq_false q]
    refine decide_eq_false fun z => ?_
    injection z with z
    exact q (h.mp (by omega))
theorem le_sign (c d : Nat) : (!decide ((S [c]).cps.toList < (S [d]).cps.toList)) = decide (d ≤ c) := by
  show (!decide ([c] < [d])) = decide (d ≤ c)
  have e : ([c] < [d]) ↔ c < d := by simp [List.cons_lt_cons_iff]
  by_cases h : d ≤ c
  · rw [decide_eq_true h, decide_eq_false (fun z => by have := e.mp z; omega)]; rfl
  · rw [decide_eq_false h, decide_eq_true (e.mpr (by omega))]; rfl
theorem filterMap_some {α β : Type} (f : α → β) : ∀ l : List α, l.filterMap (fun x => some (f x)) = l.map f := fun l => by
  induction l with
  | nil => rfl
  | cons a r ih => rw [List.map_cons, ← ih]; rfl
theorem in_all (cols others : List T) : (svs others).filterMap (fun v => some (V.bl (inV v (svs cols)))) = (others.map fun o => cols.contains o).map V.bl := by
  rw [filterMap_some]
  show (others.map sv).map _ = _
  rw [List.map_map, List.map_map]
  exact List.map_congr_left fun o _ => by show V.bl (inV (sv o) (svs cols)) = _; rw [inV_svs]; rfl
end Cn
set_option Elab.async false
set_option linter.all false
set_option maxRecDepth 100000
set_option maxHeartbeats 4000000
/-! the program's text, its promises: words and rows -/
namespace Cn
open PySem L2
def top (i : Nat) : Stmt := PySem.Challenge.pw_countonce_k12_bounds_of_reports.main.body.getD i (.Pass ⟨0, 0, 0, 0⟩)
abbrev s_InvalidText_init : Stmt := inClass (top 2) 0
abbrev s_UnknownTable_init : Stmt := inClass (top 3) 0
abbrev s_is_name : Stmt := top 6
abbrev s_is_number : Stmt := top 7
abbrev s_Rows_init : Stmt := inClass (top 8) 0
abbrev s_Rows_all_read : Stmt := inClass (top 8) 1
abbrev s_Rows_begins : Stmt := inClass (top 8) 2
abbrev s_Rows_words : Stmt := inClass (top 8) 3
abbrev s_Rows_need : Stmt := inClass (top 8) 4
abbrev s_Rows_new_name : Stmt := inClass (top 8) 5
abbrev s_Rows_exactly : Stmt := inClass (top 8) 6
abbrev s_Rows_finish : Stmt := inClass (top 8) 7
abbrev s_Table_init : Stmt := inClass (top 15) 0
abbrev s_Schema_init : Stmt := inClass (top 16) 0
abbrev s_Schema_parse : Stmt := inClass (top 16) 1
abbrev s_Schema_table : Stmt := inClass (top 16) 2
abbrev s_Schema_str : Stmt := inClass (top 16) 3
abbrev s_Schema_eq : Stmt := inClass (top 16) 4
abbrev s_optional_columns : Stmt := top 17
abbrev s_table_rows : Stmt := top 18
abbrev s_read_tables : Stmt := top 19
abbrev s_read_table : Stmt := top 20
abbrev s_read_columns : Stmt := top 21
abbrev s_read_keys : Stmt := top 22
abbrev s_are_different : Stmt := top 23
abbrev s_has_all : Stmt := top 24
abbrev s_read_references : Stmt := top 25
abbrev s_read_reference : Stmt := top 26
abbrev s_Report_init : Stmt := inClass (top 32) 0
abbrev s_Report_parse : Stmt := inClass (top 32) 1
abbrev s_Report_str : Stmt := inClass (top 32) 2
abbrev s_Report_eq : Stmt := inClass (top 32) 3
abbrev s_report_rows : Stmt := top 33
abbrev s_column_word : Stmt := top 34
abbrev s_column_of : Stmt := top 35
abbrev s_read_aliases : Stmt := top 36
abbrev s_read_links : Stmt := top 37
abbrev s_read_filters : Stmt := top 38
abbrev s_read_groups : Stmt := top 39
abbrev s_read_measure : Stmt := top 40
abbrev s__law_feed : Stmt := top 42
abbrev s__law_take : Stmt := top 43
abbrev s__law_pick : Stmt := top 44
abbrev s__law_schema : Stmt := top 45
abbrev s__law_told : Stmt := top 46
abbrev s__law_many : Stmt := top 47
abbrev s__law_many_cases : Stmt := top 48
abbrev s__law_order_cases : Stmt := top 49
abbrev s__law_wrong_rows : Stmt := top 50
abbrev s__law_cases : Stmt := top 51
abbrev s__law_heads : Stmt := top 52
abbrev s_law : Stmt := top 53
structure Txt (K : PySem.W.Frag) (mg : Str → Option Value) (CR CT CS : Addr) : Prop where
  b_len : mg "len" = none
  b_all : mg "all" = none
  b_any : mg "any" = none
  b_tuple : mg "tuple" = none
  b_list : mg "list" = none
  b_str : mg "str" = none
  b_set : mg "set" = none
  b_isinstance : mg "isinstance" = none
  clR : Cls K CR
  clT : Cls K CT
  clS : Cls K CS
  naR1 : NoAttr K CR "_rows"
  naR2 : NoAttr K CR "_at"
  naT1 : NoAttr K CT "name"
  naT2 : NoAttr K CT "columns"
  naT3 : NoAttr K CT "unique"
  naT4 : NoAttr K CT "refers"
  naS1 : NoAttr K CS "tables"
  naS2 : NoAttr K CS "_text"
  g_Schema : mg "Schema" = some (.ref CS)
  g_Table : mg "Table" = some (.ref CT)
  g_MOST_TABLES : ∃ t, mg "MOST_TABLES" = some (.int 5 t)
  g_MOST_COLUMNS : ∃ t, mg "MOST_COLUMNS" = some (.int 5 t)
  g_MOST_KEYS : ∃ t, mg "MOST_KEYS" = some (.int 3 t)
  g_MOST_KEY_COLUMNS : ∃ t, mg "MOST_KEY_COLUMNS" = some (.int 3 t)
  g_MOST_REFERENCES : ∃ t, mg "MOST_REFERENCES" = some (.int 2 t)
  nT : CT ≠ CR
  nS : CS ≠ CR
  nTS : CT ≠ CS
section
variable {P : Program} {w : World} {K : PySem.W.Frag} {mg : Str → Option Value} {base : Heap} {CR CT CS CI : Addr} {f : Addr} {fd : FuncData}

/-! ### has_all -/
theorem sc_has_all : FnScope ["columns", "others", "other"] ["columns", "others"] (defScope s_has_all) := ⟨rfl, rfl, rfl, by decide +kernel, rfl, by decide +kernel, by decide +kernel⟩
def sp_has_all (K : PySem.W.Frag) : Sp := fun vs H Q _ => ∃ a b cols others, vs = [.ref a, .ref b] ∧ (SqL K H a (svs cols) ∨ SqT K H a (svs cols)) ∧ SqT K H b (svs others) ∧ others.length ≤ 1000001 ∧
  ∀ H', But [] H H' → Q (.bl (hasAll cols others)) H'
theorem ok_has_all (F : Fun K "has_all" "has_all" s_has_all f fd) (T : Txt K mg CR CT CS) : FnOk P w K mg base (L2.CX P w) 1 f fd ["columns", "others"] (sp_has_all K) := by
  refine F.okX sc_has_all (fun vs H Q E h => ?_) (fun cdv A outer s H vs Q E hr h => ?_)
  · obtain ⟨a, b, cols, others, rfl, _⟩ := h
    rfl
  · obtain ⟨a, b, cols, others, rfl, ha, hb, hz, k⟩ := h
    refine ⟨_, (pss_one (ps_ret (pe_callB (cr_allK K rfl (by rfl)) (by rfl) T.b_all (by decide +kernel) (pa_cons (pe_lc (own := [("other", 2)]) (g := gName 2) (tt := tYes) (by rfl) sc_has_all.nd (pi_tupK K rfl (pv 1)) (blkOk_by (own := [("other", 2)]) (N := ["columns", "others", "other"]) (sc := (defScope s_has_all)) (by decide +kernel)) (fun _ _ _ _ _ => (pg_name (i := 2) sc_has_all.nd rfl (Or.inl rfl))) (fun _ _ _ _ _ => pts_nil) (fun _ _ _ _ _ => (pe_cmpR (op_in_seqK K rfl) (pv 2) (pv 0) (by rfl)))) pa_nil)))), ?_⟩
    refine ⟨_, rfl, b, rfl, ⟨_, hb⟩, fun D hD => ?_⟩
    refine lc_pure (svs others) (fun v => some (.bl (inV v (svs cols)))) (walk_tup (K := K) (a := b)) rfl yat (fun acc => sqt_keep (newB hD) hb) (fun i x acc N hx hl hy _ => ?_) ?_
    · obtain ⟨l, hl', rfl⟩ := svs_get hx
      refine ⟨rfl, _, rfl, _, rfl, _, svs cols, rfl, sq_keep (newB hD) ha, rfl, flat_svs cols, lc_put (szt ?_) (hy _ rfl)⟩
      have := (List.getElem?_eq_some_iff.mp hl').1
      omega
    · refine ⟨D, others.map fun o => cols.contains o, rfl, .inl (.inl (by rw [upd_same, in_all])), ?_⟩
      show Q (.bl ((others.map fun o => cols.contains o).all id)) _
      rw [List.all_map]
      exact k _ (newB hD)

/-! ### are_different -/
theorem sc_are_different : FnScope ["words", "columns"] ["words", "columns"] (defScope s_are_different) := ⟨rfl, rfl, rfl, by decide +kernel, rfl, by decide +kernel, by decide +kernel⟩
def sp_are_diff (K : PySem.W.Frag) : Sp := fun vs H Q _ => ∃ a b ws cols, vs = [.ref a, .ref b] ∧ SqT K H a (svs ws) ∧ (SqL K H b (svs cols) ∨ SqT K H b (svs cols)) ∧ ws.length ≤ 4000 ∧
  ∀ H', But [] H H' → Q (.bl (areDiff ws cols)) H'
theorem ok_are_diff (F : Fun K "are_different" "are_different" s_are_different f fd) (T : Txt K mg CR CT CS) (c_has_all : Cal P w K mg base 1 "has_all" (sp_has_all K)) : FnOk P w K mg base (L2.CX P w) 2 f fd ["words", "columns"] (sp_are_diff K) := by
  refine F.okX sc_are_different (fun vs H Q E h => ?_) (fun cdv A outer s H vs Q E hr h => ?_)
  · obtain ⟨a, b, ws, cols, rfl, _⟩ := h
    rfl
  · obtain ⟨a, b, ws, cols, rfl, ha, hb, hz, k⟩ := h
    refine ⟨_, (pss_one (ps_ret (pe_and (pe_cmpR op_eq (p_lenSetK K rfl (by rfl) (by rfl) T.b_len (by rfl) T.b_set (pv 0)) (pe_callB (call_len_seqK K rfl) (by rfl) T.b_len (by decide +kernel) (pa_cons (pv 0) pa_nil)) (nomark _)) (pe_one (p_call E c_has_all hr (by decide) (by rfl) (passX rfl rfl rfl (takes_of rfl rfl rfl rfl)) (pa_cons (pv 1) (pa_cons (pv 0) pa_nil))))))), ?_⟩
    refine ⟨_, rfl, a, ws.map S, rfl, by rw [← svs_str]; exact ha, by rw [List.length_map]; exact hz, _, rfl, a, _, rfl, .inr ha, rfl, _, rfl, ?_⟩
    have e : decide (V.int (((met (ws.map S) (ws.map S).length).length : Nat) : Int) = V.int ((svs ws).length : Nat)) = decide ws.Nodup := by
      rw [svs_len, met_nodup]
    rw [e]
    unfold areDiff at k
    refine ite2 (fun hd => ?_) (fun hd => ?_)
    · rw [hd, Bool.true_and] at k
      exact ⟨_, rfl, _, rfl, b, a, cols, ws, rfl, hb, ha, by omega, k⟩
    · rw [Bool.not_eq_true] at hd
      rw [hd, Bool.false_and] at k
      exact k _ But.refl

/-! ### is_name -/
theorem sc_is_name : FnScope ["word", "letter"] ["word"] (defScope s_is_name) := ⟨rfl, rfl, rfl, by decide +kernel, rfl, by decide +kernel, by decide +kernel⟩
def sp_is_name : Sp := fun vs H Q _ => ∃ l : T, vs = [sv l] ∧ l.length ≤ 1000001 ∧ ∀ H', But [] H H' → Q (.bl (isName l)) H'
theorem ok_is_name (F : Fun K "is_name" "is_name" s_is_name f fd) (T : Txt K mg CR CT CS) : FnOk P w K mg base (L2.CX P w) 1 f fd ["word"] sp_is_name := by
  refine F.okX sc_is_name (fun vs H Q E h => ?_) (fun cdv A outer s H vs Q E hr h => ?_)
  · obtain ⟨l, rfl, _⟩ := h
    rfl
  · obtain ⟨l, rfl, hz, k⟩ := h
    have hz' : (S l).length ≤ sizeLine := szl (by rw [S_len]; omega)
    refine ⟨_, (pss_one (ps_ret (pe_and (pe_chain op_le op_le pe_int (pe_callB call_len_str (by rfl) T.b_len (by decide +kernel) (pa_cons (pv 0) pa_nil)) pe_int) (pe_one (pe_callB (cr_allK K rfl (by rfl)) (by rfl) T.b_all (by decide +kernel) (pa_cons (pe_lc (own := [("letter", 1)]) (g := gName 1) (tt := tYes) (by rfl) sc_is_name.nd (pi_str (pv 0)) (blkOk_by (own := [("letter", 1)]) (N := ["word", "letter"]) (sc := (defScope s_is_name)) (by decide +kernel)) (fun _ _ _ _ _ => (pg_name (i := 1) sc_is_name.nd rfl (Or.inl rfl))) (fun _ _ _ _ _ => pts_nil) (fun _ _ _ _ _ => (pe_chain op_le_str op_le_str pe_str (pv 1) pe_str))) pa_nil)))))), ?_⟩
    unfold isName at k
    refine ⟨_, rfl, _, rfl, hz', 1, ((S l).length : Nat), rfl, rfl, _, rfl, ?_⟩
    rw [S_len]
    refine ite2 (fun h1 => ?_) (fun h1 => ?_)
    · have h1' : 1 ≤ l.length := by have := of_decide_eq_true h1; omega
      rw [decide_eq_true h1', Bool.true_and] at k
      refine ⟨_, 8, rfl, rfl, _, rfl, ?_⟩
      refine ite2 (fun h2 => ?_) (fun h2 => ?_)
      · have h2' : l.length ≤ 8 := by have := of_decide_eq_true h2; omega
        rw [decide_eq_true h2', Bool.true_and] at k
        refine ⟨_, rfl, _, rfl, fun D hD => ?_⟩
        refine lc_pure (chs l) (fun v => match v with | .str z => some (.bl (decide (97 ≤ z.cps.toList.headD 0) && decide (z.cps.toList.headD 0 ≤ 122))) | _ => none) walk_S rfl yat (fun _ => trivial) (fun i x acc N hx hl hy _ => ?_) ?_
        · obtain ⟨c, hc, rfl⟩ : ∃ c, l[i]? = some c ∧ x = .str ⟨#[c]⟩ := by
            unfold chs at hx
            rw [List.getElem?_map] at hx
            cases e : l[i]? with
            | none => rw [e] at hx; cases hx
            | some c => rw [e] at hx; exact ⟨c, rfl, (Option.some.inj hx).symm⟩
          have hl' : acc.length < sizeLine := szt (by have := (List.getElem?_eq_some_iff.mp hc).1; omega)
          refine ⟨rfl, _, rfl, S [97], S [c], rfl, rfl, _, rfl, ?_⟩
          have e1 : (!decide ((S [c]).cps.toList < (S [97]).cps.toList)) = decide (97 ≤ c) := le_sign c 97
          have hy' := hy _ rfl
          rw [e1]
          refine ite2 (fun h3 => ?_) (fun h3 => ?_)
          · refine ⟨S [c], S [122], rfl, rfl, lc_put hl' ?_⟩
            have e2 : (!decide ((S [122]).cps.toList < (S [c]).cps.toList)) = decide (c ≤ 122) := le_sign 122 c
            rw [e2]
            have e3 : (decide (97 ≤ c) && decide (c ≤ 122)) = decide (c ≤ 122) := by rw [h3, Bool.true_and]
            rw [← e3]
            exact hy'
          · refine lc_put hl' ?_
            have e3 : (decide (97 ≤ c) && decide (c ≤ 122)) = false := by rw [Bool.not_eq_true] at h3; rw [h3, Bool.false_and]
            rw [← e3]
            exact hy'
        · refine ⟨D, l.map fun c => decide (97 ≤ c) && decide (c ≤ 122), rfl, .inl (.inl ?_), ?_⟩
          · rw [upd_same]
            congr 2
            unfold chs
            rw [List.filterMap_map, List.map_map, ← filterMap_some]
            rfl
          · show Q (.bl ((l.map fun c => decide (97 ≤ c) && decide (c ≤ 122)).all id)) _
            rw [List.all_map]
            exact k _ (newB hD)
      · have h2' : ¬ l.length ≤ 8 := fun z => h2 (decide_eq_true (by omega))
        rw [decide_eq_false h2', Bool.false_and] at k
        exact k _ But.refl
    · have h1' : ¬ 1 ≤ l.length := fun z => h1 (decide_eq_true (by omega))
      rw [decide_eq_false h1', Bool.false_and] at k
      exact ⟨_, rfl, iteF (k _ But.refl)⟩
end
end Cn
set_option Elab.async false
set_option linter.all false
set_option maxRecDepth 100000
set_option maxHeartbeats 4000000
/-! the class that reads rows -/
namespace Cn
open PySem L2
section
variable {P : Program} {w : World} {K : PySem.W.Frag} {mg : Str → Option Value} {base : Heap} {CR CT CS CI : Addr} {f : Addr} {fd : FuncData}

/-! ### InvalidText.__init__ -/
theorem sc_InvalidText_init : FnScope ["self", "row"] ["self", "row"] (defScope s_InvalidText_init) := ⟨rfl, rfl, rfl, by decide +kernel, rfl, by decide +kernel, by decide +kernel⟩
theorem ok_InvalidText_init (F : Fun K "__init__" "InvalidText.__init__" s_InvalidText_init f fd) (ox : OexC K CI) (na : PySem.W.findIn K (.ref CI) "row" = some none) : FnOk P w K mg base (L2.CX P w) 1 f fd ["self", "row"] (sp_exinit CI "row") := by
  refine F.okX sc_InvalidText_init (fun vs H Q E h => ?_) (fun cdv A outer s H vs Q E hr h => ?_)
  · obtain ⟨a, v, rfl, _⟩ := h
    rfl
  · obtain ⟨a, v, rfl, ha, k⟩ := h
    refine ⟨_, pss_one (ps_ost (pv 0) (pv 1)), ?_⟩
    exact ⟨_, rfl, _, rfl, a, CI, rfl, ox, na, .inl ⟨ha, k⟩⟩

/-! ### Rows.__init__ -/
theorem sc_Rows_init : FnScope ["self", "text"] ["self", "text"] (defScope s_Rows_init) := ⟨rfl, rfl, rfl, by decide +kernel, rfl, by decide +kernel, by decide +kernel⟩
theorem putF_eq1 {a b : Addr} (l : Addr) (n : Int) : putF "_at" (.int n) (putF "_rows" (.ref l) []) = ([("_rows", .ref l), ("_at", .int n)] : List (Str × V)) := by rfl
def sp_Rows_init (CR : Addr) : Sp := fun vs H Q _ => ∃ (p dx : Addr) (t : T), vs = [.ref p, sv t] ∧ H p = some (.ins CR dx []) ∧ t.length ≤ 900000 ∧
  ∀ H', But [p] H H' → (∃ r, RowsAt CR H' p dx r (splitC 10 t) 0) → Q .non H'
theorem ok_Rows_init (F : Fun K "__init__" "Rows.__init__" s_Rows_init f fd) (T : Txt K mg CR CT CS) : FnOk P w K mg base (L2.CX P w) 1 f fd ["self", "text"] (sp_Rows_init CR) := by
  refine F.okX sc_Rows_init (fun vs H Q E h => ?_) (fun cdv A outer s H vs Q E hr h => ?_)
  · obtain ⟨p, dx, t, rfl, _⟩ := h
    rfl
  · obtain ⟨p, dx, t, rfl, hp, hz, k⟩ := h
    refine ⟨_, (pss_cons (ps_fldK K rfl (pv 0) (pe_split (pv 1) pe_str) rfl)
  (pss_one (ps_fldK K rfl (pv 0) pe_int rfl))), ?_⟩
    refine ⟨_, rfl, ⟨_, rfl⟩, S t, S [10], rfl, rfl, rfl, szl (by rw [S_len]; omega), fun l hl => ?_⟩
    have npl : p ≠ l := ne_of_none hp hl
    refine ⟨_, rfl, p, CR, dx, _, rfl, (by rw [upd_ne npl]; exact hp), T.clR, T.naR1, (by show 0 < 1000; decide), _, rfl, p, CR, dx, _, rfl, upd_same, T.clR, T.naR2, (by show 1 < 1000; decide), ?_⟩
    refine k _ ?_ ⟨l, ?_, ?_, ?_, ?_⟩
    · exact ((But.refl.new hl).put (by simp)).put (by simp)
    · rw [upd_same]; rfl
    · rw [upd_ne npl.symm, upd_ne npl.symm, upd_same]
      have e : Txt.split (S t) (S [10]) = (splitC 10 t).map S := split_S 10 (by decide) t
      show some (HO.lst ((Txt.split (S t) (S [10])).map V.str)) = _
      rw [e, svs_str]
    · have := splitC_len 10 t; omega
    · intro r hr'; have := splitC_mem 10 t r hr'; omega

/-! ### all_read, begins -/
theorem sc_Rows_all_read : FnScope ["self"] ["self"] (defScope s_Rows_all_read) := ⟨rfl, rfl, rfl, by decide +kernel, rfl, by decide +kernel, by decide +kernel⟩
theorem sc_Rows_begins : FnScope ["self", "start"] ["self", "start"] (defScope s_Rows_begins) := ⟨rfl, rfl, rfl, by decide +kernel, rfl, by decide +kernel, by decide +kernel⟩
theorem sc_Rows_words : FnScope ["self", "start", "row"] ["self", "start"] (defScope s_Rows_words) := ⟨rfl, rfl, rfl, by decide +kernel, rfl, by decide +kernel, by decide +kernel⟩
theorem sc_Rows_need : FnScope ["self", "holds"] ["self", "holds"] (defScope s_Rows_need) := ⟨rfl, rfl, rfl, by decide +kernel, rfl, by decide +kernel, by decide +kernel⟩
theorem sc_Rows_new_name : FnScope ["self", "start", "taken", "words"] ["self", "start", "taken"] (defScope s_Rows_new_name) := ⟨rfl, rfl, rfl, by decide +kernel, rfl, by decide +kernel, by decide +kernel⟩
theorem sc_Rows_exactly : FnScope ["self", "row"] ["self", "row"] (defScope s_Rows_exactly) := ⟨rfl, rfl, rfl, by decide +kernel, rfl, by decide +kernel, by decide +kernel⟩
theorem rf_rows {l : Addr} {n : Nat} : (rf l n).lookup ("_rows" : Str) = some (.ref l) := by rfl
theorem rf_at {l : Addr} {n : Nat} : (rf l n).lookup ("_at" : Str) = some (.int n) := by rfl
def sp_all_read (CR : Addr) : Sp := fun vs H Q _ => ∃ p dx l L n, vs = [.ref p] ∧ RowsAt CR H p dx l L n ∧ Q (.bl (n == L.length)) H
theorem ok_all_read (F : Fun K "all_read" "Rows.all_read" s_Rows_all_read f fd) (T : Txt K mg CR CT CS) : FnOk P w K mg base (L2.CX P w) 1 f fd ["self"] (sp_all_read CR) := by
  refine F.okX sc_Rows_all_read (fun vs H Q E h => ?_) (fun cdv A outer s H vs Q E hr h => ?_)
  · obtain ⟨p, dx, l, L, n, rfl, _⟩ := h
    rfl
  · obtain ⟨p, dx, l, L, n, rfl, R, k⟩ := h
    obtain ⟨hp, hl, _⟩ := id R
    refine ⟨_, (pss_one (ps_ret (pe_cmpR op_eq (pe_fldK K rfl (pv 0) rfl) (pe_callB (call_len_seqK K rfl) (by rfl) T.b_len (by decide +kernel) (pa_cons (pe_fldK K rfl (pv 0) rfl) pa_nil)) (nomark _)))), ?_⟩
    refine ⟨_, rfl, p, CR, dx, _, _, rfl, hp, T.clR, T.naR2, rf_at, _, rfl, p, CR, dx, _, _, rfl, hp, T.clR, T.naR1, rf_rows, l, _, rfl, .inl (SqL.of hl), rfl, ?_⟩
    have e : decide (V.int (n : Int) = V.int ((svs L).length : Nat)) = (n == L.length) := by
      rw [svs_len]
      by_cases q : n = L.length
      · subst q; simp
      · rw [beq_eq_false_iff_ne.mpr q]
        exact decide_eq_false fun z => q (by injection z with z; omega)
    rw [e]
    exact k
def sp_begins (CR : Addr) : Sp := fun vs H Q _ => ∃ p dx l L n st, vs = [.ref p, sv st] ∧ RowsAt CR H p dx l L n ∧ n ≤ L.length ∧ Q (.bl (begins L n st)) H
theorem svs_ati {L : List T} {n : Nat} {r : T} (h : L[n]? = some r) : atI (svs L) (n : Int) = some (sv r) := atI_nat (svs_at h)
theorem ok_begins (F : Fun K "begins" "Rows.begins" s_Rows_begins f fd) (T : Txt K mg CR CT CS) (c_Rows_all_read : Met P w K mg base 1 CR "all_read" (sp_all_read CR)) : FnOk P w K mg base (L2.CX P w) 2 f fd ["self", "start"] (sp_begins CR) := by
  refine F.okX sc_Rows_begins (fun vs H Q E h => ?_) (fun cdv A outer s H vs Q E hr h => ?_)
  · obtain ⟨p, dx, l, L, n, st, rfl, _⟩ := h
    rfl
  · obtain ⟨p, dx, l, L, n, st, rfl, R, hn, k⟩ := h
    obtain ⟨hp, hl, _⟩ := id R
    refine ⟨_, (pss_one (ps_ret (pe_and (pe_not (p_meth0 E c_Rows_all_read hr (by decide) (passX rfl rfl rfl (takes_of rfl rfl rfl rfl)) (pv 0))) (pe_one (pe_m1 PySem.F.slot_str_startswith PySem.F.type_str_startswith mt_startswith (pe_ix (ix_listK K rfl) (pe_fldK K rfl (pv 0) rfl) (pe_fldK K rfl (pv 0) rfl) (fun _ _ => rfl)) (pv 1)))))), ?_⟩
    refine ⟨_, rfl, p, dx, _, rfl, hp, rfl, p, dx, l, L, n, rfl, R, _, rfl, _, rfl, ?_⟩
    unfold begins at k
    by_cases q : n = L.length
    · have e : (n == L.length) = true := by simp [q]
      rw [e]
      refine iteF ?_
      have e2 : L[n]? = none := by rw [q]; simp
      rw [e2] at k
      exact k
    · have e : (n == L.length) = false := by simp [q]
      rw [e]
      refine iteT ?_
      obtain ⟨r, hr'⟩ : ∃ r, L[n]? = some r := ⟨L[n]'(by omega), List.getElem?_eq_getElem _⟩
      rw [hr'] at k
      refine ⟨_, rfl, p, CR, dx, _, _, rfl, hp, T.clR, T.naR1, rf_rows, _, rfl, p, CR, dx, _, _, rfl, hp, T.clR, T.naR2, rf_at, l, svs L, n, sv r, rfl, rfl, SqL.of hl, svs_ati hr', ⟨_, rfl⟩, _, rfl, S r, S st, rfl, rfl, ?_⟩
      rw [starts_S]
      exact k

/-! ### words -/
def sp_words (CR CI : Addr) : Sp := fun vs H Q E => ∃ p dx l L n st, vs = [.ref p, sv st] ∧ RowsAt CR H p dx l L n ∧ n ≤ L.length ∧ st.length ≤ 100 ∧ match words L n st with
  | none => ErrE CI p H E n
  | some ws => ∀ H' a, But [p] H H' → RowsAt CR H' p dx l L (n + 1) → H a = none → H' a = some (.lst (svs ws)) → Q (.ref a) H'
theorem ok_words (F : Fun K "words" "Rows.words" s_Rows_words f fd) (T : Txt K mg CR CT CS) (c_Rows_begins : Met P w K mg base 2 CR "begins" (sp_begins CR)) (x_InvalidText : Xn P w K mg base 1 "InvalidText" "row" CI) :
    FnOk P w K mg base (L2.CX P w) 3 f fd ["self", "start"] (sp_words CR CI) := by
  refine F.okX sc_Rows_words (fun vs H Q E h => ?_) (fun cdv A outer s H vs Q E hr h => ?_)
  · obtain ⟨p, dx, l, L, n, st, rfl, _⟩ := h
    rfl
  · obtain ⟨p, dx, l, L, n, st, rfl, R, hn, hst, k⟩ := h
    obtain ⟨hp, hl, hz1, hz2⟩ := id R
    refine ⟨_, (pss_cons (ps_if (pt_not (pt_val (p_meth E c_Rows_begins hr (by decide) (passX rfl rfl rfl (takes_of rfl rfl rfl rfl)) (pv 0) (pa_cons (pv 1) pa_nil))))
  (pss_one (p_raise x_InvalidText hr (by decide) (takes_of rfl rfl rfl rfl) (by rfl) (pa_cons (pe_fldK K rfl (pv 0) rfl) pa_nil)))
  pss_nil)
  (pss_cons (ps_set (i := 2) sc_Rows_words.nd rfl (Or.inl rfl) (pe_ix (ix_listK K rfl) (pe_fldK K rfl (pv 0) rfl) (pe_fldK K rfl (pv 0) rfl) (fun _ _ => rfl)))
  (pss_cons (ps_fldaugK K rfl (pv 0) pe_int in_add)
  (pss_one (ps_ret (pe_split (pe_slice sl_str (pv 2) (po_some (pe_callB call_len_str (by rfl) T.b_len (by decide +kernel) (pa_cons (pv 1) pa_nil))) po_none) pe_str)))))), ?_⟩
    refine ⟨_, rfl, p, dx, _, rfl, hp, rfl, _, rfl, p, dx, l, L, n, st, rfl, R, hn, _, rfl, ?_⟩
    cases hr' : L[n]? with
    | none =>
      have e1 : begins L n st = false := by unfold begins; rw [hr']
      have e2 : words L n st = none := by unfold words; rw [hr']
      rw [e2] at k
      rw [e1]
      refine iteT ?_
      refine ⟨_, rfl, p, CR, dx, _, _, rfl, hp, T.clR, T.naR2, rf_at, fun H' d b _ hd => k H' d (But.of b) hd⟩
    | some r =>
      cases hp' : isPre st r with
      | false =>
        have e1 : begins L n st = false := by unfold begins; rw [hr']; exact hp'
        have e2 : words L n st = none := by unfold words; rw [hr']; simp [hp']
        rw [e2] at k
        rw [e1]
        refine iteT ?_
        refine ⟨_, rfl, p, CR, dx, _, _, rfl, hp, T.clR, T.naR2, rf_at, fun H' d b _ hd => k H' d (But.of b) hd⟩
      | true =>
        have e1 : begins L n st = true := by unfold begins; rw [hr']; exact hp'
        have e2 : words L n st = some (splitC 32 (r.drop st.length)) := by unfold words; rw [hr']; simp [hp']
        rw [e2] at k
        rw [e1]
        refine iteF ?_
        have hrz : r.length ≤ 1000000 := hz2 r (List.mem_of_getElem? hr')
        refine ⟨_, rfl, p, CR, dx, _, _, rfl, hp, T.clR, T.naR1, rf_rows, _, rfl, p, CR, dx, _, _, rfl, hp, T.clR, T.naR2, rf_at, l, svs L, n, sv r, rfl, rfl, SqL.of hl, svs_ati hr', ?_⟩
        refine ⟨_, rfl, p, CR, dx, _, _, rfl, hp, T.clR, T.naR2, rf_at, n, 1, rfl, rfl, dx, _, hp, (by show 2 < 1000; decide), ?_⟩
        have hlp : l ≠ p := ne_of hl hp (by intro z; cases z)
        refine ⟨_, rfl, _, rfl, S st, rfl, szl (by rw [S_len]; omega), _, rfl, S r, rfl, szl (by rw [S_len]; omega), ⟨_, rfl⟩, S (r.drop st.length), S [32], ?_, rfl, rfl, szl (by rw [S_len, List.length_drop]; omega), fun a ha => ?_⟩
        · rw [S_len, cutS_drop]
        · have ha0 : H a = none := by
            cases q : H a with
            | none => rfl
            | some o =>
              by_cases z : a = p
              · rw [z, upd_same] at ha; cases ha
              · rw [upd_ne z, q] at ha; cases ha
          have nap : a ≠ p := fun z => by rw [z, hp] at ha0; cases ha0
          have nal : a ≠ l := fun z => by rw [z, hl] at ha0; cases ha0
          refine k _ a ((But.refl.put (by simp)).new ha) ⟨?_, ?_, hz1, hz2⟩ ha0 ?_
          · rw [upd_ne nap.symm, upd_same]; rfl
          · rw [upd_ne nal.symm, upd_ne hlp]; exact hl
          · rw [upd_same]
            have e : Txt.split (S (r.drop st.length)) (S [32]) = (splitC 32 (r.drop st.length)).map S := split_S 32 (by decide) _
            rw [e, svs_str]

/-! ### need, new_name, exactly -/
def sp_need (CR CI : Addr) : Sp := fun vs H Q E => ∃ p dx l L n b, vs = [.ref p, .bl b] ∧ RowsAt CR H p dx l L (n + 1) ∧ if b = true then Q .non H else ErrE CI p H E n
theorem ok_need (F : Fun K "need" "Rows.need" s_Rows_need f fd) (T : Txt K mg CR CT CS) (x_InvalidText : Xn P w K mg base 1 "InvalidText" "row" CI) : FnOk P w K mg base (L2.CX P w) 3 f fd ["self", "holds"] (sp_need CR CI) := by
  refine F.okX sc_Rows_need (fun vs H Q E h => ?_) (fun cdv A outer s H vs Q E hr h => ?_)
  · obtain ⟨p, dx, l, L, n, b, rfl, _⟩ := h
    rfl
  · obtain ⟨p, dx, l, L, n, b, rfl, R, k⟩ := h
    obtain ⟨hp, hl, _⟩ := id R
    refine ⟨_, (pss_one (ps_if (pt_not (pt_val (pv 1)))
  (pss_one (p_raise x_InvalidText hr (by decide) (takes_of rfl rfl rfl rfl) (by rfl) (pa_cons (pe_op op_sub (pe_fldK K rfl (pv 0) rfl) pe_int) pa_nil)))
  pss_nil)), ?_⟩
    refine ⟨_, rfl, _, rfl, ?_⟩
    cases b with
    | true => exact iteF k
    | false =>
      refine iteT ?_
      refine ⟨_, rfl, p, CR, dx, _, _, rfl, hp, T.clR, T.naR2, rf_at, ((n + 1 : Nat) : Int), 1, rfl, rfl, fun H' d b _ hd => k H' d (But.of b) ?_⟩
      have e : ((n + 1 : Nat) : Int) - 1 = (n : Int) := by omega
      have hd' : H' d = some (.xd [("row", .int (((n + 1 : Nat) : Int) - 1))]) := hd
      rw [e] at hd'
      exact hd'
def sp_new_name (K : PySem.W.Frag) (CR CI : Addr) : Sp := fun vs H Q E => ∃ p dx l t L n st taken, vs = [.ref p, sv st, .ref t] ∧ RowsAt CR H p dx l L n ∧ n ≤ L.length ∧ st.length ≤ 100 ∧ H t = some (.lst (svs taken)) ∧ match newName L n st taken with
  | .error e => ErrE CI p H E e
  | .ok nm => ∀ H', But [p] H H' → RowsAt CR H' p dx l L (n + 1) → Q (sv nm) H'
theorem ok_new_name (F : Fun K "new_name" "Rows.new_name" s_Rows_new_name f fd) (T : Txt K mg CR CT CS) (c_Rows_words : Met P w K mg base 3 CR "words" (sp_words CR CI)) (c_Rows_need : Met P w K mg base 3 CR "need" (sp_need CR CI))
    (c_is_name : Cal P w K mg base 1 "is_name" sp_is_name) : FnOk P w K mg base (L2.CX P w) 4 f fd ["self", "start", "taken"] (sp_new_name K CR CI) := by
  refine F.okX sc_Rows_new_name (fun vs H Q E h => ?_) (fun cdv A outer s H vs Q E hr h => ?_)
  · obtain ⟨p, dx, l, t, L, n, st, taken, rfl, _⟩ := h
    rfl
  · obtain ⟨p, dx, l, t, L, n, st, taken, rfl, R, hn, hst, ht, k⟩ := h
    obtain ⟨hp, hl, hz1, hz2⟩ := id R
    have htp : t ≠ p := ne_of ht hp (by intro z; cases z)
    refine ⟨_, (pss_cons (ps_set (i := 3) sc_Rows_new_name.nd rfl (Or.inl rfl) (p_meth E c_Rows_words hr (by decide) (passX rfl rfl rfl (takes_of rfl rfl rfl rfl)) (pv 0) (pa_cons (pv 1) pa_nil)))
  (pss_cons (ps_expr (p_meth E c_Rows_need hr (by decide) (passX rfl rfl rfl (takes_of rfl rfl rfl rfl)) (pv 0) (pa_cons (pe_and (pe_cmpR op_eq (pe_callB (call_len_seqK K rfl) (by rfl) T.b_len (by decide +kernel) (pa_cons (pv 3) pa_nil)) pe_int (nomark _)) (pe_and (p_call E c_is_name hr (by decide) (by rfl) (passX rfl rfl rfl (takes_of rfl rfl rfl rfl)) (pa_cons (pe_ix (ix_listK K rfl) (pv 3) pe_int (fun _ _ => rfl)) pa_nil)) (pe_one (pe_cmpR (op_notIn_seqK K rfl) (pe_ix (ix_listK K rfl) (pv 3) pe_int (fun _ _ => rfl)) (pv 2) (by rfl))))) pa_nil)))
  (pss_one (ps_ret (pe_ix (ix_listK K rfl) (pv 3) pe_int (fun _ _ => rfl)))))), ?_⟩
    refine ⟨_, rfl, p, dx, _, rfl, hp, rfl, _, rfl, p, dx, l, L, n, st, rfl, R, hn, hst, ?_⟩
    cases hw : words L n st with
    | none =>
      have e : newName L n st taken = .error n := by unfold newName; rw [hw]
      rw [e] at k
      exact k
    | some ws =>
      intro H1 a b1 R1 ha0 ha
      have hp1 := R1.at_
      have ht1 := b1.at1 ht htp
      -- the test: one word, a name, not taken
      have hws : ∀ u ∈ ws, u.length ≤ 1000000 := fun u hu => by
        unfold words at hw
        split at hw
        · rename_i r hr'
          split at hw
          · cases hw
            have := splitC_mem 32 _ u hu
            have := hz2 r (List.mem_of_getElem? hr')
            rw [List.length_drop] at *
            omega
          · cases hw
        · cases hw
      have fin : ∀ (b : Bool) H2 (G : Prop), But [] H1 H2 → b = (ws.length == 1 && (isName (ws.headD []) && !taken.contains (ws.headD []))) → (b = true → G) → ∃ p' d' l' L' n' b', [V.ref p, V.bl b] = [V.ref p', V.bl b'] ∧ RowsAt CR H2 p' d' l' L' (n' + 1) ∧ if b' = true then G else ErrE CI p' H2 E n' := fun b H2 G b2 e q => by
        refine ⟨p, dx, l, L, n, b, rfl, R1.keep0 b2, ?_⟩
        cases b with
        | true => exact iteT (q rfl)
        | false =>
          have e3 : newName L n st taken = .error n := by unfold newName; rw [hw]; simp only [← e]; rfl
          rw [e3] at k
          exact iteF (k.later (b1.trans (But.of b2)))
      refine ⟨_, rfl, p, dx, _, rfl, hp1, rfl, ?_⟩
      refine ⟨_, rfl, a, _, rfl, .inl (SqL.of ha), rfl, _, rfl, ?_⟩
      rw [svs_len]
      have el : decide (V.int ((ws.length : Nat) : Int) = V.int 1) = (ws.length == 1) := by
        by_cases q : ws.length = 1
        · rw [q]; rfl
        · rw [beq_eq_false_iff_ne.mpr q]
          exact decide_eq_false fun z => q (by injection z with z; omega)
      rw [el]
      by_cases h1 : ws.length = 1
      · obtain ⟨nm, rfl⟩ : ∃ nm, ws = [nm] := by
          cases ws with
          | nil => simp at h1
          | cons a r => cases r with
            | nil => exact ⟨a, rfl⟩
            | cons b r => simp at h1
        have at0 : atI (svs [nm]) 0 = some (sv nm) := rfl
        refine iteT ⟨_, rfl, a, svs [nm], 0, sv nm, rfl, rfl, SqL.of ha, at0, nm, rfl, ?_, fun H2 b2 => ?_⟩
        · have := hws nm (by simp); omega
        · refine ⟨_, rfl, ?_⟩
          cases hn' : isName nm with
          | false => exact iteF (fin false H2 _ b2 (by simp [hn']) fun z => by cases z)
          | true =>
            refine iteT ⟨_, rfl, a, svs [nm], 0, sv nm, rfl, rfl, SqL.of (b2.at ha), at0, _, rfl, t, svs taken, rfl, .inl (SqL.of (b2.at ht1)), rfl, flat_svs _, ?_⟩
            have ei : (if true = true then !inV (sv nm) (svs taken) else inV (sv nm) (svs taken)) = !taken.contains nm := by rw [if_pos rfl, inV_svs]
            rw [ei]
            refine fin _ H2 _ b2 (by simp [hn']) fun z => ?_
            have e3 : newName L n st taken = .ok nm := by
              unfold newName
              rw [hw]
              show (if (true && (isName nm && !taken.contains nm)) = true then Except.ok nm else Except.error n) = Except.ok nm
              rw [hn', z]; rfl
            rw [e3] at k
            exact ⟨_, rfl, a, svs [nm], 0, sv nm, rfl, rfl, SqL.of (b2.at ha), at0, k H2 (b1.trans (But.of b2)) (R1.keep0 b2)⟩
      · have e1 : (ws.length == 1) = false := beq_eq_false_iff_ne.mpr h1
        rw [e1]
        exact iteF (fin false H1 _ But.refl (by rw [e1]; rfl) fun z => by cases z)
def sp_exactly (CR CI : Addr) : Sp := fun vs H Q E => ∃ p dx l L n r, vs = [.ref p, sv r] ∧ RowsAt CR H p dx l L n ∧ n ≤ L.length ∧ if exactly L n r = true then ∀ H', But [p] H H' → RowsAt CR H' p dx l L (n + 1) → Q .non H' else ErrE CI p H E n
theorem ok_exactly (F : Fun K "exactly" "Rows.exactly" s_Rows_exactly f fd) (T : Txt K mg CR CT CS) (c_Rows_all_read : Met P w K mg base 1 CR "all_read" (sp_all_read CR)) (x_InvalidText : Xn P w K mg base 1 "InvalidText" "row" CI) :
    FnOk P w K mg base (L2.CX P w) 3 f fd ["self", "row"] (sp_exactly CR CI) := by
  refine F.okX sc_Rows_exactly (fun vs H Q E h => ?_) (fun cdv A outer s H vs Q E hr h => ?_)
  · obtain ⟨p, dx, l, L, n, r, rfl, _⟩ := h
    rfl
  · obtain ⟨p, dx, l, L, n, r, rfl, R, hn, k⟩ := h
    obtain ⟨hp, hl, hz1, hz2⟩ := id R
    refine ⟨_, (pss_cons (ps_if (PW.pt (pw_or (pt_val (p_meth0 E c_Rows_all_read hr (by decide) (passX rfl rfl rfl (takes_of rfl rfl rfl rfl)) (pv 0))) (pw_or1 (pt_cmpR op_ne (pe_ix (ix_listK K rfl) (pe_fldK K rfl (pv 0) rfl) (pe_fldK K rfl (pv 0) rfl) (fun _ _ => rfl)) (pv 1) (nomark _)))))
  (pss_one (p_raise x_InvalidText hr (by decide) (takes_of rfl rfl rfl rfl) (by rfl) (pa_cons (pe_fldK K rfl (pv 0) rfl) pa_nil)))
  pss_nil)
  (pss_one (ps_fldaugK K rfl (pv 0) pe_int in_add))), ?_⟩
    refine ⟨_, rfl, p, dx, _, rfl, hp, rfl, p, dx, l, L, n, rfl, R, _, rfl, ?_⟩
    by_cases q : n = L.length
    · have e1 : (n == L.length) = true := by simp [q]
      have e2 : exactly L n r = false := by unfold exactly; rw [q]; simp
      rw [e1]
      rw [e2] at k
      refine iteT (iteT ⟨_, rfl, p, CR, dx, _, _, rfl, hp, T.clR, T.naR2, rf_at, fun H' d b _ hd => ?_⟩)
      exact k H' d (But.of b) hd
    · have e1 : (n == L.length) = false := by simp [q]
      rw [e1]
      obtain ⟨r', hr'⟩ : ∃ r', L[n]? = some r' := ⟨L[n]'(by omega), List.getElem?_eq_getElem _⟩
      refine iteF ⟨_, rfl, p, CR, dx, _, _, rfl, hp, T.clR, T.naR1, rf_rows, _, rfl, p, CR, dx, _, _, rfl, hp, T.clR, T.naR2, rf_at, l, svs L, n, sv r', rfl, rfl, SqL.of hl, svs_ati hr', _, rfl, rfl, _, rfl, ?_⟩
      by_cases e : r' = r
      · subst e
        have e2 : exactly L n r' = true := by unfold exactly; rw [hr']; simp
        rw [e2] at k
        rw [show (!decide (sv r' = sv r')) = false by simp]
        refine iteF ⟨_, rfl, p, CR, dx, _, _, rfl, hp, T.clR, T.naR2, rf_at, n, 1, rfl, rfl, dx, _, hp, (by show 2 < 1000; decide), ?_⟩
        have hlp : l ≠ p := ne_of hl hp (by intro z; cases z)
        refine k _ (But.refl.put (by simp)) ⟨?_, ?_, hz1, hz2⟩
        · rw [upd_same]; rfl
        · rw [upd_ne hlp]; exact hl
      · have e2 : exactly L n r = false := by unfold exactly; rw [hr']; simp [e]
        rw [e2] at k
        have e3 : (!decide (sv r' = sv r)) = true := by
          have : sv r' ≠ sv r := fun z => e (by injection z with z; exact S_inj z)
          simp [this]
        rw [e3]
        exact iteT ⟨_, rfl, p, CR, dx, _, _, rfl, hp, T.clR, T.naR2, rf_at, fun H' d b _ hd => k H' d (But.of b) hd⟩
end
end Cn
set_option Elab.async false
set_option linter.all false
set_option maxRecDepth 100000
set_option maxHeartbeats 2000000
/-! Cn.B6: comprehensions whose parts make new things. -/
namespace Cn
open PySem L2
section
variable {J : It} {n : Nat} {G : Hp → Prop} {Y : Nat → Hp → V → Hp → Prop}
theorem range_succ_fm (F : Nat → Option V) (i : Nat) : (List.range (i + 1)).filterMap F = (List.range i).filterMap F ++ (F i).toList := by
  rw [List.range_succ, List.filterMap_append]
  cases h : F i <;> simp [h]
/-- the i-th turn gives F i (none: nothing is kept); what stood before stays -/
theorem lc_grow (F : Nat → Option V) (w : Walk J n G Y) {g : TG} {tt : TT} {te : TE} {vs : List Nat} {σ : St} {H1 : Hp} {D : Addr} {Qd : Hp → Prop} (hD : H1 D = none)
    (hG : ∀ H', But [] H1 H' → G H')
    (hs : ∀ i x acc H2 H' (N : Hp → Prop), i < n → acc.length ≤ i → But [] H1 H2 → H2 D = some (.lst acc) → Y i H2 x H' → (∀ y H'', F i = some y → But [] H1 H'' → H'' D = some (.lst (acc ++ [y])) → N H'') → (∀ H'', F i = none → But [] H1 H'' → H'' D = some (.lst acc) → N H'') →
      g x (wipe σ vs) H' fun σ2 H2 => wipe σ2 vs = wipe σ vs ∧ tt σ2 H2 fun b H3 =>
        if b = true then te σ2 H3 fun y H4 => ∃ acc, H4 D = some (.lst acc) ∧ acc.length < sizeLine ∧ N (upd H4 D (.lst (acc ++ [y]))) else N H3)
    (hd : ∀ H', But [] H1 H' → H' D = some (.lst ((List.range n).filterMap F)) → Qd H') :
    ∃ W : Nat → Nat → Hp → Prop, (∃ m, W 0 m (upd H1 D (.lst []))) ∧ ∀ i m H, W i m H →
      (J.stop i H ∧ Qd H) ∨ (J.go i H ∧ ∃ Nx : Hp → Prop, (∀ H', Nx H' → ∃ m', m' < m ∧ W (i + 1) m' H') ∧ ∀ x H', J.yld i H x H' → g x (wipe σ vs) H' fun σ2 H2 => wipe σ2 vs = wipe σ vs ∧ tt σ2 H2 fun b H3 =>
        if b = true then te σ2 H3 fun y H4 => ∃ acc, H4 D = some (.lst acc) ∧ acc.length < sizeLine ∧ Nx (upd H4 D (.lst (acc ++ [y]))) else Nx H3) := by
  refine lc_it w (fun i H' => i ≤ n ∧ But [] H1 H' ∧ H' D = some (.lst ((List.range i).filterMap F))) ⟨Nat.zero_le _, But.refl.new hD, upd_same⟩ (fun i H' _ e => hG _ e.2.1) (fun i x H2 H3 hi e y => ?_) (fun H' e => hd H' e.2.1 e.2.2)
  refine hs i x _ H2 H3 (fun H' => i + 1 ≤ n ∧ But [] H1 H' ∧ H' D = some (.lst ((List.range (i + 1)).filterMap F))) hi (Nat.le_trans (List.length_filterMap_le ..) (by rw [List.length_range]; exact Nat.le_refl _)) e.2.1 e.2.2 y (fun y H'' hy b hx => ⟨hi, b, ?_⟩) (fun H'' hy b hx => ⟨hi, b, ?_⟩)
  · rw [range_succ_fm, hy]; exact hx
  · rw [range_succ_fm, hy]; simpa using hx
/-- the end of a turn that keeps y -/
theorem lc_putG {H1 H4 : Hp} {D : Addr} {acc : List V} {y : V} {N : Hp → Prop} (b : But [] H1 H4) (hD : H1 D = none) (h4 : H4 D = some (.lst acc)) (hz : acc.length < 16777216) (h : ∀ H'', But [] H1 H'' → H'' D = some (.lst (acc ++ [y])) → N H'') :
    ∃ acc', H4 D = some (.lst acc') ∧ acc'.length < sizeLine ∧ N (upd H4 D (.lst (acc' ++ [y]))) :=
  ⟨acc, h4, szt hz, h _ (b.put0 hD) upd_same⟩
theorem range_map {α β : Type} (f : α → β) : ∀ xs : List α, (List.range xs.length).filterMap (fun i => (xs[i]?).map f) = xs.map f
  | [] => rfl
  | a :: r => by
    have ih := range_map f r
    rw [List.length_cons, List.range_succ_eq_map, List.filterMap_cons]
    show f a :: ((List.range r.length).map Nat.succ).filterMap _ = _
    rw [List.filterMap_map, List.map_cons, ← ih]
    congr 1
end
end Cn
namespace Cn
open PySem L2
/-- what is kept of rows of things, by a test on the things -/
theorem each_filter {α : Type} {R : V → α → Prop} (c : α → Bool) : ∀ {vs : List V} {xs : List α}, Each R vs xs → Each R ((List.range vs.length).filterMap fun i => (xs[i]?).bind fun x => if c x then vs[i]? else none) (xs.filter c)
  | [], [], _ => Each.nil
  | [], _ :: _, h => by have := h.1; simp at this
  | _ :: _, [], h => by have := h.1; simp at this
  | v :: vs, x :: xs, h => by
    have hv : R v x := h.2 0 v x rfl rfl
    have ht : Each R vs xs := ⟨by have := h.1; simpa using this, fun i a b p q => h.2 (i + 1) a b (by simpa using p) (by simpa using q)⟩
    have ih := each_filter c ht
    have e : (List.range (v :: vs).length).filterMap (fun i => ((x :: xs)[i]?).bind fun x => if c x then (v :: vs)[i]? else none) = (if c x then [v] else []) ++ (List.range vs.length).filterMap (fun i => (xs[i]?).bind fun x => if c x then vs[i]? else none) := by
      rw [List.length_cons, List.range_succ_eq_map, List.filterMap_cons, List.filterMap_map]
      have e2 : ((fun i => ((x :: xs)[i]?).bind fun x => if c x then (v :: vs)[i]? else none) ∘ Nat.succ) = (fun i => (xs[i]?).bind fun x => if c x then vs[i]? else none) := rfl
      rw [e2]
      cases h : c x <;> simp [h]
    rw [e]
    cases hc : c x with
    | true =>
      have e3 : (x :: xs).filter c = x :: xs.filter c := by rw [List.filter_cons, if_pos hc]
      rw [e3]
      refine ⟨by simp [ih.1], fun i a b p q => ?_⟩
      cases i with
      | zero => simp at p q; subst p; subst q; exact hv
      | succ i => exact ih.2 i a b (by simpa using p) (by simpa using q)
    | false =>
      have e3 : (x :: xs).filter c = xs.filter c := by rw [List.filter_cons, if_neg (by rw [hc]; exact Bool.false_ne_true)]
      rw [e3]
      simpa using ih
/-- any turn-by-turn walk within a comprehension: Z N x H' says what a turn with x at H' owes, N what it hands on -/
theorem turns {J : It} {n : Nat} {G : Hp → Prop} {Y : Nat → Hp → V → Hp → Prop} (w : Walk J n G Y) {Z : (Hp → Prop) → V → Hp → Prop} {Hs : Hp} {Qd : Hp → Prop} (Pv : Nat → Hp → Prop) (h0 : Pv 0 Hs) (hG : ∀ i H, i ≤ n → Pv i H → G H)
    (hs : ∀ i x H H', i < n → Pv i H → Y i H x H' → Z (Pv (i + 1)) x H') (hd : ∀ H, Pv n H → Qd H) :
    ∃ W : Nat → Nat → Hp → Prop, (∃ m, W 0 m Hs) ∧ ∀ i m H, W i m H → (J.stop i H ∧ Qd H) ∨ (J.go i H ∧ ∃ Nx : Hp → Prop, (∀ H', Nx H' → ∃ m', m' < m ∧ W (i + 1) m' H') ∧ ∀ x H', J.yld i H x H' → Z Nx x H') := by
  refine ⟨fun i m H => m = n - i ∧ i ≤ n ∧ Pv i H, ⟨n, by simp, Nat.zero_le _, h0⟩, ?_⟩
  rintro i m H ⟨rfl, hi, p⟩
  have q := hG i H hi p
  by_cases lt : i < n
  · exact .inr ⟨w.goes i H lt q, Pv (i + 1), fun H' p' => ⟨n - (i + 1), by omega, rfl, lt, p'⟩, fun x H' y => hs i x H H' lt p (w.yields i H x H' lt q y)⟩
  · have e : i = n := by omega
    subst e
    exact .inl ⟨w.stops H q, hd H p⟩
end Cn
namespace Cn
open PySem L2
theorem atI_neg {ls : List T} {k : Nat} (h1 : 1 ≤ k) (h : k ≤ ls.length) : atI (svs ls) (-(k : Int)) = some (sv (ls.getD (ls.length - k) [])) := by
  unfold atI ixN
  rw [svs_len, if_neg (by omega), if_pos (by omega)]
  show (svs ls)[((-(k : Int)) + (ls.length : Int)).toNat]? = _
  have e : ((-(k : Int)) + (ls.length : Int)).toNat = ls.length - k := by omega
  have hx : ls[ls.length - k]? = some (ls[ls.length - k]'(by omega)) := List.getElem?_eq_getElem _
  rw [e, svs_at hx, List.getD_eq_getElem?_getD, hx]; rfl
theorem str_go {a b : Str} {σ : L2.St} {H : Hp} {Q : VK} {c : Bool} (h : Q (.str (if c then a else b)) H) : if c = true then tC (.str a) σ H Q else tC (.str b) σ H Q := by
  cases c with
  | true => exact iteT h
  | false => exact iteF h
theorem tgt_go {K : PySem.W.Frag} {σ : L2.St} {H : Hp} {Q : VK} {c : Bool} {va : List V} {ab tb : Addr} (h2 : σ[2]? = some (some (.ref ab))) (h1 : σ[1]? = some (some (.ref tb))) (hab : H ab = some (.lst va)) (hz : va.length ≤ 1000)
    (h : ∀ l, H l = none → Q (.ref l) (upd H l (.lst (if c then va else va ++ [.ref tb])))) :
    if c = true then tCB (fun xs H Q => ∃ p ys, xs = [.ref p] ∧ (SqL K H p ys ∨ SqT K H p ys) ∧ ∀ l, H l = none → Q (.ref l) (upd H l (.lst ys))) (tCons (tVar 2) tNil) σ H Q else tLst (StX.tStar K (tVar 2) (tCons (tVar 1) tNil)) σ H Q := by
  cases c with
  | true => exact iteT ⟨_, h2, ab, va, rfl, .inl (SqL.of hab), h⟩
  | false => exact iteF ⟨_, h2, ab, va, rfl, .inr (SqL.of hab), _, h1, szl (by simp; omega), h⟩
theorem sv_eq (a b : T) : decide (sv a = sv b) = (a == b) := by
  by_cases e : a = b
  · subst e; simp
  · rw [beq_eq_false_iff_ne.mpr e]
    exact decide_eq_false fun z => e (by injection z with z; exact S_inj z)
theorem nat_eq (a b : Nat) : decide (V.int (a : Int) = V.int (b : Int)) = (a == b) := by
  by_cases e : a = b
  · subst e; simp
  · rw [beq_eq_false_iff_ne.mpr e]
    exact decide_eq_false fun z => e (by injection z with z; omega)
theorem ge_lit {n k : Nat} : decide ((k : Int) ≤ ((n : Nat) : Int)) = decide (k ≤ n) := by
  by_cases h : k ≤ n
  · rw [decide_eq_true h, decide_eq_true (by omega)]
  · rw [decide_eq_false h, decide_eq_false (by omega)]
end Cn

namespace Cn
/-- as ite2, the false way first -/
theorem ite2n {c A B : Prop} [Decidable c] (h2 : ¬ c → B) (h1 : c → A) : if c then A else B := L2.ite2 h1 h2
end Cn
set_option Elab.async false
set_option linter.all false
set_option maxRecDepth 100000
set_option maxHeartbeats 4000000
/-! the loops that read columns, keys, references -/
namespace Cn
open PySem L2
section
variable {P : Program} {w : World} {K : PySem.W.Frag} {mg : Str → Option Value} {base : Heap} {CR CT CS CI : Addr} {f : Addr} {fd : FuncData}
theorem tyList {K : PySem.W.Frag} {H : Hp} {l : Addr} {xs : List V} (h : H l = some (.lst xs)) : tyV K "list" (.ref l) H := Or.inl ⟨rfl, _, Or.inl (Or.inl h)⟩
theorem truL {K : PySem.W.Frag} {H : Hp} {l : Addr} {xs : List V} (h : H l = some (.lst xs)) : TruV K (.ref l) H (!xs.isEmpty) := Or.inl ⟨xs, SqL.of h, rfl⟩
theorem svs_empty (ls : List T) : (svs ls).isEmpty = ls.isEmpty := by cases ls <;> rfl
theorem le_lit {n : Nat} {k : Nat} : decide (((n : Nat) : Int) ≤ (k : Int)) = decide (n ≤ k) := by
  by_cases h : n ≤ k
  · rw [decide_eq_true h, decide_eq_true (by omega)]
  · rw [decide_eq_false h, decide_eq_false (by omega)]

theorem or_go {A B : Bool} {X Y G : Prop} (hx : (A || B) = true → X) (hy : (A || B) = false → Y) (hb : (if B = true then X else Y) → G) : if A = true then (if true = true then X else Y) else G := by
  cases A with
  | true => exact iteT (iteT (hx rfl))
  | false =>
    refine iteF (hb ?_)
    cases B with
    | true => exact iteT (hx rfl)
    | false => exact iteF (hy rfl)

/-! ### read_columns -/
theorem sc_read_columns : FnScope ["rows", "columns"] ["rows"] (defScope s_read_columns) := ⟨rfl, rfl, rfl, by decide +kernel, rfl, by decide +kernel, by decide +kernel⟩
theorem sc_read_keys : FnScope ["rows", "columns", "keys", "key", "other"] ["rows", "columns"] (defScope s_read_keys) := ⟨rfl, rfl, rfl, by decide +kernel, rfl, by decide +kernel, by decide +kernel⟩
theorem sc_read_reference : FnScope ["rows", "table", "above", "required", "words", "columns", "targets", "found", "target", "key", "column"] ["rows", "table", "above"] (defScope s_read_reference) := ⟨rfl, rfl, rfl, by decide +kernel, rfl, by decide +kernel, by decide +kernel⟩
theorem sc_read_references : FnScope ["rows", "table", "above", "refers", "refer", "taken", "other", "column"] ["rows", "table", "above"] (defScope s_read_references) := ⟨rfl, rfl, rfl, by decide +kernel, rfl, by decide +kernel, by decide +kernel⟩
def sp_read_columns (CR CI : Addr) : Sp := fun vs H Q E => ∃ p d r L n, vs = [.ref p] ∧ RowsAt CR H p d r L n ∧ n ≤ L.length ∧ match colsLoop L 6 n [] with
  | .error e => ErrE CI p H E e
  | .ok (cols, n') => ∀ H' l, But [p] H H' → RowsAt CR H' p d r L n' → n' ≤ L.length → H l = none → H' l = some (.lst (svs cols)) → Q (.ref l) H'
theorem ok_read_columns (F : Fun K "read_columns" "read_columns" s_read_columns f fd) (T : Txt K mg CR CT CS) (c_Rows_begins : Met P w K mg base 2 CR "begins" (sp_begins CR)) (c_Rows_need : Met P w K mg base 3 CR "need" (sp_need CR CI))
    (c_Rows_new_name : Met P w K mg base 4 CR "new_name" (sp_new_name K CR CI)) : FnOk P w K mg base (L2.CX P w) 5 f fd ["rows"] (sp_read_columns CR CI) := by
  refine F.okX sc_read_columns (fun vs H Q E h => ?_) (fun cdv A outer s H vs Q E hr h => ?_)
  · obtain ⟨p, d, r, L, n, rfl, _⟩ := h
    rfl
  · obtain ⟨p, d, r, L, n, rfl, R, hn, k⟩ := h
    refine ⟨_, (pss_cons (ps_set (i := 1) sc_read_columns.nd rfl (Or.inl rfl) (pe_lst pa_nil))
  (pss_cons (ps_while (passes_of rfl) (PW.pt (pw_or (pt_not (pt_truthK K rfl (pv 1) (by intro _; rfl))) (pw_or1 (pt_val (p_meth E c_Rows_begins hr (by decide) (passX rfl rfl rfl (takes_of rfl rfl rfl rfl)) (pv 0) (pa_cons pe_str pa_nil))))))
  (pss_cons (ps_expr (pe_bm PySem.F.plainAttrs_list PySem.F.slot_list_append PySem.F.type_list_append mt_append (pv 1) (pa_cons (p_meth E c_Rows_new_name hr (by decide) (passX rfl rfl rfl (takes_of rfl rfl rfl rfl)) (pv 0) (pa_cons pe_str (pa_cons (pv 1) pa_nil))) pa_nil)))
  (pss_one (ps_expr (p_meth E c_Rows_need hr (by decide) (passX rfl rfl rfl (takes_of rfl rfl rfl rfl)) (pv 0) (pa_cons (pe_cmpR op_le (pe_callB (call_len_seqK K rfl) (by rfl) T.b_len (by decide +kernel) (pa_cons (pv 1) pa_nil)) (p_gint T.g_MOST_COLUMNS) (nomark _)) pa_nil))))))
  (pss_one (ps_ret (pv 1))))), ?_⟩
    refine ⟨Nat.zero_le _, fun l hl => ?_⟩
    have npl : p ≠ l := ne_of_none R.at_ hl
    have nrl : r ≠ l := ne_of_none R.rows hl
    refine ⟨fun m σ H' => ∃ cols n', σ = [some (.ref p), some (.ref l)] ∧ But [p] H H' ∧ H' l = some (.lst (svs cols)) ∧ RowsAt CR H' p d r L n' ∧ n' ≤ L.length ∧ cols.length ≤ 5 ∧ m + cols.length = 6 ∧ colsLoop L m n' cols = colsLoop L 6 n [],
      ⟨6, [], n, rfl, But.refl.new hl, upd_same, R.keep0 (newB hl), hn, by simp, rfl, rfl⟩, ?_⟩
    rintro m σ H1 ⟨cols, n1, rfl, b1, hl1, R1, hn1, h5, hm, he⟩
    obtain ⟨m, rfl⟩ : ∃ m', m = m' + 1 := ⟨m - 1, by omega⟩
    refine ⟨_, rfl, _, truL hl1, or_go (B := begins L n1 kColumn) (fun ht => ⟨_, fun _ _ z => z, ?_⟩) (fun ht => ?_) (fun g => ⟨_, rfl, p, d, _, rfl, R1.at_, rfl, p, d, r, L, n1, kColumn, rfl, R1, hn1, _, rfl, g⟩)⟩
    · rw [Bool.not_not, svs_empty] at ht
      have e0 : colsLoop L (m + 1) n1 cols = (match newName L n1 kColumn cols with
        | .error e => .error e
        | .ok w => if cols.length + 1 ≤ 5 then colsLoop L m (n1 + 1) (cols ++ [w]) else .error n1) := by
        show (if (cols.isEmpty || begins L n1 kColumn) = true then _ else _) = _
        rw [ht]; rfl
      refine ⟨_, rfl, tyList hl1, _, rfl, p, d, _, rfl, R1.at_, rfl, _, rfl, p, d, r, l, L, n1, kColumn, cols, rfl, R1, hn1, by decide, hl1, ?_⟩
      cases hw : newName L n1 kColumn cols with
      | error e =>
        rw [hw] at e0
        rw [← he, e0] at k
        exact k.later b1
      | ok nm =>
        rw [hw] at e0
        have e0 : colsLoop L (m + 1) n1 cols = if cols.length + 1 ≤ 5 then colsLoop L m (n1 + 1) (cols ++ [nm]) else .error n1 := e0
        have lt := newName_lt hw
        intro H2 b2 R2
        have hl2 := b2.at1 hl1 npl.symm
        refine ⟨l, svs cols, sv nm, rfl, rfl, hl2, szt (by rw [svs_len]; omega), ?_⟩
        have b3 : But [p] H (upd H2 l (.lst (svs cols ++ [sv nm]))) := (b1.trans b2).put0 hl
        have R3 := R2.put (o := .lst (svs cols ++ [sv nm])) npl nrl
        refine ⟨_, rfl, p, d, _, rfl, R3.at_, rfl, _, rfl, l, _, rfl, .inl (SqL.of upd_same), _, 5, rfl, rfl, p, d, r, L, n1, _, rfl, R3, ?_⟩
        have el : decide (((svs cols ++ [sv nm]).length : Int) ≤ 5) = decide (cols.length + 1 ≤ 5) := by
          rw [List.length_append, svs_len]
          exact le_lit (n := cols.length + 1) (k := 5)
        rw [el]
        refine ite2 (fun h => ?_) (fun h => ?_)
        · have h' : cols.length + 1 ≤ 5 := of_decide_eq_true h
          rw [if_pos h'] at e0
          exact ⟨m, by omega, cols ++ [nm], n1 + 1, rfl, b3, by rw [upd_same, svs_app]; rfl, R3, lt, by simpa using h', by simp; omega, by rw [← e0]; exact he⟩
        · have h' : ¬ cols.length + 1 ≤ 5 := fun z => h (decide_eq_true z)
          rw [if_neg h'] at e0
          rw [← he, e0] at k
          exact k.later b3
    · rw [Bool.not_not, svs_empty] at ht
      have e0 : colsLoop L (m + 1) n1 cols = .ok (cols, n1) := by
        show (if (cols.isEmpty || begins L n1 kColumn) = true then _ else _) = _
        rw [ht]; rfl
      rw [← he, e0] at k
      exact ⟨_, rfl, k H1 l b1 R1 hn1 hl hl1⟩

/-! ### read_keys -/
def sp_read_keys (CR CI : Addr) : Sp := fun vs H Q E => ∃ p d r c L n cols, vs = [.ref p, .ref c] ∧ RowsAt CR H p d r L n ∧ n ≤ L.length ∧ H c = some (.lst (svs cols)) ∧ match keysLoop L cols 4 n [] with
  | .error e => ErrE CI p H E e
  | .ok (keys, n') => ∀ H' l ks, But [p] H H' → RowsAt CR H' p d r L n' → n' ≤ L.length → H l = none → H' l = some (.lst ks) → Each (KeyR H') ks keys → Q (.ref l) H'
theorem ok_read_keys (F : Fun K "read_keys" "read_keys" s_read_keys f fd) (T : Txt K mg CR CT CS) (c_Rows_begins : Met P w K mg base 2 CR "begins" (sp_begins CR)) (c_Rows_need : Met P w K mg base 3 CR "need" (sp_need CR CI))
    (c_Rows_words : Met P w K mg base 3 CR "words" (sp_words CR CI)) (c_are_different : Cal P w K mg base 2 "are_different" (sp_are_diff K)) (c_has_all : Cal P w K mg base 1 "has_all" (sp_has_all K)) : FnOk P w K mg base (L2.CX P w) 4 f fd ["rows", "columns"] (sp_read_keys CR CI) := by
  refine F.okX sc_read_keys (fun vs H Q E h => ?_) (fun cdv A outer s H vs Q E hr h => ?_)
  · obtain ⟨p, d, r, c, L, n, cols, rfl, _⟩ := h
    rfl
  · obtain ⟨p, d, r, c, L, n, cols, rfl, R, hn, hc, k⟩ := h
    refine ⟨_, (pss_cons (ps_set (i := 2) sc_read_keys.nd rfl (Or.inl rfl) (pe_lst pa_nil))
  (pss_cons (ps_while (passes_of rfl) (PW.pt (pw_or (pt_not (pt_truthK K rfl (pv 2) (by intro _; rfl))) (pw_or1 (pt_val (p_meth E c_Rows_begins hr (by decide) (passX rfl rfl rfl (takes_of rfl rfl rfl rfl)) (pv 0) (pa_cons pe_str pa_nil))))))
  (pss_cons (ps_set (i := 3) sc_read_keys.nd rfl (Or.inr rfl) (pe_callTy (call_tuple_ofK K rfl) (by rfl) T.b_tuple (by decide +kernel) (pa_cons (p_meth E c_Rows_words hr (by decide) (passX rfl rfl rfl (takes_of rfl rfl rfl rfl)) (pv 0) (pa_cons pe_str pa_nil)) pa_nil)))
  (pss_cons (ps_expr (p_meth E c_Rows_need hr (by decide) (passX rfl rfl rfl (takes_of rfl rfl rfl rfl)) (pv 0) (pa_cons (pe_and (pe_cmpR op_le (pe_callB (call_len_seqK K rfl) (by rfl) T.b_len (by decide +kernel) (pa_cons (pv 3) pa_nil)) (p_gint T.g_MOST_KEY_COLUMNS) (nomark _)) (pe_one (p_call E c_are_different hr (by decide) (by rfl) (passX rfl rfl rfl (takes_of rfl rfl rfl rfl)) (pa_cons (pv 3) (pa_cons (pv 1) pa_nil))))) pa_nil)))
  (pss_cons (ps_expr (p_meth E c_Rows_need hr (by decide) (passX rfl rfl rfl (takes_of rfl rfl rfl rfl)) (pv 0) (pa_cons (pe_not (pe_callB (cr_anyK K rfl (by rfl)) (by rfl) T.b_any (by decide +kernel) (pa_cons (pe_lc (own := [("other", 4)]) (g := gName 4) (tt := tYes) (by rfl) sc_read_keys.nd (pi_listK K rfl (pv 2)) (blkOk_by (own := [("other", 4)]) (N := ["rows", "columns", "keys", "key", "other"]) (sc := (defScope s_read_keys)) (by decide +kernel)) (fun _ _ _ _ _ => (pg_name (i := 4) sc_read_keys.nd rfl (Or.inl rfl))) (fun _ _ _ _ _ => pts_nil) (fun _ _ _ _ _ => (pe_or (p_call E0 c_has_all hr (by decide) (by rfl) passL (pa_cons (pv 3) (pa_cons (pv 4) pa_nil))) (pe_one (p_call E0 c_has_all hr (by decide) (by rfl) passL (pa_cons (pv 4) (pa_cons (pv 3) pa_nil))))))) pa_nil))) pa_nil)))
  (pss_cons (ps_expr (pe_bm PySem.F.plainAttrs_list PySem.F.slot_list_append PySem.F.type_list_append mt_append (pv 2) (pa_cons (pv 3) pa_nil)))
  (pss_one (ps_expr (p_meth E c_Rows_need hr (by decide) (passX rfl rfl rfl (takes_of rfl rfl rfl rfl)) (pv 0) (pa_cons (pe_cmpR op_le (pe_callB (call_len_seqK K rfl) (by rfl) T.b_len (by decide +kernel) (pa_cons (pv 2) pa_nil)) (p_gint T.g_MOST_KEYS) (nomark _)) pa_nil)))))))))
  (pss_one (ps_ret (pv 2))))), ?_⟩
    refine ⟨Nat.zero_le _, fun l hl => ?_⟩
    have npl : p ≠ l := ne_of_none R.at_ hl
    have nrl : r ≠ l := ne_of_none R.rows hl
    have ncl : c ≠ l := ne_of_none hc hl
    have ncp : c ≠ p := ne_of hc R.at_ (by intro z; cases z)
    refine ⟨fun m σ H' => ∃ keys ks n' v4 v5, σ = [some (.ref p), some (.ref c), some (.ref l), v4, v5] ∧ But [p] H H' ∧ H' l = some (.lst ks) ∧ Each (KeyR H') ks keys ∧ RowsAt CR H' p d r L n' ∧ n' ≤ L.length ∧ keys.length ≤ 3 ∧ (∀ k ∈ keys, k.length ≤ 3) ∧ m + keys.length = 4 ∧ keysLoop L cols m n' keys = keysLoop L cols 4 n [],
      ⟨4, [], [], n, none, none, rfl, But.refl.new hl, upd_same, Each.nil, R.keep0 (newB hl), hn, by simp, by simp, rfl, rfl⟩, ?_⟩
    rintro m σ H1 ⟨keys, ks, n1, v4, v5, rfl, b1, hl1, hk1, R1, hn1, h3, hk3, hm, he⟩
    obtain ⟨m, rfl⟩ : ∃ m', m = m' + 1 := ⟨m - 1, by omega⟩
    have hks : ks.isEmpty = keys.isEmpty := by
      have := hk1.1
      cases ks <;> cases keys <;> simp_all
    refine ⟨_, rfl, _, truL hl1, or_go (B := begins L n1 kKey) (fun ht => ⟨_, fun _ _ z => z, ?_⟩) (fun ht => ?_) (fun g => ⟨_, rfl, p, d, _, rfl, R1.at_, rfl, p, d, r, L, n1, kKey, rfl, R1, hn1, _, rfl, g⟩)⟩
    · rw [Bool.not_not, hks] at ht
      have e0 : keysLoop L cols (m + 1) n1 keys = (match words L n1 kKey with
        | none => .error n1
        | some k => if decide (k.length ≤ 3) && areDiff k cols then
            if keys.any fun o => hasAll k o || hasAll o k then .error n1 else if keys.length + 1 ≤ 3 then keysLoop L cols m (n1 + 1) (keys ++ [k]) else .error n1
          else .error n1) := by
        show (if (keys.isEmpty || begins L n1 kKey) = true then _ else _) = _
        rw [ht]; rfl
      refine ⟨_, rfl, p, d, _, rfl, R1.at_, rfl, p, d, r, L, n1, kKey, rfl, R1, hn1, by decide, ?_⟩
      cases hw : words L n1 kKey with
      | none =>
        rw [hw] at e0
        have e0 : keysLoop L cols (m + 1) n1 keys = .error n1 := e0
        rw [← he, e0] at k
        exact k.later b1
      | some key =>
        rw [hw] at e0
        have e0 : keysLoop L cols (m + 1) n1 keys = if decide (key.length ≤ 3) && areDiff key cols then
            if keys.any fun o => hasAll key o || hasAll o key then .error n1 else if keys.length + 1 ≤ 3 then keysLoop L cols m (n1 + 1) (keys ++ [key]) else .error n1
          else .error n1 := e0
        have lt := words_lt hw
        intro H2 a b2 R2 ha0 ha
        refine ⟨a, _, rfl, .inl ⟨SqL.of ha, fun t ht0 => ?_⟩⟩
        have hl2 := b2.at1 hl1 npl.symm
        have hc2 : H2 c = some (.lst (svs cols)) := b2.at1 (b1.at1 hc ncp) ncp
        have b3 : But [p] H1 (upd H2 t (.tup (svs key))) := b2.new ht0
        have nt : t ≠ l := fun z => by rw [z, hl2] at ht0; cases ht0
        have R3 : RowsAt CR (upd H2 t (.tup (svs key))) p d r L (n1 + 1) := R2.keep0 (newB ht0)
        -- need(len(key) <= 3 and are_different(key, columns))
        have er : ∀ {H' : Hp}, But [p] H1 H' → keysLoop L cols (m + 1) n1 keys = .error n1 → ErrE CI p H' E n1 := fun b e => by
          rw [← he, e] at k
          exact k.later (b1.trans b)
        refine ⟨_, rfl, p, d, _, rfl, R3.at_, rfl, ?_⟩
        refine ⟨_, rfl, t, _, rfl, .inr (SqT.of upd_same), _, 3, rfl, rfl, _, rfl, ?_⟩
        have el : decide (((svs key).length : Int) ≤ 3) = decide (key.length ≤ 3) := by rw [svs_len]; exact le_lit (n := key.length) (k := 3)
        rw [el]
        refine ite2 (fun h => ?_) (fun h => ?_)
        · have h' : key.length ≤ 3 := of_decide_eq_true h
          rw [h, Bool.true_and] at e0
          refine ⟨_, rfl, _, rfl, t, c, key, cols, rfl, SqT.of upd_same, .inl (SqL.of ((newB ht0).at hc2)), by omega, fun H4 b4 => ?_⟩
          refine ⟨p, d, r, L, n1, _, rfl, R3.keep0 b4, ?_⟩
          refine ite2 (fun hd => ?_) (fun hd => ?_)
          · rw [if_pos hd] at e0
            -- need(not any([has_all(key, other) or has_all(other, key) for other in keys]))
            have b5 : But [p] H1 H4 := b3.trans (But.of b4)
            have f5 : Fix CR H1 H4 := R1.fix b5
            have hl4 : H4 l = some (.lst ks) := b5.at1 hl1 npl.symm
            have R4 := R3.keep0 b4
            have ht4 : H4 t = some (.tup (svs key)) := b4.at upd_same
            refine ⟨_, rfl, p, d, _, rfl, R4.at_, rfl, ?_⟩
            refine ⟨_, rfl, l, rfl, ⟨_, SqL.of hl4⟩, fun D hD => ?_⟩
            refine lc_grow (fun i => (keys[i]?).map fun o => V.bl (hasAll key o || hasAll o key)) (walk_list (K := K) (a := l) (xs := ks)) hD (fun H' b => SqL.of (b.at hl4)) (fun i x acc H6 H7 N hi hz b6 hD6 y hy _ => ?_) (fun H7 b7 hD7 => ?_)
            · obtain ⟨rfl, hx⟩ := y
              obtain ⟨o, ho, q, rfl, hq⟩ := hk1.at hx
              have hq6 : H7 q = some (.tup (svs o)) := b6.at (f5 q _ hq trivial)
              have ht6 : H7 t = some (.tup (svs key)) := b6.at ht4
              have ho8 : o.length ≤ 1000001 := by have := hk3 o (List.mem_of_getElem? ho); omega
              have fin : ∀ (v : Bool) H8, But [] H7 H8 → v = (hasAll key o || hasAll o key) → ∃ acc', H8 D = some (.lst acc') ∧ acc'.length < sizeLine ∧ N (upd H8 D (.lst (acc' ++ [V.bl v]))) := fun v H8 b8 ev =>
                lc_putG (b6.trans b8) hD (b8.at hD6) (by have := (List.getElem?_eq_some_iff.mp hx).1; have := hk1.1; omega) fun H'' bb hh => hy _ H'' (by rw [ho, ev]; rfl) bb hh
              refine ⟨rfl, _, rfl, _, rfl, t, q, key, o, rfl, .inr (SqT.of ht6), SqT.of hq6, ho8, fun H8 b8 => ⟨_, rfl, ?_⟩⟩
              refine ite2 (fun h1 => ?_) (fun h1 => ?_)
              · exact fin true H8 b8 (by rw [h1]; rfl)
              · refine ⟨_, rfl, _, rfl, q, t, o, key, rfl, .inr (SqT.of (b8.at hq6)), SqT.of (b8.at ht6), by omega, fun H9 b9 => ?_⟩
                rw [Bool.not_eq_true] at h1
                exact fin _ H9 (b8.trans b9) (by rw [h1, Bool.false_or])
            · rw [hk1.1, range_map] at hD7
              refine ⟨D, keys.map fun o => hasAll key o || hasAll o key, rfl, .inl (.inl (by rw [hD7, List.map_map]; rfl)), _, rfl, p, d, r, L, n1, _, rfl, R4.keep0 b7, ?_⟩
              rw [List.any_map]
              have ea : (keys.any (id ∘ fun o => hasAll key o || hasAll o key)) = keys.any (fun o => hasAll key o || hasAll o key) := rfl
              rw [ea]
              have b8 : But [p] H1 H7 := b5.trans (But.of b7)
              refine ite2 (fun ha => ?_) (fun ha => ?_)
              · have ha' : (keys.any fun o => hasAll key o || hasAll o key) = false := by rw [Bool.not_eq_true'] at ha; exact ha
                rw [ha'] at e0
                have e0 : keysLoop L cols (m + 1) n1 keys = if keys.length + 1 ≤ 3 then keysLoop L cols m (n1 + 1) (keys ++ [key]) else .error n1 := e0
                -- keys.append(key)
                have hl7 : H7 l = some (.lst ks) := b7.at hl4
                have ht7 : H7 t = some (.tup (svs key)) := b7.at ht4
                have ntl : t ≠ l := ne_of ht7 hl7 (by intro z; cases z)
                refine ⟨_, rfl, tyList hl7, _, rfl, l, ks, .ref t, rfl, rfl, hl7, szt (by have := hk1.1; omega), ?_⟩
                have b9 : But [p] H (upd H7 l (.lst (ks ++ [.ref t]))) := (b1.trans b8).put0 hl
                have R9 := (R4.keep0 b7).put (o := .lst (ks ++ [.ref t])) npl nrl
                have f9 : Fix CR H1 (upd H7 l (.lst (ks ++ [.ref t]))) := fun q o hq i => by
                  rw [upd_ne (fun z => by rw [z, hl1] at hq; cases hq; exact i)]
                  exact (R1.fix b8) q o hq i
                refine ⟨_, rfl, p, d, _, rfl, R9.at_, rfl, _, rfl, l, _, rfl, .inl (SqL.of upd_same), _, 3, rfl, rfl, p, d, r, L, n1, _, rfl, R9, ?_⟩
                have el : decide (((ks ++ [V.ref t]).length : Int) ≤ 3) = decide (keys.length + 1 ≤ 3) := by
                  rw [List.length_append, hk1.1]
                  exact le_lit (n := keys.length + 1) (k := 3)
                rw [el]
                refine ite2 (fun h => ?_) (fun h => ?_)
                · have h' : keys.length + 1 ≤ 3 := of_decide_eq_true h
                  rw [if_pos h'] at e0
                  refine ⟨m, by omega, keys ++ [key], ks ++ [.ref t], n1 + 1, _, _, rfl, b9, upd_same, ?_, R9, lt, by simpa using h', fun q hq => ?_, by simp; omega, by rw [← e0]; exact he⟩
                  · exact (hk1.mono fun _ _ q => q.fix f9).snoc ⟨t, rfl, by rw [upd_ne ntl]; exact ht7⟩
                  · rcases List.mem_append.mp hq with z | z
                    · exact hk3 q z
                    · rw [List.mem_singleton.mp z]; assumption
                · have h' : ¬ keys.length + 1 ≤ 3 := fun z => h (decide_eq_true z)
                  rw [if_neg h'] at e0
                  rw [← he, e0] at k
                  exact k.later b9
              · have ha' : (keys.any fun o => hasAll key o || hasAll o key) = true := by rw [Bool.not_eq_true, Bool.not_eq_false'] at ha; exact ha
                rw [ha'] at e0
                exact er b8 e0
          · rw [if_neg hd] at e0
            exact er (b3.trans (But.of b4)) e0
        · have h' : decide (key.length ≤ 3) = false := by rw [Bool.not_eq_true] at h; exact h
          rw [h'] at e0
          exact ⟨p, d, r, L, n1, false, rfl, R3, iteF (er b3 e0)⟩
    · rw [Bool.not_not, hks] at ht
      have e0 : keysLoop L cols (m + 1) n1 keys = .ok (keys, n1) := by
        show (if (keys.isEmpty || begins L n1 kKey) = true then _ else _) = _
        rw [ht]; rfl
      rw [← he, e0] at k
      exact ⟨_, rfl, k H1 l ks b1 R1 hn1 hl hl1 hk1⟩
end
end Cn
set_option Elab.async false
set_option linter.all false
set_option maxRecDepth 100000
set_option maxHeartbeats 4000000
/-! one reference -/
namespace Cn
open PySem L2
section
variable {P : Program} {w : World} {K : PySem.W.Frag} {mg : Str → Option Value} {base : Heap} {CR CT CS CI : Addr} {f : Addr} {fd : FuncData}
theorem tf_name {n : Cn.T} {a b c : Addr} : (tf n a b c).lookup ("name" : Str) = some (sv n) := by rfl
theorem tf_columns {n : Cn.T} {a b c : Addr} : (tf n a b c).lookup ("columns" : Str) = some (.ref a) := by rfl
theorem tf_unique {n : Cn.T} {a b c : Addr} : (tf n a b c).lookup ("unique" : Str) = some (.ref b) := by rfl
theorem tf_refers {n : Cn.T} {a b c : Addr} : (tf n a b c).lookup ("refers" : Str) = some (.ref c) := by rfl
def sp_read_reference (CR CT CI : Addr) : Sp := fun vs H Q E => ∃ p d r tb ab L n t va above, vs = [.ref p, .ref tb, .ref ab] ∧ RowsAt CR H p d r L n ∧ n ≤ L.length ∧ TblR CT H (.ref tb) t ∧ H ab = some (.lst va) ∧ Each (TblR CT H) va above ∧
  above.length ≤ 5 ∧ (∀ a ∈ above, WfT a) ∧ t.keys ≠ [] ∧ (∀ k ∈ t.keys, k.length ≤ 3) ∧ t.keys.length ≤ 3 ∧ t.cols.length ≤ 5 ∧ match readRef L n t above with
  | .error e => ErrE CI p H E e
  | .ok q => ∀ H' v, But [p] H H' → RowsAt CR H' p d r L (n + 1) → RefR H' v q → Q v H'
theorem ok_read_reference (F : Fun K "read_reference" "read_reference" s_read_reference f fd) (T : Txt K mg CR CT CS) (c_Rows_begins : Met P w K mg base 2 CR "begins" (sp_begins CR)) (c_Rows_need : Met P w K mg base 3 CR "need" (sp_need CR CI))
    (c_Rows_words : Met P w K mg base 3 CR "words" (sp_words CR CI)) (c_are_different : Cal P w K mg base 2 "are_different" (sp_are_diff K)) : FnOk P w K mg base (L2.CX P w) 4 f fd ["rows", "table", "above"] (sp_read_reference CR CT CI) := by
  refine F.okX sc_read_reference (fun vs H Q E h => ?_) (fun cdv A outer s H vs Q E hr h => ?_)
  · obtain ⟨p, d, r, tb, ab, L, n, t, va, above, rfl, _⟩ := h
    rfl
  · obtain ⟨p, d, r, tb, ab, L, n, t, va, above, rfl, R, hn, ht, hab, hva, h5, hwf, hk0, hk3, hkl, hcl, k⟩ := h
    refine ⟨_, (pss_cons (ps_set (i := 3) sc_read_reference.nd rfl (Or.inl rfl) (p_meth E c_Rows_begins hr (by decide) (passX rfl rfl rfl (takes_of rfl rfl rfl rfl)) (pv 0) (pa_cons pe_str pa_nil)))
  (pss_cons (ps_set (i := 4) sc_read_reference.nd rfl (Or.inr rfl) (p_meth E c_Rows_words hr (by decide) (passX rfl rfl rfl (takes_of rfl rfl rfl rfl)) (pv 0) (pa_cons (pe_ifExp (pt_val (pv 3)) pe_str pe_str) pa_nil)))
  (pss_cons (ps_expr (p_meth E c_Rows_need hr (by decide) (passX rfl rfl rfl (takes_of rfl rfl rfl rfl)) (pv 0) (pa_cons (pe_and (pe_cmpR op_ge (pe_callB (call_len_seqK K rfl) (by rfl) T.b_len (by decide +kernel) (pa_cons (pv 4) pa_nil)) pe_int (nomark _)) (pe_one (pe_cmpR op_eq (pe_ix (ix_listK K rfl) (pv 4) (pe_un un_neg pe_int) (fun _ _ => rfl)) pe_str (nomark _)))) pa_nil)))
  (pss_cons (ps_set (i := 5) sc_read_reference.nd rfl (Or.inr rfl) (pe_callTy (call_tuple_ofK K rfl) (by rfl) T.b_tuple (by decide +kernel) (pa_cons (pe_slice (sl_listK K rfl) (pv 4) po_none (po_some (pe_un un_neg pe_int))) pa_nil)))
  (pss_cons (ps_set (i := 6) sc_read_reference.nd rfl (Or.inl rfl) (pe_ifExp (pt_val (pv 3)) (pe_callTy (call_list_ofK K rfl) (by rfl) T.b_list (by decide +kernel) (pa_cons (pv 2) pa_nil)) (pe_lst (StX.pa_star (pv 2) (pa_cons (pv 1) pa_nil)))))
  (pss_cons (ps_setLc (i := 7) (own := [("target", 8)]) (g := gName 8) (by rfl) sc_read_reference.nd rfl rfl (sw_true rfl rfl rfl (by decide +kernel)) (pi_listK K rfl (pv 6)) (blkOk_by (own := [("target", 8)]) (N := ["rows", "table", "above", "required", "words", "columns", "targets", "found", "target", "key", "column"]) (sc := (defScope s_read_reference)) (by decide +kernel)) (fun _ _ _ _ _ => (pg_name (i := 8) sc_read_reference.nd rfl (Or.inl rfl))) (fun _ _ _ _ _ => (pts_one (pt_cmpR op_eq (pe_fldK K rfl (pv 8) rfl) (pe_ix (ix_listK K rfl) (pv 4) (pe_un un_neg pe_int) (fun _ _ => rfl)) (nomark _)))) (fun _ _ _ _ _ => (pv 8)))
  (pss_cons (ps_expr (p_meth E c_Rows_need hr (by decide) (passX rfl rfl rfl (takes_of rfl rfl rfl rfl)) (pv 0) (pa_cons (pe_and (pe_cmpR op_eq (pe_callB (call_len_seqK K rfl) (by rfl) T.b_len (by decide +kernel) (pa_cons (pv 7) pa_nil)) pe_int (nomark _)) (pe_one (pe_cmpR op_eq (pe_callB (call_len_seqK K rfl) (by rfl) T.b_len (by decide +kernel) (pa_cons (pe_ix (ix_tupK K rfl) (pe_fldK K rfl (pe_ix (ix_listK K rfl) (pv 7) pe_int (fun _ _ => rfl)) rfl) pe_int (fun _ _ => rfl)) pa_nil)) (pe_callB (call_len_seqK K rfl) (by rfl) T.b_len (by decide +kernel) (pa_cons (pv 5) pa_nil)) (nomark _)))) pa_nil)))
  (pss_cons (ps_expr (p_meth E c_Rows_need hr (by decide) (passX rfl rfl rfl (takes_of rfl rfl rfl rfl)) (pv 0) (pa_cons (p_call E c_are_different hr (by decide) (by rfl) (passX rfl rfl rfl (takes_of rfl rfl rfl rfl)) (pa_cons (pv 5) (pa_cons (pe_fldK K rfl (pv 1) rfl) pa_nil))) pa_nil)))
  (pss_cons (ps_if (pt_not (pt_val (pv 3)))
  (pss_one (ps_expr (p_meth E c_Rows_need hr (by decide) (passX rfl rfl rfl (takes_of rfl rfl rfl rfl)) (pv 0) (pa_cons (pe_not (pe_callB (cr_anyK K rfl (by rfl)) (by rfl) T.b_any (by decide +kernel) (pa_cons (pe_lc2 (own := [("key", 9), ("column", 10)]) (vs1 := [10]) (g := gName 9) (g1 := gName 10) (tt := tYes) (tt1 := tYes) (by rfl) sc_read_reference.nd (pi_tupK K rfl (pe_fldK K rfl (pv 1) rfl)) (blkOk_by (own := [("key", 9), ("column", 10)]) (N := ["rows", "table", "above", "required", "words", "columns", "targets", "found", "target", "key", "column"]) (sc := (defScope s_read_reference)) (by decide +kernel)) (by decide) (fun _ _ _ _ _ => (pg_name (i := 9) sc_read_reference.nd rfl (Or.inl rfl))) (fun _ _ _ _ _ => pts_nil) (fun _ _ _ _ _ => (pi_tupK K rfl (pv 5))) (fun _ _ _ _ _ => (pg_name (i := 10) sc_read_reference.nd rfl (Or.inl rfl))) (fun _ _ _ _ _ => pts_nil) (fun _ _ _ _ _ => (pe_cmpR (op_in_seqK K rfl) (pv 10) (pv 9) (by rfl)))) pa_nil))) pa_nil))))
  pss_nil)
  (pss_one (ps_ret (pe_tup (pa_cons (pv 5) (pa_cons (pe_ix (ix_listK K rfl) (pv 4) (pe_un un_neg pe_int) (fun _ _ => rfl)) (pa_cons (pv 3) pa_nil))))))))))))))), ?_⟩
    refine ⟨_, rfl, p, d, _, rfl, R.at_, rfl, p, d, r, L, n, kRef, rfl, R, hn, ?_⟩
    have hst : ("  ref " : Str) = S kRef ∧ ("  optional " : Str) = S kOpt := ⟨rfl, rfl⟩
    refine ⟨_, rfl, p, d, _, rfl, R.at_, rfl, _, rfl, _, rfl, str_go ?_⟩
    have es : (if begins L n kRef = true then ("  ref " : Str) else ("  optional " : Str)) = S (refStart (begins L n kRef)) := by
      unfold refStart
      cases begins L n kRef <;> rfl
    rw [es]
    refine ⟨p, d, r, L, n, refStart (begins L n kRef), rfl, R, hn, by unfold refStart; cases begins L n kRef <;> decide, ?_⟩
    have k0 : (match words L n (refStart (begins L n kRef)) with
      | none => ErrE CI p H E n
      | some ws => readRef L n t above = (if decide (3 ≤ ws.length) && (ws.getD (ws.length - 2) [] == kArrow) then
          if fits (foundIn (begins L n kRef) t above (ws.getD (ws.length - 1) [])) (ws.take (ws.length - 2)) then
            if areDiff (ws.take (ws.length - 2)) t.cols then
              if barred (begins L n kRef) t (ws.take (ws.length - 2)) then .error n else .ok (ws.take (ws.length - 2), ws.getD (ws.length - 1) [], begins L n kRef)
            else .error n
          else .error n
        else .error n)) := by
      cases hw : words L n (refStart (begins L n kRef)) with
      | none =>
        have e : readRef L n t above = .error n := by unfold readRef; rw [hw]
        rw [e] at k
        exact k
      | some ws =>
        show readRef L n t above = _
        unfold readRef; rw [hw]
    cases hw : words L n (refStart (begins L n kRef)) with
    | none =>
      rw [hw] at k0
      exact k0
    | some ws =>
      rw [hw] at k0
      have k0 : readRef L n t above = _ := k0
      rw [k0] at k
      clear k0
      generalize begins L n kRef = req at *
      intro H1 a b1 R1 ha0 ha
      have f1 : Fix CR H H1 := R.fix b1
      have habp : ab ≠ p := ne_of hab R.at_ (by intro z; cases z)
      have hab1 : H1 ab = some (.lst va) := b1.at1 hab habp
      have ht1 := ht.fix T.nT f1
      have hva1 := hva.mono fun _ _ q => q.fix T.nT f1
      -- need(len(words) >= 3 and words[-2] == '->')
      refine ⟨_, rfl, p, d, _, rfl, R1.at_, rfl, _, rfl, a, _, rfl, .inl (SqL.of ha), _, 3, rfl, rfl, _, rfl, ?_⟩
      rw [svs_len]
      have ege : decide ((3 : Int) ≤ ((ws.length : Nat) : Int)) = decide (3 ≤ ws.length) := ge_lit (k := 3)
      rw [ege]
      refine ite2n (fun h3 => ?_) (fun h3 => ?_)
      · rw [Bool.not_eq_true] at h3
        rw [h3] at k
        exact ⟨p, d, r, L, n, false, rfl, R1, iteF (k.later b1)⟩
      · rw [h3, Bool.true_and] at k
        have h3' : 3 ≤ ws.length := of_decide_eq_true h3
        have at2 : atI (svs ws) (-(2 : Int)) = some (sv (ws.getD (ws.length - 2) [])) := atI_neg (k := 2) (by omega) (by omega)
        have at1 : atI (svs ws) (-(1 : Int)) = some (sv (ws.getD (ws.length - 1) [])) := atI_neg (k := 1) (by omega) (by omega)
        refine ⟨_, rfl, 2, rfl, a, svs ws, _, _, rfl, rfl, SqL.of ha, at2, rfl, ?_⟩
        refine ⟨p, d, r, L, n, _, rfl, R1, ?_⟩
        have ek : decide (sv (ws.getD (ws.length - 2) []) = V.str ("->" : Str)) = (ws.getD (ws.length - 2) [] == kArrow) := sv_eq _ kArrow
        rw [ek]
        refine ite2n (fun ha2 => ?_) (fun ha2 => ?_)
        · rw [if_neg ha2] at k
          exact k.later b1
        · rw [if_pos ha2] at k
          generalize hc : ws.take (ws.length - 2) = cols at k
          generalize hg : ws.getD (ws.length - 1) [] = tgt at k at1
          -- columns = tuple(words[:-2])
          refine ⟨_, rfl, 2, rfl, _, rfl, a, svs ws, rfl, SqL.of ha, fun l1 hl1 => ⟨l1, _, rfl, .inl ⟨SqL.of upd_same, fun c hc0 => ?_⟩⟩⟩
          have ecut : cutV (svs ws) none (some (-2)) = svs cols := by rw [cutV_m2, svs_len, svs_take, hc]
          have b2 : But [] H1 (upd (upd H1 l1 (.lst (cutV (svs ws) none (some (-2))))) c (.tup (cutV (svs ws) none (some (-2))))) := (newB hl1).new hc0
          generalize hH2 : upd (upd H1 l1 (.lst (cutV (svs ws) none (some (-2))))) c (.tup (cutV (svs ws) none (some (-2)))) = H2 at b2
          have hc2 : H2 c = some (.tup (svs cols)) := by rw [← hH2, upd_same, ecut]
          -- targets
          refine ⟨_, rfl, _, rfl, tgt_go rfl rfl (b2.at hab1) (by have := hva.1; omega) fun tg htg => ?_⟩
          have b3 := b2.new (o := .lst (if req = true then va else va ++ [V.ref tb])) htg
          generalize hvt : (if req = true then va else va ++ [V.ref tb]) = vt at b3
          generalize hH3 : upd H2 tg (.lst vt) = H3 at b3
          have htg3 : H3 tg = some (.lst vt) := by rw [← hH3, upd_same]
          have f3 : Fix CR H1 H3 := b3.fix0
          have ht3 := ht1.fix T.nT f3
          have hvt3 : Each (TblR CT H3) vt (targets req t above) := by
            have e1 := hva1.mono fun _ _ q => q.fix T.nT f3
            rw [← hvt]
            unfold targets
            cases req with
            | true => exact e1
            | false => exact e1.snoc ht3
          have ha3 : H3 a = some (.lst (svs ws)) := b3.at ha
          have hc3 : H3 c = some (.tup (svs cols)) := by rw [← hH3, upd_ne (ne_of_none hc2 htg)]; exact hc2
          have hvz : vt.length ≤ 1000 := by rw [hvt3.1]; unfold targets; cases req <;> simp <;> omega
          -- found
          refine ⟨_, rfl, tg, rfl, ⟨_, SqL.of htg3⟩, fun D hD => ?_⟩
          refine lc_grow (fun i => ((targets req t above)[i]?).bind fun x => if x.name == tgt then vt[i]? else none) (walk_list (K := K) (a := tg) (xs := vt)) hD (fun H' b => SqL.of (b.at htg3)) (fun i x acc H6 H7 N hi hz b6 hD6 y hy hy0 => ?_) (fun H7 b7 hD7 => ?_)
          · obtain ⟨rfl, hx⟩ := y
            obtain ⟨o, ho, q, dq, ca, ua, ra, kss, rss, rfl, hq, _⟩ := hvt3.at hx
            have hq7 := (b6.fix0 (CR := CR)) q _ hq T.nT
            refine ⟨rfl, _, rfl, q, CT, dq, _, _, rfl, hq7, T.clT, T.naT1, tf_name, _, rfl, 1, rfl, a, svs ws, _, _, rfl, rfl, SqL.of (b6.at ha3), at1, rfl, _, rfl, ?_⟩
            rw [sv_eq]
            refine ite2 (fun h => ?_) (fun h => ?_)
            · exact ⟨_, rfl, lc_putG b6 hD hD6 (by omega) fun H'' bb hh => hy _ H'' (by rw [ho, Option.bind_some, if_pos h]; exact hx) bb hh⟩
            · exact hy0 H7 (by rw [ho, Option.bind_some, if_neg h]) b6 hD6
          · have hfd := each_filter (fun x => x.name == tgt) (hvt3.mono fun _ _ q => q.fix T.nT (b7.fix0 (CR := CR)))
            have hD7' : H7 D = some (.lst ((List.range vt.length).filterMap fun i => ((targets req t above)[i]?).bind fun x => if x.name == tgt then vt[i]? else none)) := hD7
            generalize (List.range vt.length).filterMap (fun i => ((targets req t above)[i]?).bind fun x => if x.name == tgt then vt[i]? else none) = fd' at hfd hD7'
            have hfd : Each (TblR CT H7) fd' (foundIn req t above tgt) := hfd
            have b17 := b3.trans b7
            have R7 := R1.keep0 b17
            have bp7 : But [p] H H7 := b1.trans (But.of b17)
            have hc7 := b7.at hc3
            have ha7 := b7.at ha3
            have ht7 := ht1.fix T.nT (b17.fix0 (CR := CR))
            -- need(len(found) == 1 and len(found[0].unique[0]) == len(columns))
            refine ⟨_, rfl, p, d, _, rfl, R7.at_, rfl, _, rfl, D, _, rfl, .inl (SqL.of hD7'), rfl, _, rfl, ?_⟩
            have e1 : decide (V.int ((fd'.length : Nat) : Int) = V.int 1) = ((foundIn req t above tgt).length == 1) := by
              rw [hfd.1]; exact nat_eq _ 1
            rw [e1]
            refine Or.elim (Decidable.em ((foundIn req t above tgt).length = 1)).symm (fun hone => ?_) (fun hone => ?_)
            · have e2 : ((foundIn req t above tgt).length == 1) = false := beq_eq_false_iff_ne.mpr hone
              have e3 : fits (foundIn req t above tgt) cols = false := by
                unfold fits
                split
                · rename_i f e; rw [e] at hone; exact absurd rfl hone
                · rfl
              rw [e3] at k
              rw [e2]
              exact iteF ⟨p, d, r, L, n, false, rfl, R7, iteF (k.later bp7)⟩
            · obtain ⟨fo, efo⟩ : ∃ fo, foundIn req t above tgt = [fo] := by
                cases e : foundIn req t above tgt with
                | nil => rw [e] at hone; simp at hone
                | cons x rr => cases rr with
                  | nil => exact ⟨x, rfl⟩
                  | cons y rr => rw [e] at hone; simp at hone
              have efits : fits (foundIn req t above tgt) cols = ((fo.keys.headD []).length == cols.length) := by rw [efo]; rfl
              rw [efits] at k
              have hfo := foundIn_mem (f := fo) (req := req) (t := t) (above := above) (tgt := tgt) (by rw [efo]; exact List.mem_singleton.mpr rfl)
              have fk0 : fo.keys ≠ [] := by
                rcases hfo.1 with z | z
                · exact (hwf fo z).keys0
                · rw [z]; exact hk0
              have fk3 : ∀ q ∈ fo.keys, q.length ≤ 3 := by
                rcases hfo.1 with z | z
                · exact fun q hq => ((hwf fo z).key q hq).1
                · rw [z]; exact hk3
              rw [efo] at hfd
              obtain ⟨v, hv0, q, dq, ca, ua, ra, kss, rss, rfl, hq, _, hua, hkss, _⟩ := hfd.atx (i := 0) rfl
              obtain ⟨fk, fkr, efk⟩ : ∃ fk fkr, fo.keys = fk :: fkr := by
                cases e : fo.keys with
                | nil => exact absurd e fk0
                | cons x rr => exact ⟨x, rr, rfl⟩
              obtain ⟨kv, hkv, ka, rfl, hka⟩ := hkss.atx (i := 0) (x := fk) (by rw [efk]; rfl)
              have e2 : ((foundIn req t above tgt).length == 1) = true := by rw [efo]; rfl
              rw [e2]
              refine iteT ⟨_, rfl, D, fd', 0, _, rfl, rfl, SqL.of hD7', (atI_nat (j := 0) hv0), q, CT, dq, _, _, rfl, hq, T.clT, T.naT3, tf_unique, ua, kss, 0, _, rfl, rfl, SqT.of hua, (atI_nat (j := 0) hkv), ka, _, rfl, .inr (SqT.of hka), _, rfl, c, _, rfl, .inr (SqT.of hc7), rfl, p, d, r, L, n, _, rfl, R7, ?_⟩
              rw [svs_len, svs_len, nat_eq]
              have e4 : (fo.keys.headD []).length = fk.length := by rw [efk]; rfl
              rw [e4] at k
              refine ite2n (fun hf => ?_) (fun hf => ?_)
              · rw [if_neg hf] at k
                exact k.later bp7
              · rw [if_pos hf] at k
                have hc3 : cols.length ≤ 3 := by have := fk3 fk (by rw [efk]; exact List.mem_cons_self); have := eq_of_beq hf; omega
                obtain ⟨tb', dt, ca', ua', ra', ks', rs', etb, htb7, hca7, hua7, hks7, _⟩ := ht7
                cases etb
                -- need(are_different(columns, table.columns))
                refine ⟨_, rfl, p, d, _, rfl, R7.at_, rfl, _, rfl, _, rfl, tb, CT, dt, _, _, rfl, htb7, T.clT, T.naT2, tf_columns, c, ca', cols, t.cols, rfl, SqT.of hc7, .inr (SqT.of hca7), by omega, fun H8 b8 => ⟨p, d, r, L, n, _, rfl, R7.keep0 b8, ?_⟩⟩
                have bp8 : But [p] H H8 := bp7.trans (But.of b8)
                have R8 := R7.keep0 b8
                refine ite2n (fun hdf => ?_) (fun hdf => ?_)
                · rw [if_neg hdf] at k
                  exact k.later bp8
                · rw [if_pos hdf] at k
                  have fin : ∀ H9 v, But [] H8 H9 → H9 v = none → barred req t cols = false → Q (.ref v) (upd H9 v (.tup [.ref c, sv tgt, .bl req])) := fun H9 v b9 hv hb => by
                    rw [hb] at k
                    have k : ∀ H' v, But [p] H H' → RowsAt CR H' p d r L (n + 1) → RefR H' v (cols, tgt, req) → Q v H' := k
                    have hc9 : H9 c = some (.tup (svs cols)) := b9.at (b8.at hc7)
                    exact k _ _ (bp8.trans (But.of (b9.new hv))) ((R8.keep0 b9).keep0 (newB hv)) ⟨v, c, rfl, upd_same, by rw [upd_ne (ne_of_none hc9 hv)]; exact hc9⟩
                  refine ⟨_, rfl, req, rfl, ?_⟩
                  cases req with
                  | true =>
                    exact iteF ⟨_, rfl, _, rfl, 1, rfl, a, svs ws, _, _, rfl, rfl, SqL.of (b8.at ha7), at1, _, rfl, (by show 3 ≤ sizeLine; decide), fun v hv => fin H8 v But.refl hv rfl⟩
                  | false =>
                    refine iteT ?_
                    have hc8 : H8 c = some (.tup (svs cols)) := b8.at hc7
                    have hua8 := b8.at hua7
                    have hks8 : Each (KeyR H8) ks' t.keys := hks7.mono fun _ _ q => q.fix (b8.fix0 (CR := CR))
                    refine ⟨_, rfl, p, d, _, rfl, R8.at_, rfl, _, rfl, tb, CT, dt, _, _, rfl, b8.at htb7, T.clT, T.naT3, tf_unique, ua', rfl, ⟨_, SqT.of hua8⟩, fun D2 hD2 => ?_⟩
                    refine turns (walk_tup (K := K) (a := ua') (xs := ks')) (fun i H' => H' = upd H8 D2 (.lst ((t.keys.take i).flatMap fun q => cols.map fun x => V.bl (q.contains x)))) rfl (fun i H' _ e => by rw [e]; exact SqT.of ((newB hD2).at hua8)) (fun i x H6 H6' hi e y => ?_) (fun H' e => ?_)
                    · obtain ⟨rfl, hx⟩ := y
                      obtain ⟨key, hkey, qa, rfl, hqa⟩ := hks8.at hx
                      subst e
                      have hi3 : i < t.keys.length := (List.getElem?_eq_some_iff.mp hkey).1
                      refine ⟨rfl, _, rfl, c, rfl, ⟨_, SqT.of ((newB hD2).at hc8)⟩, ?_⟩
                      refine turns (walk_tup (K := K) (a := c) (xs := svs cols)) (fun j H' => H' = upd H8 D2 (.lst (((t.keys.take i).flatMap fun q => cols.map fun x => V.bl (q.contains x)) ++ (cols.take j).map fun x => V.bl (key.contains x)))) (by simp) (fun j H' _ e => by rw [e]; exact SqT.of ((newB hD2).at hc8)) (fun j x H5 H5' hj e y => ?_) (fun H' e => ?_)
                      · obtain ⟨rfl, hx⟩ := y
                        obtain ⟨cc, hcc, rfl⟩ := svs_get hx
                        subst e
                        refine ⟨rfl, _, rfl, _, rfl, qa, svs key, rfl, .inr (SqT.of ((newB hD2).at hqa)), rfl, flat_svs _, _, upd_same, szt ?_, ?_⟩
                        · rw [List.length_append, List.length_map, List.length_flatMap]
                          have hs : ((t.keys.take i).map fun q => (cols.map fun x => V.bl (q.contains x)).length).sum = (t.keys.take i).length * cols.length := by
                            simp [List.map_const', List.sum_replicate_nat]
                          rw [hs]
                          have h1 : (t.keys.take i).length ≤ 3 := by rw [List.length_take]; omega
                          have h2 : (cols.take j).length ≤ 3 := by rw [List.length_take]; omega
                          have h4 : (t.keys.take i).length * cols.length ≤ 3 * 3 := Nat.mul_le_mul h1 hc3
                          omega
                        · rw [upd_upd]
                          congr 2
                          have st : cols.take (j + 1) = cols.take j ++ [cc] := by rw [List.take_add_one, hcc]; rfl
                          rw [st, List.map_append, ← List.append_assoc]
                          congr 2
                          show V.bl (inV (sv cc) (svs key)) = _
                          rw [inV_svs]
                      · rw [e]
                        congr 2
                        have st : t.keys.take (i + 1) = t.keys.take i ++ [key] := by rw [List.take_add_one, hkey]; rfl
                        rw [svs_len, List.take_length, st, List.flatMap_append]
                        simp
                    · rw [hks8.1, List.take_length] at e
                      refine ⟨D2, t.keys.flatMap fun q => cols.map fun x => q.contains x, rfl, .inl (.inl ?_), _, rfl, p, d, r, L, n, _, rfl, ?_, ?_⟩
                      · rw [e, upd_same]
                        congr 2
                        rw [List.map_flatMap]
                        congr 1; funext q
                        rw [List.map_map]; rfl
                      · rw [e]; exact R8.keep0 (newB hD2)
                      · have eb : (!(t.keys.flatMap fun q => cols.map fun x => q.contains x).any id) = !barred false t cols := by
                          unfold barred
                          rw [List.any_flatMap]
                          simp [List.any_map, Function.comp_def]
                        rw [eb]
                        have bH : But [] H8 H' := by rw [e]; exact newB hD2
                        refine ite2n (fun hb => ?_) (fun hb => ?_)
                        · have hb' : barred false t cols = true := by rw [Bool.not_eq_true, Bool.not_eq_false'] at hb; exact hb
                          rw [hb'] at k
                          exact ErrE.later k (bp8.trans (But.of bH))
                        · have hb' : barred false t cols = false := by rw [Bool.not_eq_true'] at hb; exact hb
                          exact ⟨_, rfl, _, rfl, 1, rfl, a, svs ws, _, _, rfl, rfl, SqL.of (bH.at (b8.at ha7)), at1, _, rfl, (by show 3 ≤ sizeLine; decide), fun v hv => fin H' v bH hv hb'⟩
end
end Cn
set_option Elab.async false
set_option linter.all false
set_option maxRecDepth 100000
set_option maxHeartbeats 4000000
/-! references, tables -/
namespace Cn
open PySem L2
section
variable {P : Program} {w : World} {K : PySem.W.Frag} {mg : Str → Option Value} {base : Heap} {CR CT CS CI : Addr} {f : Addr} {fd : FuncData}
def sp_read_references (CR CT CI : Addr) : Sp := fun vs H Q E => ∃ p d r tb ab L n t va above, vs = [.ref p, .ref tb, .ref ab] ∧ RowsAt CR H p d r L n ∧ n ≤ L.length ∧ TblR CT H (.ref tb) t ∧ H ab = some (.lst va) ∧ Each (TblR CT H) va above ∧
  above.length ≤ 5 ∧ (∀ a ∈ above, WfT a) ∧ t.keys ≠ [] ∧ (∀ k ∈ t.keys, k.length ≤ 3) ∧ t.keys.length ≤ 3 ∧ t.cols.length ≤ 5 ∧ t.name.length ≤ 8 ∧ match refsLoop L t above 3 n [] with
  | .error e => ErrE CI p H E e
  | .ok (refs, n') => ∀ H' l vr, But [p] H H' → RowsAt CR H' p d r L n' → n' ≤ L.length → H l = none → H' l = some (.lst vr) → Each (RefR H') vr refs → Q (.ref l) H'
theorem readRef_lt {L : List Cn.T} {n : Nat} {t : Tbl} {above : List Tbl} {q : List Cn.T × Cn.T × Bool} (h : readRef L n t above = .ok q) : n < L.length := by
  unfold readRef at h
  split at h
  · cases h
  · rename_i ws hw
    exact words_lt hw
theorem or_go2 {A B : Bool} {X Y : Prop} (hx : (A || B) = true → X) (hy : (A || B) = false → Y) {G : Prop} (hb : (if B = true then X else Y) → G) : if A = true then (if true = true then X else Y) else G := or_go hx hy hb
theorem ok_read_references (F : Fun K "read_references" "read_references" s_read_references f fd) (T : Txt K mg CR CT CS) (c_Rows_begins : Met P w K mg base 2 CR "begins" (sp_begins CR)) (c_Rows_need : Met P w K mg base 3 CR "need" (sp_need CR CI))
    (c_read_reference : Cal P w K mg base 4 "read_reference" (sp_read_reference CR CT CI)) : FnOk P w K mg base (L2.CX P w) 5 f fd ["rows", "table", "above"] (sp_read_references CR CT CI) := by
  refine F.okX sc_read_references (fun vs H Q E h => ?_) (fun cdv A outer s H vs Q E hr h => ?_)
  · obtain ⟨p, d, r, tb, ab, L, n, t, va, above, rfl, _⟩ := h
    rfl
  · obtain ⟨p, d, r, tb, ab, L, n, t, va, above, rfl, R, hn, ht, hab, hva, h5, hwf, hk0, hk3, hkl, hcl, hnl, k⟩ := h
    refine ⟨_, (pss_cons (ps_set (i := 3) sc_read_references.nd rfl (Or.inl rfl) (pe_lst pa_nil))
  (pss_cons (ps_while (passes_of rfl) (PW.pt (pw_or (pt_val (p_meth E c_Rows_begins hr (by decide) (passX rfl rfl rfl (takes_of rfl rfl rfl rfl)) (pv 0) (pa_cons pe_str pa_nil))) (pw_or1 (pt_val (p_meth E c_Rows_begins hr (by decide) (passX rfl rfl rfl (takes_of rfl rfl rfl rfl)) (pv 0) (pa_cons pe_str pa_nil))))))
  (pss_cons (ps_set (i := 4) sc_read_references.nd rfl (Or.inl rfl) (p_call E c_read_reference hr (by decide) (by rfl) (passX rfl rfl rfl (takes_of rfl rfl rfl rfl)) (pa_cons (pv 0) (pa_cons (pv 1) (pa_cons (pv 2) pa_nil)))))
  (pss_cons (ps_set (i := 5) sc_read_references.nd rfl (Or.inr rfl) (pe_lc2 (own := [("other", 6), ("column", 7)]) (vs1 := [7]) (g := gName 6) (g1 := gName 7) (tt := tYes) (tt1 := tYes) (by rfl) sc_read_references.nd (pi_listK K rfl (pv 3)) (blkOk_by (own := [("other", 6), ("column", 7)]) (N := ["rows", "table", "above", "refers", "refer", "taken", "other", "column"]) (sc := (defScope s_read_references)) (by decide +kernel)) (by decide) (fun _ _ _ _ _ => (pg_name (i := 6) sc_read_references.nd rfl (Or.inl rfl))) (fun _ _ _ _ _ => pts_nil) (fun _ _ _ _ _ => (pi_tupK K rfl (pe_ix (ix_tupK K rfl) (pv 6) pe_int (fun _ _ => rfl)))) (fun _ _ _ _ _ => (pg_name (i := 7) sc_read_references.nd rfl (Or.inl rfl))) (fun _ _ _ _ _ => pts_nil) (fun _ _ _ _ _ => (pv 7))))
  (pss_cons (ps_expr (p_meth E c_Rows_need hr (by decide) (passX rfl rfl rfl (takes_of rfl rfl rfl rfl)) (pv 0) (pa_cons (pe_not (pe_callB (cr_anyK K rfl (by rfl)) (by rfl) T.b_any (by decide +kernel) (pa_cons (pe_lc (own := [("column", 7)]) (g := gName 7) (tt := tYes) (by rfl) sc_read_references.nd (pi_tupK K rfl (pe_ix (ix_tupK K rfl) (pv 4) pe_int (fun _ _ => rfl))) (blkOk_by (own := [("column", 7)]) (N := ["rows", "table", "above", "refers", "refer", "taken", "other", "column"]) (sc := (defScope s_read_references)) (by decide +kernel)) (fun _ _ _ _ _ => (pg_name (i := 7) sc_read_references.nd rfl (Or.inl rfl))) (fun _ _ _ _ _ => pts_nil) (fun _ _ _ _ _ => (pe_cmpR (op_in_seqK K rfl) (pv 7) (pv 5) (by rfl)))) pa_nil))) pa_nil)))
  (pss_cons (ps_expr (pe_bm PySem.F.plainAttrs_list PySem.F.slot_list_append PySem.F.type_list_append mt_append (pv 3) (pa_cons (pv 4) pa_nil)))
  (pss_one (ps_expr (p_meth E c_Rows_need hr (by decide) (passX rfl rfl rfl (takes_of rfl rfl rfl rfl)) (pv 0) (pa_cons (pe_cmpR op_le (pe_callB (call_len_seqK K rfl) (by rfl) T.b_len (by decide +kernel) (pa_cons (pv 3) pa_nil)) (p_gint T.g_MOST_REFERENCES) (nomark _)) pa_nil)))))))))
  (pss_one (ps_ret (pv 3))))), ?_⟩
    refine ⟨Nat.zero_le _, fun l hl => ?_⟩
    have npl : p ≠ l := ne_of_none R.at_ hl
    have nrl : r ≠ l := ne_of_none R.rows hl
    have nabl : ab ≠ l := ne_of_none hab hl
    have habp : ab ≠ p := ne_of hab R.at_ (by intro z; cases z)
    refine ⟨fun m σ H' => ∃ refs vr n' v4 v5 v6 v7, σ = [some (.ref p), some (.ref tb), some (.ref ab), some (.ref l), v4, v5, v6, v7] ∧ But [p] H H' ∧ Fix CR H H' ∧ H' l = some (.lst vr) ∧ Each (RefR H') vr refs ∧ RowsAt CR H' p d r L n' ∧ n' ≤ L.length ∧ refs.length ≤ 2 ∧ (∀ q ∈ refs, q.1.length ≤ 3) ∧
      m + refs.length = 3 ∧ refsLoop L t above m n' refs = refsLoop L t above 3 n [],
      ⟨3, [], [], n, none, none, none, none, rfl, But.refl.new hl, Fix.refl.new hl, upd_same, Each.nil, R.keep0 (newB hl), hn, by simp, by simp, rfl, rfl⟩, ?_⟩
    rintro m σ H1 ⟨refs, vr, n1, v4, v5, v6, v7, rfl, b1, f1, hl1, hr1, R1, hn1, h2, hq3, hm, he⟩
    obtain ⟨m, rfl⟩ : ∃ m', m = m' + 1 := ⟨m - 1, by omega⟩
    refine ⟨_, rfl, p, d, _, rfl, R1.at_, rfl, p, d, r, L, n1, kRef, rfl, R1, hn1, _, rfl, or_go (B := begins L n1 kOpt) (fun ht0 => ⟨_, fun _ _ z => z, ?_⟩) (fun ht0 => ?_) (fun g => ⟨_, rfl, p, d, _, rfl, R1.at_, rfl, p, d, r, L, n1, kOpt, rfl, R1, hn1, _, rfl, g⟩)⟩
    · have e0 : refsLoop L t above (m + 1) n1 refs = (match readRef L n1 t above with
        | .error e => .error e
        | .ok r => if r.1.any fun c => (refs.flatMap (·.1)).contains c then .error n1 else if refs.length + 1 ≤ 2 then refsLoop L t above m (n1 + 1) (refs ++ [r]) else .error n1) := by
        show (if (begins L n1 kRef || begins L n1 kOpt) = true then _ else _) = _
        rw [ht0]; rfl
      have hab1 : H1 ab = some (.lst va) := b1.at1 hab habp
      refine ⟨_, rfl, _, rfl, _, rfl, p, d, r, tb, ab, L, n1, t, va, above, rfl, R1, hn1, ht.fix T.nT f1, hab1, hva.mono fun _ _ q => q.fix T.nT f1, h5, hwf, hk0, hk3, hkl, hcl, ?_⟩
      cases hw : readRef L n1 t above with
      | error e =>
        rw [hw] at e0
        have e0 : refsLoop L t above (m + 1) n1 refs = .error e := e0
        rw [← he, e0] at k
        exact k.later b1
      | ok q =>
        rw [hw] at e0
        have e0 : refsLoop L t above (m + 1) n1 refs = if q.1.any fun c => (refs.flatMap (·.1)).contains c then .error n1 else if refs.length + 1 ≤ 2 then refsLoop L t above m (n1 + 1) (refs ++ [q]) else .error n1 := e0
        have lt := readRef_lt hw
        have hqok := readRef_ok hw hnl hwf hk3 hk0
        intro H2 v b2 R2 hv
        obtain ⟨qa, qc, rfl, hqa, hqc⟩ := hv
        have f2 : Fix CR H1 H2 := R1.fix b2
        have hl2 := b2.at1 hl1 npl.symm
        have hr2 : Each (RefR H2) vr refs := hr1.mono fun _ _ z => z.fix f2
        -- taken
        refine ⟨_, rfl, l, rfl, ⟨_, SqL.of hl2⟩, fun D hD => ?_⟩
        have hz3 : ∀ i, ((refs.take i).flatMap (·.1)).length ≤ 6 := fun i => by
          have : ∀ (xs : List (List Cn.T × Cn.T × Bool)), (∀ q ∈ xs, q.1.length ≤ 3) → (xs.flatMap (·.1)).length ≤ 3 * xs.length := fun xs => by
            induction xs with
            | nil => intro _; simp
            | cons x r ih => intro h; have h1 := h x List.mem_cons_self; have h4 := ih fun q hq => h q (List.mem_cons_of_mem _ hq); rw [List.flatMap_cons, List.length_append, List.length_cons]; omega
          have h1 := this (refs.take i) fun q hq => hq3 q (List.mem_of_mem_take hq)
          have h4 : (refs.take i).length ≤ refs.length := by rw [List.length_take]; omega
          omega
        refine turns (walk_list (K := K) (a := l) (xs := vr)) (fun i H' => H' = upd H2 D (.lst (svs ((refs.take i).flatMap (·.1))))) rfl (fun i H' _ e => by rw [e]; exact SqL.of ((newB hD).at hl2)) (fun i x H6 H6' hi e y => ?_) (fun H' e => ?_)
        · obtain ⟨rfl, hx⟩ := y
          obtain ⟨o, ho, oa, oc, rfl, hoa, hoc⟩ := hr2.at hx
          subst e
          have bD := newB (o := .lst (svs ((refs.take i).flatMap (·.1)))) hD
          refine ⟨rfl, _, rfl, oa, _, 0, .ref oc, rfl, rfl, SqT.of (bD.at hoa), rfl, oc, rfl, ⟨_, SqT.of (bD.at hoc)⟩, ?_⟩
          refine turns (walk_tup (K := K) (a := oc) (xs := svs o.1)) (fun j H' => H' = upd H2 D (.lst (svs ((refs.take i).flatMap (·.1) ++ o.1.take j)))) (by simp) (fun j H' _ e => by rw [e]; exact SqT.of ((newB hD).at hoc)) (fun j x H5 H5' hj e y => ?_) (fun H' e => ?_)
          · obtain ⟨rfl, hx⟩ := y
            obtain ⟨cc, hcc, rfl⟩ := svs_get hx
            subst e
            have ho3 := hq3 o (List.mem_of_getElem? ho)
            refine ⟨rfl, _, rfl, _, upd_same, szt ?_, ?_⟩
            · rw [svs_len, List.length_append, List.length_take]
              have := hz3 i
              omega
            · rw [upd_upd]
              congr 2
              have st : o.1.take (j + 1) = o.1.take j ++ [cc] := by rw [List.take_add_one, hcc]; rfl
              rw [st, ← List.append_assoc, svs_app (_ ++ _)]; rfl
          · rw [e]
            congr 2
            have st : refs.take (i + 1) = refs.take i ++ [o] := by rw [List.take_add_one, ho]; rfl
            rw [svs_len, List.take_length, st, List.flatMap_append]
            simp
        · rw [hr2.1, List.take_length] at e
          have bH : But [] H2 H' := by rw [e]; exact newB hD
          have hD' : H' D = some (.lst (svs (refs.flatMap (·.1)))) := by rw [e, upd_same]
          have R3 := R2.keep0 bH
          have b3 : But [p] H1 H' := b2.trans (But.of bH)
          -- need(not any([column in taken for column in refer[0]]))
          refine ⟨_, rfl, p, d, _, rfl, R3.at_, rfl, _, rfl, qa, _, 0, .ref qc, rfl, rfl, SqT.of (bH.at hqa), rfl, qc, rfl, ⟨_, SqT.of (bH.at hqc)⟩, fun D2 hD2 => ?_⟩
          refine lc_pure (svs q.1) (fun v => some (.bl (inV v (svs (refs.flatMap (·.1)))))) (walk_tup (K := K) (a := qc)) rfl yat (fun acc => SqT.of ((newB hD2).at (bH.at hqc))) (fun i x acc N hx hlen hy _ => ?_) ?_
          · obtain ⟨cc, hcc, rfl⟩ := svs_get hx
            exact ⟨rfl, _, rfl, _, rfl, D, _, rfl, .inl (SqL.of ((newB hD2).at hD')), rfl, flat_svs _, lc_put (szt (by have := (List.getElem?_eq_some_iff.mp hcc).1; have := hqok.1; omega)) (hy _ rfl)⟩
          · refine ⟨D2, q.1.map fun c => (refs.flatMap (·.1)).contains c, rfl, .inl (.inl (by rw [upd_same, in_all])), _, rfl, p, d, r, L, n1, _, rfl, R3.keep0 (newB hD2), ?_⟩
            have eb : (!(q.1.map fun c => (refs.flatMap (·.1)).contains c).any id) = !(q.1.any fun c => (refs.flatMap (·.1)).contains c) := by rw [List.any_map]; rfl
            rw [eb]
            have b4 := b3.trans (But.of (newB (o := .lst ((svs q.1).filterMap fun v => some (.bl (inV v (svs (refs.flatMap (·.1))))))) hD2))
            generalize hH4 : upd H' D2 (.lst ((svs q.1).filterMap fun v => some (.bl (inV v (svs (refs.flatMap (·.1))))))) = H4 at b4
            have bD2 : But [] H' H4 := by rw [← hH4]; exact newB hD2
            refine ite2n (fun ha => ?_) (fun ha => ?_)
            · have ha' : (q.1.any fun c => (refs.flatMap (·.1)).contains c) = true := by rw [Bool.not_eq_true, Bool.not_eq_false'] at ha; exact ha
              rw [ha'] at e0
              have e0 : refsLoop L t above (m + 1) n1 refs = .error n1 := e0
              rw [← he, e0] at k
              exact ErrE.later k (b1.trans b4)
            · have ha' : (q.1.any fun c => (refs.flatMap (·.1)).contains c) = false := by rw [Bool.not_eq_true'] at ha; exact ha
              rw [ha'] at e0
              have e0 : refsLoop L t above (m + 1) n1 refs = if refs.length + 1 ≤ 2 then refsLoop L t above m (n1 + 1) (refs ++ [q]) else .error n1 := e0
              have hl4 : H4 l = some (.lst vr) := bD2.at (bH.at hl2)
              have hqa4 := bD2.at (bH.at hqa)
              have hqc4 := bD2.at (bH.at hqc)
              refine ⟨_, rfl, tyList hl4, _, rfl, l, vr, .ref qa, rfl, rfl, hl4, szt (by have := hr1.1; omega), ?_⟩
              have b9 : But [p] H (upd H4 l (.lst (vr ++ [.ref qa]))) := (b1.trans b4).put0 hl
              have R9 := (R3.keep0 bD2).put (o := .lst (vr ++ [.ref qa])) npl nrl
              have f9 : Fix CR H1 (upd H4 l (.lst (vr ++ [.ref qa]))) := fun x o hx i => by
                rw [upd_ne (fun z => by rw [z, hl1] at hx; cases hx; exact i)]
                exact (R1.fix b4) x o hx i
              refine ⟨_, rfl, p, d, _, rfl, R9.at_, rfl, _, rfl, l, _, rfl, .inl (SqL.of upd_same), _, 2, rfl, rfl, p, d, r, L, n1, _, rfl, R9, ?_⟩
              have el : decide (((vr ++ [V.ref qa]).length : Int) ≤ 2) = decide (refs.length + 1 ≤ 2) := by
                rw [List.length_append, hr1.1]
                exact le_lit (n := refs.length + 1) (k := 2)
              rw [el]
              refine ite2 (fun h => ?_) (fun h => ?_)
              · have h' : refs.length + 1 ≤ 2 := of_decide_eq_true h
                rw [if_pos h'] at e0
                refine ⟨m, by omega, refs ++ [q], vr ++ [.ref qa], n1 + 1, _, _, _, _, rfl, b9, f1.trans f9, upd_same, ?_, R9, lt, by simpa using h', fun x hx => ?_, by simp; omega, by rw [← e0]; exact he⟩
                · exact (hr1.mono fun _ _ z => z.fix f9).snoc ⟨qa, qc, rfl, by rw [upd_ne (ne_of hqa4 hl4 (by intro z; cases z))]; exact hqa4, by rw [upd_ne (ne_of hqc4 hl4 (by intro z; cases z))]; exact hqc4⟩
                · rcases List.mem_append.mp hx with z | z
                  · exact hq3 x z
                  · rw [List.mem_singleton.mp z]; exact hqok.1
              · have h' : ¬ refs.length + 1 ≤ 2 := fun z => h (decide_eq_true z)
                rw [if_neg h'] at e0
                rw [← he, e0] at k
                exact k.later b9
    · have e0 : refsLoop L t above (m + 1) n1 refs = .ok (refs, n1) := by
        show (if (begins L n1 kRef || begins L n1 kOpt) = true then _ else _) = _
        rw [ht0]; rfl
      rw [← he, e0] at k
      exact ⟨_, rfl, k H1 l vr b1 R1 hn1 hl hl1 hr1⟩
end
end Cn
set_option Elab.async false
set_option linter.all false
set_option maxRecDepth 100000
set_option maxHeartbeats 4000000
/-! tables and their rows -/
namespace Cn
open PySem L2
section
variable {P : Program} {w : World} {K : PySem.W.Frag} {mg : Str → Option Value} {base : Heap} {CR CT CS CI : Addr} {f : Addr} {fd : FuncData}
/-! ### Table.__init__ -/
theorem sc_Table_init : FnScope ["self", "name", "columns", "unique", "refers"] ["self", "name", "columns", "unique", "refers"] (defScope s_Table_init) := ⟨rfl, rfl, rfl, by decide +kernel, rfl, by decide +kernel, by decide +kernel⟩
theorem sc_read_table : FnScope ["rows", "above", "name", "columns", "keys", "refers", "table"] ["rows", "above"] (defScope s_read_table) := ⟨rfl, rfl, rfl, by decide +kernel, rfl, by decide +kernel, by decide +kernel⟩
theorem sc_read_tables : FnScope ["rows", "tables"] ["rows"] (defScope s_read_tables) := ⟨rfl, rfl, rfl, by decide +kernel, rfl, by decide +kernel, by decide +kernel⟩
theorem sc_table_rows : FnScope ["table", "rows", "column", "key", "names", "columns", "target", "required", "word"] ["table"] (defScope s_table_rows) := ⟨rfl, rfl, rfl, by decide +kernel, rfl, by decide +kernel, by decide +kernel⟩
def sp_Table_init (CT : Addr) : Sp := fun vs H Q _ => ∃ (x dx c u q : Addr) (n : Cn.T) (vc vu vq : List V), vs = [.ref x, sv n, .ref c, .ref u, .ref q] ∧ H x = some (.ins CT dx []) ∧ H c = some (.lst vc) ∧ H u = some (.lst vu) ∧ H q = some (.lst vq) ∧
  ∀ H' ca ua ra, But [x] H H' → H' x = some (.ins CT dx (tf n ca ua ra)) → H' ca = some (.tup vc) → H' ua = some (.tup vu) → H' ra = some (.tup vq) → Q .non H'
theorem ok_Table_init (F : Fun K "__init__" "Table.__init__" s_Table_init f fd) (T : Txt K mg CR CT CS) : FnOk P w K mg base (L2.CX P w) 1 f fd ["self", "name", "columns", "unique", "refers"] (sp_Table_init CT) := by
  refine F.okX sc_Table_init (fun vs H Q E h => ?_) (fun cdv A outer s H vs Q E hr h => ?_)
  · obtain ⟨x, dx, c, u, q, n, vc, vu, vq, rfl, _⟩ := h
    rfl
  · obtain ⟨x, dx, c, u, q, n, vc, vu, vq, rfl, hx, hc, hu, hq, k⟩ := h
    have ncx : c ≠ x := ne_of hc hx (by intro z; cases z)
    have nux : u ≠ x := ne_of hu hx (by intro z; cases z)
    have nqx : q ≠ x := ne_of hq hx (by intro z; cases z)
    refine ⟨_, (pss_cons (ps_fldK K rfl (pv 0) (pv 1) rfl)
  (pss_cons (ps_fldK K rfl (pv 0) (pe_callTy (call_tuple_ofK K rfl) (by rfl) T.b_tuple (by decide +kernel) (pa_cons (pv 2) pa_nil)) rfl)
  (pss_cons (ps_fldK K rfl (pv 0) (pe_callTy (call_tuple_ofK K rfl) (by rfl) T.b_tuple (by decide +kernel) (pa_cons (pv 3) pa_nil)) rfl)
  (pss_one (ps_fldK K rfl (pv 0) (pe_callTy (call_tuple_ofK K rfl) (by rfl) T.b_tuple (by decide +kernel) (pa_cons (pv 4) pa_nil)) rfl))))), ?_⟩
    refine ⟨_, rfl, _, rfl, x, CT, dx, _, rfl, hx, T.clT, T.naT1, (by show 0 < 1000; decide), ?_⟩
    refine ⟨_, rfl, c, vc, rfl, .inl ⟨SqL.of (by rw [upd_ne ncx]; exact hc), fun ca hca => ?_⟩⟩
    have nca : ca ≠ x := fun z => by rw [z, upd_same] at hca; cases hca
    refine ⟨_, rfl, x, CT, dx, _, rfl, (by rw [upd_ne nca.symm, upd_same]), T.clT, T.naT2, (by show 1 < 1000; decide), ?_⟩
    have ncau : u ≠ ca := fun z => by rw [← z, upd_ne nux, hu] at hca; cases hca
    have ncaq : q ≠ ca := fun z => by rw [← z, upd_ne nqx, hq] at hca; cases hca
    refine ⟨_, rfl, u, vu, rfl, .inl ⟨SqL.of (by rw [upd_ne nux, upd_ne ncau, upd_ne nux]; exact hu), fun ua hua => ?_⟩⟩
    have nua : ua ≠ x := fun z => by rw [z, upd_same] at hua; cases hua
    have nuaca : ca ≠ ua := fun z => by rw [← z, upd_ne nca, upd_same] at hua; cases hua
    have nuaq : q ≠ ua := fun z => by rw [← z, upd_ne nqx, upd_ne ncaq, upd_ne nqx, hq] at hua; cases hua
    refine ⟨_, rfl, x, CT, dx, _, rfl, (by rw [upd_ne nua.symm, upd_same]), T.clT, T.naT3, (by show 2 < 1000; decide), ?_⟩
    refine ⟨_, rfl, q, vq, rfl, .inl ⟨SqL.of (by rw [upd_ne nqx, upd_ne nuaq, upd_ne nqx, upd_ne ncaq, upd_ne nqx]; exact hq), fun ra hra => ?_⟩⟩
    have nra : ra ≠ x := fun z => by rw [z, upd_same] at hra; cases hra
    have nraua : ua ≠ ra := fun z => by rw [← z, upd_ne nua, upd_same] at hra; cases hra
    have nraca : ca ≠ ra := fun z => by rw [← z, upd_ne nca, upd_ne nuaca, upd_ne nca, upd_same] at hra; cases hra
    refine ⟨_, rfl, x, CT, dx, _, rfl, (by rw [upd_ne nra.symm, upd_same]), T.clT, T.naT4, (by show 3 < 1000; decide), ?_⟩
    have hca0 : H ca = none := by rw [upd_ne nca] at hca; exact hca
    have hua0 : H ua = none := by rw [upd_ne nua, upd_ne nuaca.symm, upd_ne nua] at hua; exact hua
    have hra0 : H ra = none := by rw [upd_ne nra, upd_ne nraua.symm, upd_ne nra, upd_ne nraca.symm, upd_ne nra] at hra; exact hra
    refine k _ ca ua ra ?_ ?_ ?_ ?_ ?_
    · exact ((((((But.refl.put (by simp)).put0 hca0).put (by simp)).put0 hua0).put (by simp)).put0 hra0).put (by simp)
    · rw [upd_same]; rfl
    · rw [upd_ne nca, upd_ne nraca, upd_ne nca, upd_ne nuaca, upd_ne nca, upd_same]
    · rw [upd_ne nua, upd_ne nraua, upd_ne nua, upd_same]
    · rw [upd_ne nra, upd_same]

/-- what Table(..) leaves -/
theorem made_tbl {CR CT : Addr} {H H' : Hp} {x dx ca ua ra : Addr} {n : Cn.T} {cols : List Cn.T} {keys : List (List Cn.T)} {refs : List (List Cn.T × Cn.T × Bool)} {vu vq : List V} (hx : H x = none) (hdx : H dx = none) (f : But [x] (upd (upd H dx (.own x)) x (.ins CT dx [])) H') (hi : H' x = some (.ins CT dx (tf n ca ua ra)))
    (h1 : H' ca = some (.tup (svs cols))) (h2 : H' ua = some (.tup vu)) (h3 : H' ra = some (.tup vq)) (e2 : Each (KeyR H) vu keys) (e3 : Each (RefR H) vq refs) : But [] H H' ∧ TblR CT H' (.ref x) ⟨n, cols, keys, refs⟩ := by
  have b : But [] H H' := (((But.refl (l := [x])).new hdx).put (by simp) |>.trans f).drop hx
  exact ⟨b, x, dx, ca, ua, ra, vu, vq, rfl, hi, h1, h2, e2.mono fun _ _ z => z.fix (b.fix0 (CR := CR)), h3, e3.mono fun _ _ z => z.fix (b.fix0 (CR := CR))⟩

/-! ### read_table -/
theorem names_of {CT : Addr} {H : Hp} {va : List V} {above : List Tbl} (h : Each (TblR CT H) va above) : (List.range va.length).filterMap (fun i => (above[i]?).map fun t => sv t.name) = svs (above.map (·.name)) := by
  rw [h.1, range_map]
  show above.map _ = (above.map _).map sv
  rw [List.map_map]; rfl
def sp_read_table (CR CT CI : Addr) : Sp := fun vs H Q E => ∃ p d r ab L n va above, vs = [.ref p, .ref ab] ∧ RowsAt CR H p d r L n ∧ n ≤ L.length ∧ H ab = some (.lst va) ∧ Each (TblR CT H) va above ∧ above.length ≤ 5 ∧ (∀ a ∈ above, WfT a) ∧ match readTable L n above with
  | .error e => ErrE CI p H E e
  | .ok (t, n') => ∀ H' v, But [p] H H' → RowsAt CR H' p d r L n' → n' ≤ L.length → TblR CT H' v t → Q v H'
theorem exactly_lt {L : List Cn.T} {n : Nat} {r : Cn.T} (h : exactly L n r = true) : n < L.length := by
  unfold exactly at h
  have := eq_of_beq h
  exact (List.getElem?_eq_some_iff.mp this).1
theorem ok_read_table (F : Fun K "read_table" "read_table" s_read_table f fd) (T : Txt K mg CR CT CS) (c_Rows_need : Met P w K mg base 3 CR "need" (sp_need CR CI)) (c_Rows_new_name : Met P w K mg base 4 CR "new_name" (sp_new_name K CR CI))
    (c_Rows_exactly : Met P w K mg base 3 CR "exactly" (sp_exactly CR CI)) (c_read_columns : Cal P w K mg base 5 "read_columns" (sp_read_columns CR CI)) (c_read_keys : Cal P w K mg base 4 "read_keys" (sp_read_keys CR CI))
    (c_read_references : Cal P w K mg base 5 "read_references" (sp_read_references CR CT CI)) (m_Table : Mak P w K mg base 1 "Table" CT (sp_Table_init CT)) : FnOk P w K mg base (L2.CX P w) 6 f fd ["rows", "above"] (sp_read_table CR CT CI) := by
  refine F.okX sc_read_table (fun vs H Q E h => ?_) (fun cdv A outer s H vs Q E hr h => ?_)
  · obtain ⟨p, d, r, ab, L, n, va, above, rfl, _⟩ := h
    rfl
  · obtain ⟨p, d, r, ab, L, n, va, above, rfl, R, hn, hab, hva, h5, hwf, k⟩ := h
    have habp : ab ≠ p := ne_of hab R.at_ (by intro z; cases z)
    refine ⟨_, (pss_cons (ps_set (i := 2) sc_read_table.nd rfl (Or.inl rfl) (p_meth E c_Rows_new_name hr (by decide) (passX rfl rfl rfl (takes_of rfl rfl rfl rfl)) (pv 0) (pa_cons pe_str (pa_cons (pe_lc (own := [("table", 6)]) (g := gName 6) (tt := tYes) (by rfl) sc_read_table.nd (pi_listK K rfl (pv 1)) (blkOk_by (own := [("table", 6)]) (N := ["rows", "above", "name", "columns", "keys", "refers", "table"]) (sc := (defScope s_read_table)) (by decide +kernel)) (fun _ _ _ _ _ => (pg_name (i := 6) sc_read_table.nd rfl (Or.inl rfl))) (fun _ _ _ _ _ => pts_nil) (fun _ _ _ _ _ => (pe_fldK K rfl (pv 6) rfl))) pa_nil))))
  (pss_cons (ps_expr (p_meth E c_Rows_need hr (by decide) (passX rfl rfl rfl (takes_of rfl rfl rfl rfl)) (pv 0) (pa_cons (pe_cmpR op_lt (pe_callB (call_len_seqK K rfl) (by rfl) T.b_len (by decide +kernel) (pa_cons (pv 1) pa_nil)) (p_gint T.g_MOST_TABLES) (nomark _)) pa_nil)))
  (pss_cons (ps_set (i := 3) sc_read_table.nd rfl (Or.inl rfl) (p_call E c_read_columns hr (by decide) (by rfl) (passX rfl rfl rfl (takes_of rfl rfl rfl rfl)) (pa_cons (pv 0) pa_nil)))
  (pss_cons (ps_set (i := 4) sc_read_table.nd rfl (Or.inl rfl) (p_call E c_read_keys hr (by decide) (by rfl) (passX rfl rfl rfl (takes_of rfl rfl rfl rfl)) (pa_cons (pv 0) (pa_cons (pv 3) pa_nil))))
  (pss_cons (ps_set (i := 5) sc_read_table.nd rfl (Or.inl rfl) (p_call E c_read_references hr (by decide) (by rfl) (passX rfl rfl rfl (takes_of rfl rfl rfl rfl)) (pa_cons (pv 0) (pa_cons (p_make E m_Table hr (by decide) (by rfl) (passX rfl rfl rfl (takes_of rfl rfl rfl rfl)) (pa_cons (pv 2) (pa_cons (pv 3) (pa_cons (pv 4) (pa_cons (pe_lst pa_nil) pa_nil))))) (pa_cons (pv 1) pa_nil)))))
  (pss_cons (ps_expr (p_meth E c_Rows_exactly hr (by decide) (passX rfl rfl rfl (takes_of rfl rfl rfl rfl)) (pv 0) (pa_cons pe_str pa_nil)))
  (pss_one (ps_ret (p_make E m_Table hr (by decide) (by rfl) (passX rfl rfl rfl (takes_of rfl rfl rfl rfl)) (pa_cons (pv 2) (pa_cons (pv 3) (pa_cons (pv 4) (pa_cons (pv 5) pa_nil))))))))))))), ?_⟩
    -- name
    refine ⟨_, rfl, p, d, _, rfl, R.at_, rfl, _, rfl, ab, rfl, ⟨_, SqL.of hab⟩, fun D hD => ?_⟩
    refine lc_grow (fun i => (above[i]?).map fun t => sv t.name) (walk_list (K := K) (a := ab) (xs := va)) hD (fun H' b => SqL.of (b.at hab)) (fun i x acc H6 H7 N hi hz b6 hD6 y hy _ => ?_) (fun H1 b1 hD1 => ?_)
    · obtain ⟨rfl, hx⟩ := y
      obtain ⟨o, ho, q, dq, ca, ua, ra, kss, rss, rfl, hq, _⟩ := hva.at hx
      exact ⟨rfl, _, rfl, q, CT, dq, _, _, rfl, b6.at hq, T.clT, T.naT1, tf_name, lc_putG b6 hD hD6 (by have := hva.1; omega) fun H'' bb hh => hy _ H'' (by rw [ho]; rfl) bb hh⟩
    · rw [names_of hva] at hD1
      have R1 := R.keep0 b1
      refine ⟨p, d, r, D, L, n, kTable, _, rfl, R1, hn, by decide, hD1, ?_⟩
      unfold readTable at k
      cases hnm : newName L n kTable (above.map (·.name)) with
      | error e =>
        rw [hnm] at k
        exact ErrE.later k (But.of b1)
      | ok nm =>
        rw [hnm] at k
        have lt := newName_lt hnm
        have nm8 := isName_len (newName_ok hnm).1
        intro H2 b2 R2
        have bp2 : But [p] H H2 := (But.of b1).trans b2
        have hab2 : H2 ab = some (.lst va) := bp2.at1 hab habp
        -- need(len(above) < 5)
        refine ⟨_, rfl, p, d, _, rfl, R2.at_, rfl, _, rfl, ab, _, rfl, .inl (SqL.of hab2), _, 5, rfl, rfl, p, d, r, L, n, _, rfl, R2, ?_⟩
        have e5 : decide (((va.length : Nat) : Int) < 5) = decide (above.length < 5) := by
          rw [hva.1]
          by_cases z : above.length < 5
          · rw [decide_eq_true z, decide_eq_true (by omega)]
          · rw [decide_eq_false z, decide_eq_false (by omega)]
        rw [e5]
        refine ite2n (fun h => ?_) (fun h => ?_)
        · have h' : ¬ above.length < 5 := fun z => h (decide_eq_true z)
          have k : ErrE CI p H E n := by simpa [h'] using k
          exact k.later bp2
        · have h' : above.length < 5 := of_decide_eq_true h
          have k : (match colsLoop L 6 (n + 1) [] with
            | .error e => ErrE CI p H E e
            | .ok (cols, n1) => match (match keysLoop L cols 4 n1 [] with
              | .error e => (.error e : Except Nat (Tbl × Nat))
              | .ok (keys, n2) => match refsLoop L ⟨nm, cols, keys, []⟩ above 3 n2 [] with
                | .error e => .error e
                | .ok (refs, n3) => if exactly L n3 kEnd then .ok (⟨nm, cols, keys, refs⟩, n3 + 1) else .error n3) with
              | .error e => ErrE CI p H E e
              | .ok (t, n') => ∀ H' v, But [p] H H' → RowsAt CR H' p d r L n' → n' ≤ L.length → TblR CT H' v t → Q v H') := by
            have k2 := k
            simp only [h', if_true] at k2
            cases hc : colsLoop L 6 (n + 1) [] with
            | error e => rw [hc] at k2; exact k2
            | ok cn => rw [hc] at k2; exact k2
          -- columns
          refine ⟨_, rfl, p, d, r, L, n + 1, rfl, R2, lt, ?_⟩
          cases hc : colsLoop L 6 (n + 1) [] with
          | error e =>
            rw [hc] at k
            exact ErrE.later k bp2
          | ok cn =>
            obtain ⟨cols, n1⟩ := cn
            rw [hc] at k
            have ck := colsLoop_ok hc (by simp) (by simp) (by simp)
            intro H3 c b3 R3 hn3 hc0 hc3
            have bp3 := bp2.trans b3
            have k : (match (match keysLoop L cols 4 n1 [] with
              | .error e => (.error e : Except Nat (Tbl × Nat))
              | .ok (keys, n2) => match refsLoop L ⟨nm, cols, keys, []⟩ above 3 n2 [] with
                | .error e => .error e
                | .ok (refs, n3) => if exactly L n3 kEnd then .ok (⟨nm, cols, keys, refs⟩, n3 + 1) else .error n3) with
              | .error e => ErrE CI p H E e
              | .ok (t, n') => ∀ H' v, But [p] H H' → RowsAt CR H' p d r L n' → n' ≤ L.length → TblR CT H' v t → Q v H') := k
            have hcp : c ≠ p := ne_of hc3 R3.at_ (by intro z; cases z)
            -- keys
            refine ⟨_, rfl, _, rfl, p, d, r, c, L, n1, cols, rfl, R3, hn3, hc3, ?_⟩
            cases hkk : keysLoop L cols 4 n1 [] with
            | error e =>
              rw [hkk] at k
              exact ErrE.later k bp3
            | ok kn =>
              obtain ⟨keys, n2⟩ := kn
              rw [hkk] at k
              have kk := keysLoop_ok hkk (by simp) (by simp) (by simp)
              intro H4 u ks b4 R4 hn4 hu0 hu4 hks4
              have bp4 := bp3.trans b4
              have hc4 : H4 c = some (.lst (svs cols)) := b4.at1 hc3 hcp
              have k : (match (match refsLoop L ⟨nm, cols, keys, []⟩ above 3 n2 [] with
                | .error e => (.error e : Except Nat (Tbl × Nat))
                | .ok (refs, n3) => if exactly L n3 kEnd then .ok (⟨nm, cols, keys, refs⟩, n3 + 1) else .error n3) with
                | .error e => ErrE CI p H E e
                | .ok (t, n') => ∀ H' v, But [p] H H' → RowsAt CR H' p d r L n' → n' ≤ L.length → TblR CT H' v t → Q v H') := k
              -- read_references(rows, Table(name, columns, keys, []), above)
              refine ⟨_, rfl, _, rfl, _, rfl, _, rfl, Nat.zero_le _, fun q hq0 => ?_⟩
              intro x dx hx hdx ndx
              have b41 : But [] H4 (upd H4 q (.lst [])) := newB hq0
              have ncq : c ≠ q := ne_of_none hc4 hq0
              have nuq : u ≠ q := ne_of_none hu4 hq0
              generalize hHa : upd H4 q (.lst []) = Ha at hx hdx b41
              have hqa : Ha q = some (.lst []) := by rw [← hHa, upd_same]
              have stay : ∀ {y : Addr} {o : HO}, Ha y = some o → (upd (upd Ha dx (.own x)) x (.ins CT dx [])) y = some o := fun {y o} e => by
                rw [upd_ne (ne_of_none e hx), upd_ne (ne_of_none e hdx)]; exact e
              refine ⟨x, dx, c, u, q, nm, svs cols, ks, [], rfl, upd_same, stay (b41.at hc4), stay (b41.at hu4), stay hqa, fun H5 ca ua ra f5 hi5 h51 h52 h53 => ⟨rfl, ?_⟩⟩
              obtain ⟨b5, ht5⟩ := made_tbl (CR := CR) (keys := keys) (refs := []) hx hdx f5 hi5 h51 h52 h53 (hks4.mono fun _ _ z => z.fix (b41.fix0 (CR := CR))) Each.nil
              have b45 := b41.trans b5
              have bp5 := bp4.trans (But.of b45)
              have R5 := R4.keep0 b45
              have hab5 : H5 ab = some (.lst va) := bp5.at1 hab habp
              have hva5 := hva.mono fun _ _ z => z.fix T.nT (R.fix bp5)
              refine ⟨_, rfl, p, d, r, x, ab, L, n2, ⟨nm, cols, keys, []⟩, va, above, rfl, R5, hn4, ht5, hab5, hva5, h5, hwf, kk.1, fun z hz => (kk.2.2 z hz).1, kk.2.1, ck.2.1, nm8, ?_⟩
              cases hrr : refsLoop L ⟨nm, cols, keys, []⟩ above 3 n2 [] with
              | error e =>
                rw [hrr] at k
                exact ErrE.later k bp5
              | ok rn =>
                obtain ⟨refs, n3⟩ := rn
                rw [hrr] at k
                have k : (match (if exactly L n3 kEnd then (.ok (⟨nm, cols, keys, refs⟩, n3 + 1) : Except Nat (Tbl × Nat)) else .error n3) with
                  | .error e => ErrE CI p H E e
                  | .ok (t, n') => ∀ H' v, But [p] H H' → RowsAt CR H' p d r L n' → n' ≤ L.length → TblR CT H' v t → Q v H') := k
                intro H6 lr vr b6 R6 hn6 hlr0 hlr6 hrs6
                have bp6 := bp5.trans b6
                have hc6 : H6 c = some (.lst (svs cols)) := b6.at1 (b45.at hc4) hcp
                have hup : u ≠ p := ne_of hu4 R4.at_ (by intro z; cases z)
                have hu6 : H6 u = some (.lst ks) := b6.at1 (b45.at hu4) hup
                have hks6 : Each (KeyR H6) ks keys := hks4.mono fun _ _ z => (z.fix (b45.fix0 (CR := CR))).fix (R5.fix b6)
                -- rows.exactly("end")
                refine ⟨_, rfl, p, d, _, rfl, R6.at_, rfl, p, d, r, L, n3, kEnd, rfl, R6, hn6, ?_⟩
                cases hex : exactly L n3 kEnd with
                | false =>
                  rw [hex] at k
                  exact iteF (ErrE.later k bp6)
                | true =>
                  rw [hex] at k
                  have k : ∀ H' v, But [p] H H' → RowsAt CR H' p d r L (n3 + 1) → n3 + 1 ≤ L.length → TblR CT H' v ⟨nm, cols, keys, refs⟩ → Q v H' := k
                  refine iteT fun H7 b7 R7 => ?_
                  have hlrp : lr ≠ p := ne_of hlr6 R6.at_ (by intro z; cases z)
                  have hc7 := b7.at1 hc6 hcp
                  have hu7 := b7.at1 hu6 hup
                  have hl7 := b7.at1 hlr6 hlrp
                  have f7 : Fix CR H6 H7 := R6.fix b7
                  refine ⟨_, rfl, _, rfl, _, rfl, _, rfl, fun x2 dx2 hx2 hdx2 ndx2 => ?_⟩
                  have stay : ∀ {y : Addr} {o : HO}, H7 y = some o → (upd (upd H7 dx2 (.own x2)) x2 (.ins CT dx2 [])) y = some o := fun {y o} e => by
                    rw [upd_ne (ne_of_none e hx2), upd_ne (ne_of_none e hdx2)]; exact e
                  refine ⟨x2, dx2, c, u, lr, nm, svs cols, ks, vr, rfl, upd_same, stay hc7, stay hu7, stay hl7, fun H8 ca ua ra f8 hi8 h81 h82 h83 => ⟨rfl, ?_⟩⟩
                  obtain ⟨b8, ht8⟩ := made_tbl (CR := CR) (keys := keys) (refs := refs) hx2 hdx2 f8 hi8 h81 h82 h83 (hks6.mono fun _ _ z => z.fix f7) (hrs6.mono fun _ _ z => z.fix f7)
                  exact k H8 _ ((bp6.trans b7).trans (But.of b8)) (R7.keep0 b8) (exactly_lt hex) ht8

/-! ### read_tables -/
def sp_read_tables (CR CT CI : Addr) : Sp := fun vs H Q E => ∃ p d r L n, vs = [.ref p] ∧ RowsAt CR H p d r L n ∧ n ≤ L.length ∧ match tablesLoop L 6 n [] with
  | .error e => ErrE CI p H E e
  | .ok (ts, _) => ∀ H' l vt, But [p] H H' → H' l = some (.lst vt) → Each (TblR CT H') vt ts → Q (.ref l) H'
theorem ok_read_tables (F : Fun K "read_tables" "read_tables" s_read_tables f fd) (T : Txt K mg CR CT CS) (c_Rows_all_read : Met P w K mg base 1 CR "all_read" (sp_all_read CR)) (c_read_table : Cal P w K mg base 6 "read_table" (sp_read_table CR CT CI)) :
    FnOk P w K mg base (L2.CX P w) 7 f fd ["rows"] (sp_read_tables CR CT CI) := by
  refine F.okX sc_read_tables (fun vs H Q E h => ?_) (fun cdv A outer s H vs Q E hr h => ?_)
  · obtain ⟨p, d, r, L, n, rfl, _⟩ := h
    rfl
  · obtain ⟨p, d, r, L, n, rfl, R, hn, k⟩ := h
    refine ⟨_, (pss_cons (ps_set (i := 1) sc_read_tables.nd rfl (Or.inl rfl) (pe_lst pa_nil))
  (pss_cons (ps_while (passes_of rfl) (PW.pt (pw_or (pt_not (pt_truthK K rfl (pv 1) (by intro _; rfl))) (pw_or1 (pt_not (pt_val (p_meth0 E c_Rows_all_read hr (by decide) (passX rfl rfl rfl (takes_of rfl rfl rfl rfl)) (pv 0)))))))
  (pss_one (ps_expr (pe_bm PySem.F.plainAttrs_list PySem.F.slot_list_append PySem.F.type_list_append mt_append (pv 1) (pa_cons (p_call E c_read_table hr (by decide) (by rfl) (passX rfl rfl rfl (takes_of rfl rfl rfl rfl)) (pa_cons (pv 0) (pa_cons (pv 1) pa_nil))) pa_nil)))))
  (pss_one (ps_ret (pv 1))))), ?_⟩
    refine ⟨Nat.zero_le _, fun l hl => ?_⟩
    have npl : p ≠ l := ne_of_none R.at_ hl
    have nrl : r ≠ l := ne_of_none R.rows hl
    refine ⟨fun m σ H' => ∃ ts vt n', σ = [some (.ref p), some (.ref l)] ∧ But [p] H H' ∧ H' l = some (.lst vt) ∧ Each (TblR CT H') vt ts ∧ RowsAt CR H' p d r L n' ∧ n' ≤ L.length ∧ ts.length ≤ 5 ∧ (∀ t ∈ ts, WfT t) ∧ m + ts.length = 6 ∧ tablesLoop L m n' ts = tablesLoop L 6 n [],
      ⟨6, [], [], n, rfl, But.refl.new hl, upd_same, Each.nil, R.keep0 (newB hl), hn, by simp, by simp, rfl, rfl⟩, ?_⟩
    rintro m σ H1 ⟨ts, vt, n1, rfl, b1, hl1, ht1, R1, hn1, h5, hwf, hm, he⟩
    obtain ⟨m, rfl⟩ : ∃ m', m = m' + 1 := ⟨m - 1, by omega⟩
    have hvt : vt.isEmpty = ts.isEmpty := by
      have := ht1.1
      cases vt <;> cases ts <;> simp_all
    refine ⟨_, rfl, _, truL hl1, or_go (B := !(n1 == L.length)) (fun ht => ⟨_, fun _ _ z => z, ?_⟩) (fun ht => ?_) (fun g => ⟨_, rfl, p, d, _, rfl, R1.at_, rfl, p, d, r, L, n1, rfl, R1, _, rfl, g⟩)⟩
    · rw [Bool.not_not, hvt] at ht
      have e0 : tablesLoop L (m + 1) n1 ts = (match readTable L n1 ts with
        | .error e => .error e
        | .ok (t, n1) => tablesLoop L m n1 (ts ++ [t])) := by
        show (if (ts.isEmpty || !(n1 == L.length)) = true then _ else _) = _
        rw [ht]; rfl
      refine ⟨_, rfl, tyList hl1, _, rfl, _, rfl, p, d, r, l, L, n1, vt, ts, rfl, R1, hn1, hl1, ht1, h5, hwf, ?_⟩
      cases hw : readTable L n1 ts with
      | error e =>
        rw [hw] at e0
        have e0 : tablesLoop L (m + 1) n1 ts = .error e := e0
        rw [← he, e0] at k
        exact ErrE.later k b1
      | ok tn =>
        obtain ⟨t, n2⟩ := tn
        rw [hw] at e0
        have e0 : tablesLoop L (m + 1) n1 ts = tablesLoop L m n2 (ts ++ [t]) := e0
        have rt := readTable_ok hw hwf
        intro H2 v b2 R2 hn2 hv
        have hl2 := b2.at1 hl1 npl.symm
        have f2 : Fix CR H1 H2 := R1.fix b2
        have b3 : But [p] H (upd H2 l (.lst (vt ++ [v]))) := (b1.trans b2).put0 hl
        have f3 : Fix CR H2 (upd H2 l (.lst (vt ++ [v]))) := fun x o hx i => by
          rw [upd_ne (fun z => by rw [z, hl2] at hx; cases hx; exact i)]; exact hx
        refine ⟨l, vt, v, rfl, rfl, hl2, szt (by have := ht1.1; omega), m, by omega, ts ++ [t], vt ++ [v], n2, rfl, b3, upd_same, ?_, R2.put npl nrl, hn2, by simp; omega, fun x hx => ?_, by simp; omega, by rw [← e0]; exact he⟩
        · exact (ht1.mono fun _ _ z => (z.fix T.nT f2).fix T.nT f3).snoc (hv.fix T.nT f3)
        · rcases List.mem_append.mp hx with z | z
          · exact hwf x z
          · rw [List.mem_singleton.mp z]; exact rt.1
    · rw [Bool.not_not, hvt] at ht
      have e0 : tablesLoop L (m + 1) n1 ts = .ok (ts, n1) := by
        show (if (ts.isEmpty || !(n1 == L.length)) = true then _ else _) = _
        rw [ht]; rfl
      rw [← he, e0] at k
      exact ⟨_, rfl, k H1 l vt b1 hl1 ht1⟩
end
end Cn
set_option Elab.async false
set_option linter.all false
set_option maxRecDepth 100000
set_option maxHeartbeats 4000000
/-! the rows of a table -/
namespace Cn
open PySem L2
section
variable {P : Program} {w : World} {K : PySem.W.Frag} {mg : Str → Option Value} {base : Heap} {CR CT CS CI : Addr} {f : Addr} {fd : FuncData}
theorem empty_app (a : Cn.T) : Str.empty ++ S a = S a := TL.ext_tl (by rw [TL.tl_append]; rfl)
theorem S_lit {a b c : Cn.T} (h : a ++ b = c) : S a ++ S b = S c := by rw [S_app, h]
theorem svs_one {α : Type} (A : List Cn.T) (g : α → Cn.T) (c : α) : svs A ++ [sv (g c)] = svs (A ++ [c].map g) := by rw [svs_app]; rfl
def sp_table_rows (CT : Addr) : Sp := fun vs H Q _ => ∃ tb t, vs = [.ref tb] ∧ TblR CT H (.ref tb) t ∧ WfT t ∧ ∀ H' l, But [] H H' → H l = none → H' l = some (.lst (svs (tableRows t))) → Q (.ref l) H'
theorem joinT_len : ∀ ks : List Cn.T, (∀ k ∈ ks, k.length ≤ 8) → (joinT [32] ks).length ≤ 9 * ks.length
  | [], _ => by simp [joinT]
  | [p], h => by have := h p (by simp); simp [joinT]; omega
  | p :: q :: r, h => by
    have h1 := h p (by simp)
    have h2 := joinT_len (q :: r) fun k hk => h k (List.mem_cons_of_mem _ hk)
    simp [joinT] at h2 ⊢
    omega
theorem join_room {ks : List Cn.T} (h : ∀ k ∈ ks, k.length ≤ 8) (h3 : ks.length ≤ 5) : ((ks.map S).map (·.length)).sum + (ks.map S).length * (S [32]).length ≤ 16777216 := by
  have : ∀ xs : List Cn.T, (∀ k ∈ xs, k.length ≤ 8) → ((xs.map S).map (·.length)).sum ≤ 8 * xs.length := fun xs => by
    induction xs with
    | nil => intro _; simp
    | cons x r ih =>
      intro h
      have h1 := h x List.mem_cons_self
      have h4 := ih fun k hk => h k (List.mem_cons_of_mem _ hk)
      rw [List.map_cons, List.map_cons, List.sum_cons, S_len, List.length_cons]
      omega
  have h1 := this ks h
  rw [List.length_map, S_len]
  simp at h1 ⊢
  omega
theorem ok_table_rows (F : Fun K "table_rows" "table_rows" s_table_rows f fd) (T : Txt K mg CR CT CS) : FnOk P w K mg base (L2.CX P w) 1 f fd ["table"] (sp_table_rows CT) := by
  refine F.okX sc_table_rows (fun vs H Q E h => ?_) (fun cdv A outer s H vs Q E hr h => ?_)
  · obtain ⟨tb, t, rfl, _⟩ := h
    rfl
  · obtain ⟨tb, t, rfl, ht, wf, k⟩ := h
    obtain ⟨_, dx, ca, ua, ra, ks, rs, etb, htb, hca, hua, hks, hra, hrs⟩ := ht
    cases etb
    refine ⟨_, (pss_cons (ps_set (i := 1) sc_table_rows.nd rfl (Or.inl rfl) (pe_lst (pa_cons (pe_joined (.cons pe_str (.cons (pe_fmt (pe_fldK K rfl (pv 0) rfl)) .nil))) pa_nil)))
  (pss_cons (ps_for (passes_of rfl) (by rfl) (pi_tupK K rfl (pe_fldK K rfl (pv 0) rfl)) (pg_name (i := 2) sc_table_rows.nd rfl (Or.inl rfl))
  (pss_one (ps_expr (pe_bm PySem.F.plainAttrs_list PySem.F.slot_list_append PySem.F.type_list_append mt_append (pv 1) (pa_cons (pe_joined (.cons pe_str (.cons (pe_fmt (pv 2)) .nil))) pa_nil)))))
  (pss_cons (ps_for (passes_of rfl) (by rfl) (pi_tupK K rfl (pe_fldK K rfl (pv 0) rfl)) (pg_name (i := 3) sc_table_rows.nd rfl (Or.inl rfl))
  (pss_cons (ps_set (i := 4) sc_table_rows.nd rfl (Or.inl rfl) (pe_joinK K rfl pe_str (pv 3)))
  (pss_one (ps_expr (pe_bm PySem.F.plainAttrs_list PySem.F.slot_list_append PySem.F.type_list_append mt_append (pv 1) (pa_cons (pe_joined (.cons pe_str (.cons (pe_fmt (pv 4)) .nil))) pa_nil))))))
  (pss_cons (ps_for (passes_of rfl) (by rfl) (pi_tupK K rfl (pe_fldK K rfl (pv 0) rfl)) (pg_tup (by rfl) (pgs_cons (pg_name (i := 5) sc_table_rows.nd rfl (Or.inl rfl)) (pgs_cons (pg_name (i := 6) sc_table_rows.nd rfl (Or.inl rfl)) (pgs_cons (pg_name (i := 7) sc_table_rows.nd rfl (Or.inl rfl)) pgs_nil))))
  (pss_cons (ps_set (i := 8) sc_table_rows.nd rfl (Or.inl rfl) (pe_ifExp (pt_val (pv 7)) pe_str pe_str))
  (pss_cons (ps_set (i := 4) sc_table_rows.nd rfl (Or.inl rfl) (pe_joinK K rfl pe_str (pv 5)))
  (pss_one (ps_expr (pe_bm PySem.F.plainAttrs_list PySem.F.slot_list_append PySem.F.type_list_append mt_append (pv 1) (pa_cons (pe_joined (.cons pe_str (.cons (pe_fmt (pv 8)) (.cons pe_str (.cons (pe_fmt (pv 4)) (.cons pe_str (.cons (pe_fmt (pv 6)) .nil))))))) pa_nil)))))))
  (pss_cons (ps_expr (pe_bm PySem.F.plainAttrs_list PySem.F.slot_list_append PySem.F.type_list_append mt_append (pv 1) (pa_cons pe_str pa_nil)))
  (pss_one (ps_ret (pv 1)))))))), ?_⟩
    -- rows = [f"table {table.name}"]
    have z8 := wf.name
    refine ⟨S kTable, rfl, szl (by rw [empty_app, S_len]; decide), _, rfl, tb, CT, dx, _, _, rfl, htb, T.clT, T.naT1, tf_name, .inl ⟨S t.name, rfl, szl (by rw [S_len]; omega), S t.name, rfl, szl ?_, ?_⟩⟩
    · rw [empty_app, S_app, S_len, List.length_append]
      show kTable.length + _ ≤ _
      have : kTable.length = 6 := rfl
      omega
    rw [empty_app, S_app]
    refine ⟨by show 1 ≤ sizeLine; decide, fun l hl => ?_⟩
    have bl : ∀ {H' : Hp} {o : HO}, But [] H H' → But [] H (upd H' l o) := fun b => b.put0 hl
    have nl : ∀ {a : Addr} {o : HO}, H a = some o → a ≠ l := fun e => ne_of_none e hl
    -- columns
    refine ⟨_, rfl, tb, CT, dx, _, _, rfl, (newB hl).at htb, T.clT, T.naT2, tf_columns, ca, rfl, ⟨_, SqT.of ((newB hl).at hca)⟩, ?_⟩
    refine for_it (walk_tup (K := K) (a := ca) (xs := svs t.cols)) (fun i σ H' => ∃ v2 v3 v4 v5 v6 v7 v8, σ = [some (.ref tb), some (.ref l), v2, v3, v4, v5, v6, v7, v8] ∧ But [] H H' ∧ H' l = some (.lst (svs ([kTable ++ t.name] ++ (t.cols.take i).map fun c => kColumn ++ c))))
      ⟨_, _, _, _, _, _, _, rfl, newB hl, by rw [upd_same]; rfl⟩ (fun i σ H' _ ⟨_, _, _, _, _, _, _, _, b, _⟩ => SqT.of (b.at hca)) (fun i x σ H1 H1' hi ⟨v2, v3, v4, v5, v6, v7, v8, es, b, hl1⟩ y => ?_) (fun σ H1 ⟨v2, v3, v4, v5, v6, v7, v8, es, b, hl1⟩ => ?_)
    · obtain ⟨rfl, hx⟩ := y
      obtain ⟨c, hc, rfl⟩ := svs_get hx
      subst es
      have c8 := wf.col c (List.mem_of_getElem? hc)
      have hi5 : i < 5 := by have := (List.getElem?_eq_some_iff.mp hc).1; have := wf.cols; omega
      refine ⟨_, rfl, tyList hl1, S kColumn, rfl, szl (by rw [empty_app, S_len]; decide), _, rfl, .inl ⟨S c, rfl, szl (by rw [S_len]; omega), S c, rfl, szl ?_, ?_⟩⟩
      · rw [empty_app, S_app, S_len, List.length_append]
        have : kColumn.length = 9 := rfl
        omega
      rw [empty_app, S_app]
      refine ⟨l, _, _, rfl, rfl, hl1, szt (by rw [svs_len, List.length_append, List.length_map, List.length_take]; simp; omega), _, _, _, _, _, _, _, rfl, bl b, ?_⟩
      rw [upd_same]
      congr 2
      have st : t.cols.take (i + 1) = t.cols.take i ++ [c] := by rw [List.take_add_one, hc]; rfl
      rw [st, List.map_append, ← List.append_assoc]; exact svs_one _ _ _
    subst es
    rw [svs_len, List.take_length] at hl1
    -- keys
    refine ⟨_, rfl, tb, CT, dx, _, _, rfl, b.at htb, T.clT, T.naT3, tf_unique, ua, rfl, ⟨_, SqT.of (b.at hua)⟩, ?_⟩
    refine for_it (walk_tup (K := K) (a := ua) (xs := ks)) (fun i σ H' => ∃ v2 v3 v4 v5 v6 v7 v8, σ = [some (.ref tb), some (.ref l), v2, v3, v4, v5, v6, v7, v8] ∧ But [] H H' ∧ H' l = some (.lst (svs (([kTable ++ t.name] ++ t.cols.map fun c => kColumn ++ c) ++ (t.keys.take i).map fun q => kKey ++ joinT [32] q))))
      ⟨_, _, _, _, _, _, _, rfl, b, by rw [hl1]; simp⟩ (fun i σ H' _ ⟨_, _, _, _, _, _, _, _, b, _⟩ => SqT.of (b.at hua)) (fun i x σ H2 H2' hi ⟨v2, v3, v4, v5, v6, v7, v8, es, b2, hl2⟩ y => ?_) (fun σ H2 ⟨v2, v3, v4, v5, v6, v7, v8, es, b2, hl2⟩ => ?_)
    · obtain ⟨rfl, hx⟩ := y
      obtain ⟨q, hq, qa, rfl, hqa⟩ := hks.at hx
      subst es
      obtain ⟨q3, qc⟩ := wf.key q (List.mem_of_getElem? hq)
      have q8 : ∀ c ∈ q, c.length ≤ 8 := fun c hc => wf.col c (qc c hc)
      have jl := joinT_len q q8
      have hi3 : i < 3 := by have := (List.getElem?_eq_some_iff.mp hq).1; have := wf.keys; omega
      refine ⟨⟨_, rfl⟩, _, rfl, S [32], qa, q.map S, rfl, rfl, .inr (by rw [← svs_str]; exact SqT.of (b2.at hqa)), join_room q8 (by omega), ?_⟩
      rw [join_S]
      refine ⟨_, rfl, tyList hl2, S kKey, rfl, szl (by rw [empty_app, S_len]; decide), _, rfl, .inl ⟨S (joinT [32] q), rfl, szl (by rw [S_len]; omega), S (joinT [32] q), rfl, szl ?_, ?_⟩⟩
      · rw [empty_app, S_app, S_len, List.length_append]
        have : kKey.length = 6 := rfl
        omega
      rw [empty_app, S_app]
      refine ⟨l, _, _, rfl, rfl, hl2, szt (by rw [svs_len]; simp [wf.cols]; have := wf.cols; omega), _, _, _, _, _, _, _, rfl, bl b2, ?_⟩
      rw [upd_same]
      congr 2
      have st : t.keys.take (i + 1) = t.keys.take i ++ [q] := by rw [List.take_add_one, hq]; rfl
      rw [st, List.map_append, ← List.append_assoc]; exact svs_one _ _ _
    subst es
    rw [hks.1, List.take_length] at hl2
    -- references
    refine ⟨_, rfl, tb, CT, dx, _, _, rfl, b2.at htb, T.clT, T.naT4, tf_refers, ra, rfl, ⟨_, SqT.of (b2.at hra)⟩, ?_⟩
    refine for_it (walk_tup (K := K) (a := ra) (xs := rs)) (fun i σ H' => ∃ v2 v3 v4 v5 v6 v7 v8, σ = [some (.ref tb), some (.ref l), v2, v3, v4, v5, v6, v7, v8] ∧ But [] H H' ∧ H' l = some (.lst (svs ((([kTable ++ t.name] ++ t.cols.map fun c => kColumn ++ c) ++ t.keys.map fun q => kKey ++ joinT [32] q) ++ (t.refs.take i).map refRow))))
      ⟨_, _, _, _, _, _, _, rfl, b2, by rw [hl2]; simp⟩ (fun i σ H' _ ⟨_, _, _, _, _, _, _, _, b, _⟩ => SqT.of (b.at hra)) (fun i x σ H3 H3' hi ⟨v2, v3, v4, v5, v6, v7, v8, es, b3, hl3⟩ y => ?_) (fun σ H3 ⟨v2, v3, v4, v5, v6, v7, v8, es, b3, hl3⟩ => ?_)
    · obtain ⟨rfl, hx⟩ := y
      obtain ⟨q, hq, qa, qc, rfl, hqa, hqc⟩ := hrs.at hx
      subst es
      obtain ⟨q3, q28, qcc⟩ := wf.ref q (List.mem_of_getElem? hq)
      have q8 : ∀ c ∈ q.1, c.length ≤ 8 := fun c hc => wf.col c (qcc c hc)
      have jl := joinT_len q.1 q8
      have hi2 : i < 2 := by have := (List.getElem?_eq_some_iff.mp hq).1; have := wf.refs; omega
      refine ⟨qa, _, rfl, SqT.of (b3.at hqa), rfl, _, _, rfl, _, _, rfl, _, _, rfl, rfl, ?_⟩
      refine ⟨_, rfl, _, rfl, str_go ?_⟩
      refine ⟨⟨_, rfl⟩, _, rfl, S [32], qc, q.1.map S, rfl, rfl, .inr (by rw [← svs_str]; exact SqT.of (b3.at hqc)), join_room q8 (by omega), ?_⟩
      rw [join_S]
      have ew : (if q.2.2 = true then ("ref" : Str) else ("optional" : Str)) = S (if q.2.2 then [114, 101, 102] else [111, 112, 116, 105, 111, 110, 97, 108]) := by cases q.2.2 <;> rfl
      have wl : (if q.2.2 = true then ([114, 101, 102] : Cn.T) else [111, 112, 116, 105, 111, 110, 97, 108]).length ≤ 8 := by cases q.2.2 <;> decide
      rw [ew]
      have er : refRow q = [32, 32] ++ ((if q.2.2 then [114, 101, 102] else [111, 112, 116, 105, 111, 110, 97, 108]) ++ ([32] ++ (joinT [32] q.1 ++ ([32, 45, 62, 32] ++ q.2.1)))) := rfl
      generalize (if q.2.2 = true then ([114, 101, 102] : Cn.T) else [111, 112, 116, 105, 111, 110, 97, 108]) = wd at wl er ⊢
      generalize hj : joinT [32] q.1 = jn at jl er ⊢
      have sz : ∀ a : Cn.T, a.length ≤ 100 → (S a).length ≤ sizeLine := fun a h => szl (by rw [S_len]; omega)
      refine ⟨_, rfl, tyList hl3, S [32, 32], rfl, by rw [empty_app]; exact sz _ (by decide), ?_⟩
      rw [empty_app]
      refine ⟨_, rfl, .inl ⟨S wd, rfl, sz _ (by omega), S wd, rfl, by rw [S_app]; exact sz _ (by simp; omega), ?_⟩⟩
      rw [S_app]
      refine ⟨S [32], rfl, by rw [S_app]; exact sz _ (by simp; omega), ?_⟩
      rw [S_app]
      refine ⟨_, rfl, .inl ⟨S jn, rfl, sz _ (by omega), S jn, rfl, by rw [S_app]; exact sz _ (by simp; omega), ?_⟩⟩
      rw [S_app]
      refine ⟨S [32, 45, 62, 32], rfl, by rw [S_app]; exact sz _ (by simp; omega), ?_⟩
      rw [S_app]
      refine ⟨_, rfl, .inl ⟨S q.2.1, rfl, sz _ (by omega), S q.2.1, rfl, by rw [S_app]; exact sz _ (by simp; omega), ?_⟩⟩
      rw [S_app]
      refine ⟨l, _, _, rfl, rfl, hl3, szt (by rw [svs_len]; simp; have := wf.cols; have := wf.keys; omega), _, _, _, _, _, _, _, rfl, bl b3, ?_⟩
      rw [upd_same]
      congr 2
      have st : t.refs.take (i + 1) = t.refs.take i ++ [q] := by rw [List.take_add_one, hq]; rfl
      rw [st, List.map_append, ← List.append_assoc, ← svs_one]
      show _ ++ [sv _] = _ ++ [sv _]
      rw [er]
      simp only [List.append_assoc]
    subst es
    rw [hrs.1, List.take_length] at hl3
    refine ⟨_, rfl, tyList hl3, l, _, sv kEnd, rfl, rfl, hl3, szt (by rw [svs_len]; simp; have := wf.cols; have := wf.keys; have := wf.refs; omega), _, rfl, k _ l (bl b3) hl ?_⟩
    rw [upd_same]
    congr 2
    have et : tableRows t = ((([kTable ++ t.name] ++ t.cols.map fun c => kColumn ++ c) ++ t.keys.map fun q => kKey ++ joinT [32] q) ++ t.refs.map refRow) ++ [kEnd] := by
      unfold tableRows; simp only [List.append_assoc]
    rw [et, svs_app _ [kEnd]]; rfl
end
end Cn
set_option Elab.async false
set_option linter.all false
set_option maxRecDepth 100000
set_option maxHeartbeats 4000000
/-! schemas -/
namespace Cn
open PySem L2
section
variable {P : Program} {w : World} {K : PySem.W.Frag} {mg : Str → Option Value} {base : Heap} {CR CT CS CI : Addr} {f : Addr} {fd : FuncData}
theorem sc_Schema_init : FnScope ["self", "tables", "table", "row"] ["self", "tables"] (defScope s_Schema_init) := ⟨rfl, rfl, rfl, by decide +kernel, rfl, by decide +kernel, by decide +kernel⟩
theorem sc_Schema_parse : FnScope ["cls", "text", "rows"] ["cls", "text"] (defScope s_Schema_parse) := ⟨rfl, rfl, rfl, by decide +kernel, rfl, by decide +kernel, by decide +kernel⟩
theorem sc_Schema_str : FnScope ["self"] ["self"] (defScope s_Schema_str) := ⟨rfl, rfl, rfl, by decide +kernel, rfl, by decide +kernel, by decide +kernel⟩
def sf (tt : Addr) (x : Cn.T) : List (Str × V) := [("tables", .ref tt), ("_text", sv x)]
theorem sf_tables {tt : Addr} {x : Cn.T} : (sf tt x).lookup ("tables" : Str) = some (.ref tt) := by rfl
theorem sf_text {tt : Addr} {x : Cn.T} : (sf tt x).lookup ("_text" : Str) = some (sv x) := by rfl
def SchR (CS CT : Addr) (H : Hp) (v : V) (ts : List Tbl) : Prop := ∃ a dx tt vt, v = .ref a ∧ H a = some (.ins CS dx (sf tt (schemaText ts))) ∧ H tt = some (.tup vt) ∧ Each (TblR CT H) vt ts
def sp_Schema_init (CS CT : Addr) : Sp := fun vs H Q _ => ∃ x dx l vt ts, vs = [.ref x, .ref l] ∧ H x = some (.ins CS dx []) ∧ H l = some (.lst vt) ∧ Each (TblR CT H) vt ts ∧ ts.length ≤ 5 ∧ (∀ t ∈ ts, WfT t) ∧
  ∀ H' tt, But [x] H H' → H' x = some (.ins CS dx (sf tt (schemaText ts))) → H' tt = some (.tup vt) → Q .non H'
theorem rows_room {t : Tbl} (wf : WfT t) : (tableRows t).length ≤ 12 ∧ ∀ r ∈ tableRows t, r.length ≤ 100 := by
  have h1 := wf.cols; have h2 := wf.keys; have h3 := wf.refs; have h4 := wf.name
  refine ⟨by unfold tableRows; simp; omega, fun r hr => ?_⟩
  unfold tableRows at hr
  simp only [List.mem_append, List.mem_cons, List.not_mem_nil, or_false, List.mem_map] at hr
  rcases hr with rfl | ⟨c, hc, rfl⟩ | ⟨k, hk, rfl⟩ | ⟨q, hq, rfl⟩ | rfl
  · have : kTable.length = 6 := rfl
    rw [List.length_append]; omega
  · have := wf.col c hc
    have : kColumn.length = 9 := rfl
    rw [List.length_append]; omega
  · obtain ⟨k3, kc⟩ := wf.key k hk
    have := joinT_len k fun c hc => wf.col c (kc c hc)
    have : kKey.length = 6 := rfl
    rw [List.length_append]; omega
  · obtain ⟨q3, q8, qc⟩ := wf.ref q hq
    have := joinT_len q.1 fun c hc => wf.col c (qc c hc)
    have : (if q.2.2 = true then ([114, 101, 102] : Cn.T) else [111, 112, 116, 105, 111, 110, 97, 108]).length ≤ 8 := by cases q.2.2 <;> decide
    unfold refRow
    simp only [List.length_append, List.length_cons, List.length_nil]
    omega
  · decide
theorem all_room {ts : List Tbl} (h5 : ts.length ≤ 5) (wf : ∀ t ∈ ts, WfT t) : (ts.flatMap tableRows).length ≤ 60 ∧ ∀ r ∈ ts.flatMap tableRows, r.length ≤ 100 := by
  refine ⟨?_, fun r hr => ?_⟩
  · have : ∀ xs : List Tbl, (∀ t ∈ xs, WfT t) → (xs.flatMap tableRows).length ≤ 12 * xs.length := fun xs => by
      induction xs with
      | nil => intro _; simp
      | cons x r ih =>
        intro h
        have h1 := (rows_room (h x List.mem_cons_self)).1
        have h2 := ih fun k hk => h k (List.mem_cons_of_mem _ hk)
        rw [List.flatMap_cons, List.length_append, List.length_cons]; omega
    have := this ts wf
    omega
  · obtain ⟨t, ht, h⟩ := List.mem_flatMap.mp hr
    exact (rows_room (wf t ht)).2 r h
theorem join_room2 {ks : List Cn.T} {m n : Nat} (h : ∀ k ∈ ks, k.length ≤ m) (h3 : ks.length ≤ n) (hz : n * (m + 1) ≤ 16777216) : ((ks.map S).map (·.length)).sum + (ks.map S).length * (S [10]).length ≤ 16777216 := by
  have : ∀ xs : List Cn.T, (∀ k ∈ xs, k.length ≤ m) → ((xs.map S).map (·.length)).sum ≤ m * xs.length := fun xs => by
    induction xs with
    | nil => intro _; simp
    | cons x r ih =>
      intro h
      have h1 := h x List.mem_cons_self
      have h4 := ih fun k hk => h k (List.mem_cons_of_mem _ hk)
      rw [List.map_cons, List.map_cons, List.sum_cons, S_len, List.length_cons, Nat.mul_add, Nat.mul_one]
      omega
  have h1 := this ks h
  rw [List.length_map, S_len]
  have h2 : m * ks.length ≤ m * n := Nat.mul_le_mul_left m h3
  have h4 : n * (m + 1) = m * n + n := by rw [Nat.mul_add, Nat.mul_one, Nat.mul_comm]
  simp at h1 ⊢
  omega
theorem ok_Schema_init (F : Fun K "__init__" "Schema.__init__" s_Schema_init f fd) (T : Txt K mg CR CT CS) (c_table_rows : Cal P w K mg base 1 "table_rows" (sp_table_rows CT)) : FnOk P w K mg base (L2.CX P w) 2 f fd ["self", "tables"] (sp_Schema_init CS CT) := by
  refine F.okX sc_Schema_init (fun vs H Q E h => ?_) (fun cdv A outer s H vs Q E hr h => ?_)
  · obtain ⟨x, dx, l, vt, ts, rfl, _⟩ := h
    rfl
  · obtain ⟨x, dx, l, vt, ts, rfl, hx, hl, hvt, h5, wf, k⟩ := h
    have nlx : l ≠ x := ne_of hl hx (by intro z; cases z)
    refine ⟨_, (pss_cons (ps_fldK K rfl (pv 0) (pe_callTy (call_tuple_ofK K rfl) (by rfl) T.b_tuple (by decide +kernel) (pa_cons (pv 1) pa_nil)) rfl)
  (pss_one (ps_fldK K rfl (pv 0) (pe_joinK K rfl pe_str (pe_lc2 (own := [("table", 2), ("row", 3)]) (vs1 := [3]) (g := gName 2) (g1 := gName 3) (tt := tYes) (tt1 := tYes) (by rfl) sc_Schema_init.nd (pi_tupK K rfl (pe_fldK K rfl (pv 0) rfl)) (blkOk_by (own := [("table", 2), ("row", 3)]) (N := ["self", "tables", "table", "row"]) (sc := (defScope s_Schema_init)) (by decide +kernel)) (by decide) (fun _ _ _ _ _ => (pg_name (i := 2) sc_Schema_init.nd rfl (Or.inl rfl))) (fun _ _ _ _ _ => pts_nil) (fun _ _ _ _ _ => (pi_listK K rfl (p_call E0 c_table_rows hr (by decide) (by rfl) passL (pa_cons (pv 2) pa_nil)))) (fun _ _ _ _ _ => (pg_name (i := 3) sc_Schema_init.nd rfl (Or.inl rfl))) (fun _ _ _ _ _ => pts_nil) (fun _ _ _ _ _ => (pv 3)))) rfl))), ?_⟩
    refine ⟨_, rfl, l, vt, rfl, .inl ⟨SqL.of hl, fun tt htt => ?_⟩⟩
    have ntx : tt ≠ x := fun z => by rw [z, hx] at htt; cases htt
    refine ⟨_, rfl, x, CS, dx, _, rfl, (by rw [upd_ne ntx.symm]; exact hx), T.clS, T.naS1, (by show 0 < 1000; decide), ?_⟩
    have b0 : But [x] H (upd (upd H tt (.tup vt)) x (.ins CS dx (putF "tables" (.ref tt) []))) := ((newB htt).of).put (by simp)
    have hx1 : (upd (upd H tt (.tup vt)) x (.ins CS dx (putF "tables" (.ref tt) []))) x = some (.ins CS dx [("tables", .ref tt)]) := by rw [upd_same]; rfl
    have ht1 : (upd (upd H tt (.tup vt)) x (.ins CS dx (putF "tables" (.ref tt) []))) tt = some (.tup vt) := by rw [upd_ne ntx, upd_same]
    generalize upd (upd H tt (.tup vt)) x (.ins CS dx (putF "tables" (.ref tt) [])) = H1 at b0 hx1 ht1
    have f0 : ∀ {v : V} {t : Tbl}, TblR CT H v t → TblR CT H1 v t := fun {v t} ⟨a, d2, ca, ua, ra, ks, rs, e, h1, h2, h3, h4, h6, h7⟩ => by
      have ne : ∀ {y : Addr} {o : HO}, H y = some o → (∀ C d fs, o = .ins C d fs → C ≠ CS) → H1 y = some o := fun {y o} e hc => b0.at1 e (ne_of e hx (by
        intro z
        exact hc CS dx [] z rfl))
      exact ⟨a, d2, ca, ua, ra, ks, rs, e, ne h1 (fun C d fs z => by cases z; exact T.nTS), ne h2 (fun _ _ _ z => by cases z), ne h3 (fun _ _ _ z => by cases z), h4.mono (fun _ _ ⟨q, e, z⟩ => ⟨q, e, ne z (fun _ _ _ z => by cases z)⟩), ne h6 (fun _ _ _ z => by cases z),
        h7.mono fun _ _ ⟨q, c, e, z, y⟩ => ⟨q, c, e, ne z (fun _ _ _ z => by cases z), ne y (fun _ _ _ z => by cases z)⟩⟩
    have hvt1 : Each (TblR CT H1) vt ts := hvt.mono fun _ _ z => f0 z
    have room := all_room h5 wf
    refine ⟨⟨_, rfl⟩, _, rfl, x, CS, dx, _, _, rfl, hx1, T.clS, T.naS1, rfl, tt, rfl, ⟨_, SqT.of ht1⟩, fun D hD => ?_⟩
    refine turns (walk_tup (K := K) (a := tt) (xs := vt)) (fun i H' => But [] H1 H' ∧ H' D = some (.lst (svs ((ts.take i).flatMap tableRows)))) ⟨newB hD, upd_same⟩ (fun i H' _ e => SqT.of (e.1.at ht1)) (fun i v H2 H2' hi e y => ?_) (fun H2 e => ?_)
    · obtain ⟨rfl, hv⟩ := y
      obtain ⟨t, ht, htr⟩ := hvt1.at hv
      obtain ⟨a, _, _, _, _, _, _, rfl, _⟩ := id htr
      have wt := wf t (List.mem_of_getElem? ht)
      have st : ts.take (i + 1) = ts.take i ++ [t] := by rw [List.take_add_one, ht]; rfl
      refine ⟨rfl, _, rfl, a, t, rfl, htr.fix T.nT (e.1.fix0 (CR := CR)), wt, fun H3 lr b3 hlr0 hlr => ⟨lr, rfl, ⟨_, SqL.of hlr⟩, ?_⟩⟩
      have nDl : D ≠ lr := ne_of_none e.2 hlr0
      refine turns (walk_list (K := K) (a := lr) (xs := svs (tableRows t))) (fun j H' => But [] H1 H' ∧ H' lr = some (.lst (svs (tableRows t))) ∧ H' D = some (.lst (svs ((ts.take i).flatMap tableRows ++ (tableRows t).take j)))) ⟨e.1.trans b3, hlr, by rw [b3.at e.2]; simp⟩ (fun j H' _ e => SqL.of e.2.1) (fun j v H4 H4' hj e4 y => ?_) (fun H4 e4 => ?_)
      · obtain ⟨rfl, hv2⟩ := y
        obtain ⟨row, hrow, rfl⟩ := svs_get hv2
        refine ⟨rfl, _, rfl, _, e4.2.2, szt ?_, ?_, ?_, ?_⟩
        · rw [svs_len, List.length_append, List.length_take]
          have h1 := (all_room (ts := ts.take i) (by rw [List.length_take]; omega) fun q hq => wf q (List.mem_of_mem_take hq)).1
          have h2 := (rows_room wt).1
          omega
        · exact e4.1.put0 hD
        · rw [upd_ne nDl.symm]; exact e4.2.1
        · rw [upd_same]
          congr 2
          have st2 : (tableRows t).take (j + 1) = (tableRows t).take j ++ [row] := by rw [List.take_add_one, hrow]; rfl
          rw [st2, ← List.append_assoc, svs_app (_ ++ _)]; rfl
      · refine ⟨e4.1, ?_⟩
        rw [e4.2.2, svs_len, List.take_length, st, List.flatMap_append]
        simp
    · obtain ⟨b2, hD2⟩ := e
      rw [hvt1.1, List.take_length] at hD2
      refine ⟨S [10], D, (ts.flatMap tableRows).map S, rfl, rfl, .inl (by rw [← svs_str]; exact SqL.of hD2), join_room2 (m := 100) (n := 60) room.2 room.1 (by decide), ?_⟩
      rw [join_S]
      refine ⟨_, rfl, x, CS, dx, _, rfl, b2.at hx1, T.clS, T.naS2, (by show 1 < 1000; decide), ?_⟩
      refine k _ tt ((b0.trans b2.of).put (by simp)) (by rw [upd_same]; rfl) (by rw [upd_ne ntx]; exact b2.at ht1)
end
end Cn
set_option Elab.async false
set_option linter.all false
set_option maxRecDepth 100000
set_option maxHeartbeats 4000000
/-! Schema.parse, Schema.__str__ -/
namespace Cn
open PySem L2
section
variable {P : Program} {w : World} {K : PySem.W.Frag} {mg : Str → Option Value} {base : Heap} {CR CT CS CI : Addr} {f : Addr} {fd : FuncData}
def sp_parse (CT CS CI : Addr) : Sp := fun vs H Q E => ∃ t : Cn.T, vs = [.ref CS, sv t] ∧ t.length ≤ 900000 ∧ match parseRows (splitC 10 t) with
  | .error e => ∀ H' d, But [] H H' → H' d = some (.xd [("row", .int (e : Nat))]) → E (.ref CI) (some d) H'
  | .ok ts => ∀ H' v, But [] H H' → SchR CS CT H' v ts → Q v H'
theorem ok_parse (F : Fun K "parse" "Schema.parse" s_Schema_parse f fd) (T : Txt K mg CR CT CS) (m_Rows : Mak P w K mg base 1 "Rows" CR (sp_Rows_init CR)) (m_Schema : Mak P w K mg base 2 "Schema" CS (sp_Schema_init CS CT))
    (c_read_tables : Cal P w K mg base 7 "read_tables" (sp_read_tables CR CT CI)) : FnOk P w K mg base (L2.CX P w) 8 f fd ["cls", "text"] (sp_parse CT CS CI) := by
  refine F.okX sc_Schema_parse (fun vs H Q E h => ?_) (fun cdv A outer s H vs Q E hr h => ?_)
  · obtain ⟨t, rfl, _⟩ := h
    rfl
  · obtain ⟨t, rfl, hz, k⟩ := h
    refine ⟨_, (pss_cons (ps_set (i := 2) sc_Schema_parse.nd rfl (Or.inl rfl) (p_make E m_Rows hr (by decide) (by rfl) (passX rfl rfl rfl (takes_of rfl rfl rfl rfl)) (pa_cons (pv 1) pa_nil)))
  (pss_one (ps_ret (p_cls E m_Schema hr (by decide) (i := 0) (passX rfl rfl rfl (takes_of rfl rfl rfl rfl)) (pa_cons (p_call E c_read_tables hr (by decide) (by rfl) (passX rfl rfl rfl (takes_of rfl rfl rfl rfl)) (pa_cons (pv 2) pa_nil)) pa_nil))))), ?_⟩
    refine ⟨_, rfl, fun p dx hp hdx ndx => ?_⟩
    refine ⟨p, dx, t, rfl, upd_same, hz, fun H1 b1 hR => ⟨rfl, ?_⟩⟩
    obtain ⟨r, R⟩ := hR
    have b0 : But [] H H1 := (((But.refl (l := [p])).new hdx).put (by simp) |>.trans b1).drop hp
    refine ⟨rfl, _, rfl, p, dx, r, _, 0, rfl, R, Nat.zero_le _, ?_⟩
    unfold parseRows at k
    have db : ∀ {H'}, But [p] H1 H' → But [] H H' := fun b => ((But.of b0).trans b).drop hp
    cases ht : tablesLoop (splitC 10 t) 6 0 [] with
    | error e =>
      rw [ht] at k
      exact fun H' d b hd => k H' d (db b) hd
    | ok tn =>
      obtain ⟨ts, n'⟩ := tn
      have ok := parseRows_ok (L := splitC 10 t) (ts := ts) (by unfold parseRows; rw [ht])
      rw [ht] at k
      intro H2 l vt b2 hl hts x dx2 hx hdx2 ndx2
      have stay : ∀ {y : Addr} {o : HO}, H2 y = some o → (upd (upd H2 dx2 (.own x)) x (.ins CS dx2 [])) y = some o := fun {y o} e => by
        rw [upd_ne (ne_of_none e hx), upd_ne (ne_of_none e hdx2)]; exact e
      have b3 : But [] H2 (upd (upd H2 dx2 (.own x)) x (.ins CS dx2 [])) := fun y o _ e => stay e
      refine ⟨x, dx2, l, vt, ts, rfl, upd_same, stay hl, hts.mono fun _ _ z => z.fix T.nT (b3.fix0 (CR := CR)), ok.2.1, ok.2.2, fun H3 tt b4 hx3 htt => ⟨rfl, ?_⟩⟩
      have b5 : But [] H2 H3 := ((But.of b3).trans b4).drop hx
      refine k H3 _ ((db b2).trans b5) ⟨x, dx2, tt, vt, rfl, hx3, htt, hts.mono fun _ _ z => z.fix T.nT (b5.fix0 (CR := CR))⟩
def sp_str (CT CS : Addr) : Sp := fun vs H Q _ => ∃ a ts, vs = [.ref a] ∧ SchR CS CT H (.ref a) ts ∧ Q (sv (schemaText ts)) H
theorem ok_str (F : Fun K "__str__" "Schema.__str__" s_Schema_str f fd) (T : Txt K mg CR CT CS) : FnOk P w K mg base (L2.CX P w) 1 f fd ["self"] (sp_str CT CS) := by
  refine F.okX sc_Schema_str (fun vs H Q E h => ?_) (fun cdv A outer s H vs Q E hr h => ?_)
  · obtain ⟨a, ts, rfl, _⟩ := h
    rfl
  · obtain ⟨a, ts, rfl, ⟨a', dx, tt, vt, e, ha, htt, hvt⟩, k⟩ := h
    cases e
    refine ⟨_, (pss_one (ps_ret (pe_callTy SkE.call_str_str (by rfl) T.b_str (by decide +kernel) (pa_cons (pe_fldK K rfl (pv 0) rfl) pa_nil)))), ?_⟩
    refine ⟨_, rfl, a, CS, dx, _, _, rfl, ha, T.clS, T.naS2, sf_text, ?_⟩
    exact ⟨_, rfl, k⟩
end
end Cn
set_option Elab.async false
set_option linter.all false
set_option maxRecDepth 100000
set_option maxHeartbeats 2000000
/-! Cn.B7: a caught error that is kept in a local: it is tracked behind the try; a classmethod called in a try. -/
namespace Cn
open PySem PySem.Spec PyProof.Rows L2
/-- a caught error of the class cls at a, its own dict at d -/
def XV (cls : Value) (d : Option Addr) (a : Addr) : HO := .ext fun h => ∃ (oe : Obj) (vs : Array Value), h.get? a = some oe ∧ Zc cls d oe ∧ oe.data = .fields vs
section
variable {X : Cx} {pins : List (Addr × Obj)} {σ : L2.St} {H : Hp} {s : Shared} {a : Addr}
/-- an untracked object of ours, new since the entry, is tracked from now on -/
theorem Inv.track {oe : Obj} {cls : Value} {d : Option Addr} {vs : Array Value} (I : Inv X ((a, oe) :: pins) σ H s) (hz : Zc cls d oe) (hd : oe.data = .fields vs) (n0 : X.s_0.heap.get? a = none) (hp : ∀ p ∈ X.pn ++ pins, p.1 ≠ a) : Inv X pins σ (upd H a (XV cls d a)) s := by
  obtain ⟨ga, na, nL, nF, _⟩ := I.pin (a, oe) (List.mem_append_right _ List.mem_cons_self)
  have old : ∀ b o, X.s_0.heap.get? b = some o → b ≠ a := fun b o e z => by rw [z, n0] at e; cases e
  have none' : ∀ {b o}, H b = some o → b ≠ a := fun e => ne_of_none e na
  have cne : ∀ x c, X.env.cells.lookup x = some c → c ≠ a := fun x c e z => by
    obtain ⟨v, o, ho, hd'⟩ := I.cell x c e
    rw [z, ga] at ho
    cases ho
    rw [hd] at hd'
    cases hd'
  refine ⟨I.ok, I.os, I.bare, ⟨I.base.keep, I.base.slot, fun b o e n hx => ?_, I.base.there, fun b xs e => ?_, fun b o u e => ?_, fun b ps e => ?_⟩, I.loc, I.cell, ?_, fun x c e => ?_, fun p hm => ?_, I.hok.laidN (fun b u q => q) na ?_, I.len⟩
  · rw [upd_ne (old b o e)]; exact I.base.free b o e n hx
  · have := I.base.tups b xs e
    rw [upd_ne (none' this)]; exact this
  · have := I.base.frzs b o u e
    rw [upd_ne (none' this)]; exact this
  · obtain ⟨m, this⟩ := I.base.tbls b ps e
    exact ⟨m, by rw [upd_ne (none' this)]; exact this⟩
  · rw [upd_ne nL.symm]; exact I.free
  · rw [upd_ne (cne x c e)]; exact I.freeC x c e
  · have pm : p ∈ X.pn ++ (a, oe) :: pins := (List.mem_append.mp hm).elim (fun z => List.mem_append_left _ z) fun z => List.mem_append_right _ (List.mem_cons_of_mem _ z)
    obtain ⟨p1, p2, p3⟩ := I.pin p pm
    exact ⟨p1, by rw [upd_ne (hp p hm)]; exact p2, p3⟩
  · exact ⟨⟨oe, vs, ga, hz, hd⟩, ⟨oe, ga⟩, fun _ _ ⟨o, v, q, r⟩ k => ⟨o, v, k o q, r⟩⟩
end
/-- what 'except x as n: ..' wishes of an error, which stays tracked behind the suite -/
def wKp (K : PySem.W.Frag) (c : Value) (i : Nat) (ts : Addr → Value → Option Addr → TS) (Wout : WX) (D : Ends) : WX := fun cls d σ H =>
  ∃ b, PySem.W.exmOne K cls c = some b ∧ (b = true → ∀ a, H a = none → ts a cls d { nx := fun σ' H' => D.nx (σ'.set i none) (upd H' a (XV cls d a)), rt := fun _ _ => False, bk := fun _ _ => False, ct := fun _ _ => False } (σ.set i (some (.ref a))) H) ∧ (b = false → Wout cls d σ H)
section
variable {X : Cx} {x n : Str} {c : Value} {i : Nat} {body suite : List Stmt} {b₀ : Stmt} {np pos pos' : Pos} {tb : WX → TS} {ts : Addr → Value → Option Addr → TS} {Wout : WX}
theorem ps_try_keep (hs : X.stack = X.env :: X.outer) (hf : X.env.frame = some X.env.locals) (hx0 : X.ex = []) (hN : X.N.Nodup) (hi : X.N[i]? = some n) (hln : X.env.kindOf n = some .local) (hc : Names X x c) (tk : Takes X Wout)
    (hb : ∀ (W : WX) (pn : List (Addr × Obj)) (xe : Value → Shared → Prop), Takes (X.tr pn xe) W → PassesOwn (model X.prog X.w) X.A X.env xe → PSs (X.tr pn xe) body (tb W))
    (hsu : ∀ (a : Addr) (oe : Obj) (cls : Value) (d : Option Addr) (pn : List (Addr × Obj)), Zc cls d oe → (∃ vs, oe.data = .fields vs) → PSs (X.suite a ((a, oe) :: pn)) (b₀ :: suite) (ts a cls d)) :
    PS X (.Try body [.ExceptHandler (some (.Name x np)) (some n) (b₀ :: suite) pos'] [] [] pos) (fun D σ H => tb (wKp X.K c i ts Wout D) D σ H) := by
  refine ⟨fun pins s σ H D I h => ?_⟩
  have ok := I.ok
  have fr : X.A.frames = some (X.env :: X.outer) := ok.frames.trans (congrArg some hs)
  refine wpAny_Try_except (wpAny_mono ((hb (wKp X.K c i ts Wout D) (X.pn ++ pins) (fun e s₁ => wpAny (model X.prog X.w) X.A (noteFrame e X.env) (fun _ s₂ => wpAny (model X.prog X.w) X.A (setFlight e none) (fun _ s₃ =>
    wpAny (model X.prog X.w) X.A (handleBy e X.env [.ExceptHandler (some (.Name x np)) (some n) (b₀ :: suite) pos']) (SP X pins D) X.xe s₃) X.xe s₂) X.xe s₁) (fun u s' caught => ?g1) PassesOwn.looking).run [] s σ H D (I.toTry _) h) (fun f s1 e => ?g2) (fun e s1 he => he))
  case g2 =>
    rcases f with _ | _ | _ | _
    all_goals first
      | (obtain ⟨σ', H', J, q⟩ := e; first | exact wpAny_execs_nil ⟨σ', H', J.ofTry ok, q⟩ | exact ⟨σ', H', J.ofTry ok, q⟩)
      | (obtain ⟨v, σ', H', J, r, q⟩ := e; exact ⟨v, σ', H', J.ofTry ok, r, q⟩)
  case g1 =>
    obtain ⟨a, B, sI, ps, σ1, H1, cls, d, rfl, J0, ground, up, sky, na, os, ag, b, hb1, yes, no⟩ := caught
    have J : Inv X pins σ1 H1 sI := J0.ofTry ok
    have sky : Sky B (X.env :: X.outer) a (Zc cls d) X.env.locals s'.heap := by rw [← hs]; exact sky
    -- the error is new since the entry
    have Ba : B.get? a = none := by
      rcases sky with z | z | z
      · exact z.2.1
      · exact z.2.1
      · exact z.2.1
    show wpAny (model X.prog X.w) X.A (noteFrame (.ref a) X.env) _ _ _
    refine Sky.land Zc.steady fr hf sky fun h3 fl3 up3 => ?_
    have J3 : Inv X pins σ1 H1 { s' with heap := h3 } := J.landed ground fl3.1 (up.trans up3) os ag
    obtain ⟨oe3, vs3, he3, hz3, hd3⟩ := fl3.there
    have nfr : a ∉ frs (X.env :: X.outer) := fun hm => by
      obtain ⟨_, o', e', hnf⟩ := fl3.2.2.1.mem hm
      rw [he3] at e'
      cases e'
      exact hnf _ hd3
    have nL : a ≠ X.env.locals := fun z => nfr (List.mem_filterMap.mpr ⟨X.env, List.mem_cons_self, by rw [hf, z]⟩)
    have nF : a ∉ X.fs := fun hm => by
      obtain ⟨e, he, q⟩ := List.mem_filterMap.mp hm
      exact nfr (List.mem_filterMap.mpr ⟨e, List.mem_cons_of_mem _ he, q⟩)
    have nst : a ∉ frs X.stack := by rw [hs]; exact nfr
    have gI : sI.heap.get? a = none := by
      cases q : sI.heap.get? a with
      | none => rfl
      | some o => have z := ground a o q nst; rw [Ba] at z; cases z
    have n0 : X.s_0.heap.get? a = none := by
      cases q : X.s_0.heap.get? a with
      | none => rfl
      | some o => obtain ⟨o', z⟩ := J.base.there a o q (by rw [hx0]; simp); rw [gI] at z; cases z
    have npin : ∀ p ∈ X.pn ++ pins, p.1 ≠ a := fun p hp z => by
      have q := (J.pin p hp).1
      rw [z, gI] at q
      cases q
    have S3 := J3.suite he3 hd3 na nL nF
    refine wpAny_handleBy_cons (codeAny_handlers_test ?_) (by intro q; cases q)
    have LT : PySem.W.Looks (model X.prog X.w) h3 (typeOf (.ref a)) cls := fun A Q E s k q => wpAny_typeOf_ref (k _ _ he3) (by rw [hz3.1]; exact q)
    have LM := PySem.W.exm_one (M := model X.prog X.w) J3.kIn LT hb1
    have test : ∀ {Q E : Value → Shared → Prop}, Q c { s' with heap := h3 } → wpAny (model X.prog X.w) (X.A.mark (some (.ref a))) (eval (.Name x np) X.env) Q E { s' with heap := h3 } := fun {Q E} q => by
      obtain ⟨g, dbg, m | ⟨m, v, nn⟩⟩ := hc
      · exact ld_glob (X := X.suite a ((a, oe3) :: (X.pn ++ pins))) S3 g m q dbg
      · exact ld_blt (X := X.suite a ((a, oe3) :: (X.pn ++ pins))) S3 g m v q nn dbg
    refine test (LM.here ?_)
    cases b with
    | true =>
      refine codeAny_handlers_suite_as (HandSPX.lands_againZ fl3 fun h4 fl4 up4 => ?_)
      have J4 : Inv X pins σ1 H1 { s' with heap := h4 } := J.landed ground fl4.1 ((up.trans up3).trans up4) os ag
      obtain ⟨oe4, vs4, he4, hz4, hd4⟩ := fl4.there
      have S4 := J4.suite he4 hd4 na nL nF
      refine store_ok (X := X.suite a ((a, oe4) :: (X.pn ++ pins))) (v := .ref a) S4 hN hi (.inl hln) rfl (fun s5 S5 => ?_) (.inr hln)
      refine wpAny_mono ((hsu a oe4 cls d (X.pn ++ pins) hz4 ⟨_, hd4⟩).run [] s5 _ H1 _ S5 (yes rfl a na)) (fun f s6 e => ?_) (fun _ _ z => False.elim z)
      cases f with
      | next =>
        obtain ⟨σ6, H6, S6, q6⟩ := e
        have pa := S6.pin (a, oe4) (List.mem_append_left _ List.mem_cons_self)
        have J6 : Inv X ((a, oe4) :: pins) σ6 H6 s6 := (S6.unsuite ok).pins_of fun p hp => by
          rcases List.mem_cons.mp hp with z | z
          · rw [z]; exact pa
          · exact (S6.unsuite ok).pin p (List.mem_append_right _ z)
        show wpAny (model X.prog X.w) X.A (do bindName X.env n .none; unbindBehindTheSuite X.env n pos') _ _ _
        exact gone_ok J6 hN hi hln fun s7 J7 => ⟨_, _, Inv.track J7 hz4 hd4 n0 npin, q6⟩
      | brk => obtain ⟨_, _, _, z⟩ := e; exact z.elim
      | cont => obtain ⟨_, _, _, z⟩ := e; exact z.elim
      | ret u => obtain ⟨_, _, _, _, _, z⟩ := e; exact z.elim
    | false =>
      show wpAny _ X.A (handleBy (.ref a) X.env []) _ _ _
      refine wpAny_handleBy_nil ?_
      obtain ⟨k1, k2, k3, oe, vs, tb', oT, ts', he, hz, hd, h1, hr⟩ := id fl3
      unfold PySem.passOn
      refine wpAny_bind (wpAny_field he hd h1 ?_)
      rw [if_neg (show ¬ ((Value.ref tb' == Value.none) = true) from by simp)]
      have fin : wpAny (model X.prog X.w) X.A (setFlight (.ref a) X.env.frame) (fun _ s4 => wpAny (model X.prog X.w) X.A (throw (.ref a) : Sem Flow) (SP X pins D) X.xe s4) X.xe { s' with heap := h3 } := by
        rw [hf]
        refine HandSPX.setFlight_upZ fl3 fun h4 hh4 up4 => wpAny_throw (tk _ _ ?_)
        exact ⟨a, B, sI, pins, σ1, H1, cls, d, rfl, J, ground, (up.trans up3).trans up4, .inr (.inr (by rw [hs]; exact hh4)), na, os, ag, no rfl⟩
      first
        | exact wpAny_bind (wpAny_pure (wpAny_bind fin))
        | exact wpAny_bind fin
end
section
variable {X : Cx} {C : Addr} {e : Expr} {te : TE} {pos : Pos} {n : Str}
/-- err.f of a kept error -/
def tXv (C : Addr) (f : Str) (te : TE) : TE := fun σ H Q => te σ H fun x H1 => ∃ (a dd : Addr) (fs : List (Str × V)) (v : V), x = .ref a ∧ H1 a = some (XV (.ref C) (some dd) a) ∧ H1 dd = some (.xd fs) ∧ fs.lookup f = some v ∧ Q v H1
theorem pe_xv (T : XfC X.K C) (hno : PySem.W.findIn X.K (.ref C) n = some none) (he : PE X e te) (hb : attributeBase e n X.env (eval e X.env) = eval e X.env := by rfl) : PE X (.Attribute e n pos) (tXv C n te) := by
  refine ⟨fun pins s σ H Q I h => attr_of hb (thn (he.run pins s σ H _ I h) fun u s1 ⟨x, H1, I1, rx, a, dd, fs, v, ex, ea, ed, l, q⟩ => ?_)⟩
  subst ex
  obtain rfl : u = Value.ref a := rx
  have hx : ObjOk X.prog X.w H1 s1.heap dd (.xd fs) := I1.hok dd _ ed
  obtain ⟨mA, hns, hr⟩ := hx
  have hA : ObjOk X.prog X.w H1 s1.heap a (XV (.ref C) (some dd) a) := I1.hok a _ ea
  obtain ⟨⟨oe, vs, ha, hz, hd⟩, _⟩ := hA
  obtain ⟨od, ho, hl⟩ := lookIn_ns hns
  obtain ⟨w', hu, ru⟩ := RelO.some_of (v := v) (o := mA n) (by rw [← l]; exact hr n)
  have J : PySem.W.InstAt s1.heap a oe C (some od) := ⟨ha, hz.1, by unfold PySem.W.notCls; rw [hd], by rw [hz.2]; exact ho⟩
  exact HandSPX.exc_get I1.kIn J T.ga T.gg T.exC (PySem.W.findObj_own T.hdC hno rfl (by rw [hl, hu])) (handed_of ru) ⟨v, H1, I1.tok _, ru, q⟩
end
/-! ### a classmethod's call in a try -/
section
variable {X : Cx} {CX : CXT} {k : Nat} {C p g : Addr} {mc : Value} {sp : Sp} {E : L2.St → XK} {o e : Expr} {es : List Expr} {f m : Str} {pos apos : Pos} {ta : TE} {t : TA} {pl : Sem Bool}
def tCMethS (C : Addr) (sp : Sp) (E : L2.St → XK) (ta : TE) (t : TA) : TE := fun σ H Q => ta σ H fun x H1 => x = .ref C ∧ t σ H1 fun vs H2 => sp (.ref C :: vs) H2 Q (E σ)
theorem p_cmethS (he : PE X o ta) (r : ClX.CRead X.K C mc) (c : ClX.CMet X.K C mc m p g) (F : FnR X.prog X.w X.K X.mg X.base CX k g sp) (hr : Room k X.A) (hx : ∀ σ, PassesAt CX X σ (E σ)) (ha : PA X (e :: es) t)
    (hst : starEach (e :: es) X.env = (false, eval e X.env) :: starEach es X.env := by rfl) (hpl : (backTo pos (starEach es X.env)).any (·.1) = false := by rfl)
    (ht : eval (.Call (.Attribute o m apos) (e :: es) [] pos) X.env = (do
      let ov ← eval o X.env
      standAt apos.atName
      let (f, first) ← holding [ov] (getMethod ov m pl)
      callWith pos f first (backTo pos (starEach (e :: es) X.env)) (backToKw pos (keywordEach [] X.env))) := by rfl) :
    PE X (.Call (.Attribute o m apos) (e :: es) [] pos) (tCMethS C sp E ta t) := by
  refine ⟨fun pins s σ H Q I h => PySem.W.methodCall_KW (pl := pl) (thn (he.run pins s σ H _ I h) fun u s1 ⟨x, H1, I1, rx, ex, q⟩ => ?_) ht⟩
  subst ex
  obtain rfl : u = Value.ref C := rx
  refine ClX.getmethcm_ok I1 r c fun s2 I2 => ?_
  refine ClX.callwith_cm I2 (ClX.base_none I1 (Nat.le_refl _)) c.fi (thn (ha.run pos _ s2 σ H1 _ I2 q) fun us s3 ⟨vs, H2, I3, rv, q2⟩ => ⟨⟨ClX.pin_at I3, I3.kIn⟩, ?_⟩) hst hpl
  refine thn (Q := EP X ((s1.heap.objs.size, PySem.W.methodObj (.ref g) (.ref C)) :: pins) σ Q) (wpAny_call (PySem.W.method_call (ClX.pin_at I3) (codeAny_mono (F X.A X.stack s3 H2 (.ref C :: us) (.ref C :: vs) Q (E σ) hr I3.env0 (.cons rfl rv) q2) fun r s' hq => ?_))) fun _ _ y => ClX.unpinE y
  cases r with
  | error e => exact hx σ _ H2 s3 e s' I3 hq
  | ok fl =>
    cases fl with
    | ret u => exact I3.after hq
    | next => exact False.elim hq
    | brk => exact False.elim hq
    | cont => exact False.elim hq
end
end Cn
set_option Elab.async false
set_option linter.all false
set_option maxRecDepth 100000
set_option maxHeartbeats 2000000
/-! Cn.B8: str(x) of an own class. -/
namespace Cn
open PySem PySem.Spec PyProof.Rows L2
section
variable {X : Cx} {k j : Nat} {C : Addr} {sp : Sp} {E : XK}
theorem call_str_own (E : XK) (c : Met X.prog X.w X.K X.mg X.base k C "__str__" sp) (hr : Room j X.A) (hk : k + 2 ≤ j) (hx : Passes (L2.CX X.prog X.w) X E) :
    CallR X (.type "str") (fun xs H Q => ∃ a dx fs, xs = [.ref a] ∧ H a = some (.ins C dx fs) ∧ sp [.ref a] H (fun v H' => (∃ t, v = .str t) ∧ Q v H') E) := by
  intro pins s σ H xs us Q I r h
  obtain ⟨f, fd, ps, hC, hm, F, hb⟩ := c.ex
  obtain ⟨a, dx, fs, rfl, ha, q⟩ := h
  obtain ⟨u, rfl, ru⟩ := vals1 r
  obtain rfl : u = Value.ref a := ru
  obtain ⟨mA, J, _⟩ := ins_get I.hok ha
  obtain ⟨od, J, _⟩ := J.look
  have sb : Sub X k X.A.in1.in1 := Sub.in1 (Sub.in1 ⟨hr.mono hk, rfl⟩)
  refine PySem.W.kso_call sb.room.units0 I.kIn J hm.at_ hm.fn ?_
  have e0 : Env0 X.prog X.w X.K X.mg X.base X.A.in1.in1 X.stack s H := by
    have e := I.env0
    exact ⟨by rw [sb.fr]; exact e.frames, e.mod, e.bs, e.bsz, e.funs, e.frf, e.hok, e.bare⟩
  have hl := F.len _ _ _ _ q
  have r2 : Vals [V.ref a] [Value.ref a] := .cons rfl .nil
  refine wpAny_call (codeAny_mono (F.run X.A.in1.in1 X.stack s H ⟨[.ref a], []⟩ [.ref a] [.ref a] _ E sb.room e0 (by
    have := hb s [.ref a] I.kIn (by simpa using hl)
    simpa using this) r2 q) fun r s' hq => ?_)
  cases r with
  | error e => exact hx pins σ H s e s' I hq
  | ok fl =>
    cases fl with
    | ret w =>
      obtain ⟨z, H', I', rz, ⟨t, ez⟩, q⟩ := I.after hq
      subst ez
      obtain ⟨tk, rfl⟩ := rz
      exact ⟨.str t, H', I', ⟨tk, rfl⟩, q⟩
    | next => exact False.elim hq
    | brk => exact False.elim hq
    | cont => exact False.elim hq
end
end Cn
namespace Cn
open PySem PySem.Spec PyProof.Rows L2
theorem foldl_arr : ∀ (L : List (Array Nat)) (acc : Array Nat), (L.foldl (· ++ ·) acc) = acc ++ (L.map Array.toList).flatten.toArray
  | [], acc => by simp
  | a :: r, acc => by
    rw [List.foldl_cons, foldl_arr r]
    apply Array.ext'
    simp
def repT (n : Nat) (a : T) : T := (List.replicate n a).flatten
theorem repT_len (n : Nat) (a : T) : (repT n a).length = n * a.length := by simp [repT]
theorem rep_S (n : Nat) (a : T) : (⟨(List.replicate n (S a).cps).foldl (· ++ ·) #[]⟩ : Str) = S (repT n a) := by
  rw [foldl_arr]
  unfold S repT
  congr 1
  simp
section
variable {X : Cx}
theorem op_repS : OpR X (binaryOp .Mult) (fun x y H Q => ∃ (a : T) (n : Nat), x = sv a ∧ y = .int (n : Int) ∧ 1 ≤ n ∧ n ≤ 100000 ∧ a.length ≤ 100 ∧ a ≠ [] ∧ Q (sv (repT n a)) H) := by
  intro pins s σ H x y v u Q I rx ry h
  obtain ⟨a, n, rfl, rfl, h1, h2, h3, h4, q⟩ := h
  obtain ⟨t, rfl⟩ := rx
  obtain ⟨t', rfl⟩ := ry
  have hx : (S a).length = a.length := S_len a
  have hb : n * a.length ≤ 10000000 := by have := Nat.mul_le_mul h2 h3; omega
  refine PySem.P.mul_str ?_ (fun _ _ => ?_) (fun _ _ => ?_) ?_
  · rw [decide_eq_false (by omega), decide_eq_false (by omega)]; rfl
  · rw [hx]
    have : (100000 : Int) ≤ (2 ^ 63 - 1) / (n : Int) := by
      refine (Int.le_ediv_iff_mul_le (by omega)).mpr ?_
      omega
    omega
  · rw [hx]
    unfold PySem.Builtin.Str.tooLong
    have : a.length * n ≤ 10000000 := by rw [Nat.mul_comm]; exact hb
    have e : ((n : Int)).toNat = n := by omega
    rw [e, sizeLine_eq]
    exact decide_eq_false (by omega)
  · rw [if_neg (by omega)]
    by_cases e1 : ((n : Int) == 1 || (S a).length == 0) = true
    · rw [if_pos e1]
      have n1 : n = 1 := by
        rcases Bool.or_eq_true _ _ ▸ e1 with z | z
        · have := eq_of_beq z; omega
        · have z2 := eq_of_beq z
          rw [hx] at z2
          exact absurd (List.length_eq_zero_iff.mp z2) h4
      subst n1
      have : repT 1 a = a := by simp [repT]
      rw [this] at q
      exact ⟨sv a, H, I, ⟨t, rfl⟩, q⟩
    · rw [if_neg e1]
      have e : ((n : Int)).toNat = n := by omega
      rw [e, rep_S]
      refine ⟨szl (by rw [S_len, repT_len]; omega), sv (repT n a), H, I.tok _, ⟨_, rfl⟩, q⟩
end
end Cn

namespace Cn
open PySem PySem.Spec PyProof.Rows L2
/-- a classmethod of our own -/
structure CMt (P : Program) (w : World) (K : PySem.W.Frag) (mg : Str → Option Value) (base : Heap) (k : Nat) (C : Addr) (m : Str) (sp : Sp) : Prop where
  ex : ∃ (mc : Value) (p g : Addr), ClX.CRead K C mc ∧ ClX.CMet K C mc m p g ∧ FnR P w K mg base (L2.CX P w) k g sp
section
variable {X : Cx} {k j : Nat} {C : Addr} {sp : Sp} {E : L2.St → XK} {o e : Expr} {es : List Expr} {m : Str} {pos apos : Pos} {ta : TE} {t : TA} {pl : Sem Bool}
theorem p_cmt (he : PE X o ta) (c : CMt X.prog X.w X.K X.mg X.base k C m sp) (hr : Room j X.A) (hk : k ≤ j) (hx : ∀ σ, PassesAt (L2.CX X.prog X.w) X σ (E σ)) (ha : PA X (e :: es) t)
    (hst : starEach (e :: es) X.env = (false, eval e X.env) :: starEach es X.env := by rfl) (hpl : (backTo pos (starEach es X.env)).any (·.1) = false := by rfl)
    (ht : eval (.Call (.Attribute o m apos) (e :: es) [] pos) X.env = (do
      let ov ← eval o X.env
      standAt apos.atName
      let (f, first) ← holding [ov] (getMethod ov m pl)
      callWith pos f first (backTo pos (starEach (e :: es) X.env)) (backToKw pos (keywordEach [] X.env))) := by rfl) :
    PE X (.Call (.Attribute o m apos) (e :: es) [] pos) (tCMethS C sp E ta t) := by
  obtain ⟨mc, p, g, r, cm, F⟩ := c.ex
  exact p_cmethS he r cm F (hr.mono hk) hx ha hst hpl ht
theorem passE {E : XK} (h : Passes (L2.CX X.prog X.w) X E) (σ : L2.St) : PassesAt (L2.CX X.prog X.w) X σ E := fun pins H s e s' I c => h pins σ H s e s' I c
end
end Cn
set_option Elab.async false
set_option linter.all false
set_option maxRecDepth 100000
set_option maxHeartbeats 2000000
/-! Cn.B13: a method's call in a try; isinstance of a kept error. -/
namespace Cn
open PySem PySem.Spec PyProof.Rows L2
section
variable {X : Cx} {k j : Nat} {C : Addr} {m : Str} {sp : Sp} {E : L2.St → XK} {o e : Expr} {es : List Expr} {pos apos : Pos} {ta : TE} {t : TA}
def tMethS (C : Addr) (m : Str) (sp : Sp) (E : L2.St → XK) (ta : TE) (t : TA) : TE := fun σ H Q => ta σ H fun x H1 => ∃ (a dx : Addr) (fs : List (Str × V)), x = .ref a ∧ H1 a = some (.ins C dx fs) ∧ fs.lookup m = none ∧ t σ H1 fun vs H2 => sp (.ref a :: vs) H2 Q (E σ)
theorem p_methS {pl : Sem Bool} (c : Met X.prog X.w X.K X.mg X.base k C m sp) (hr : Room j X.A) (hk : k ≤ j) (hx : ∀ σ, PassesAt (L2.CX X.prog X.w) X σ (E σ)) (he : PE X o ta) (ha : PA X (e :: es) t)
    (hst : starEach (e :: es) X.env = (false, eval e X.env) :: starEach es X.env := by rfl) (hpl : (backTo pos (starEach es X.env)).any (·.1) = false := by rfl)
    (ht : eval (.Call (.Attribute o m apos) (e :: es) [] pos) X.env = (do
      let ov ← eval o X.env
      standAt apos.atName
      let (f, first) ← holding [ov] (getMethod ov m pl)
      callWith pos f first (backTo pos (starEach (e :: es) X.env)) (backToKw pos (keywordEach [] X.env))) := by rfl) :
    PE X (.Call (.Attribute o m apos) (e :: es) [] pos) (tMethS C m sp E ta t) := by
  obtain ⟨f, fd, ps, hc, hm, F, b⟩ := c.ex
  refine ⟨fun pins s σ H Q I h => ?_⟩
  refine PySem.W.methodCall_KW (pl := pl) (thn (he.run pins s σ H _ I h) fun u s1 ⟨x, H1, I1, rx, a, dx, fs, ex, ea, l, q⟩ => ?_) ht
  subst ex
  obtain rfl : u = Value.ref a := rx
  refine getmeth_ok I1 ea hc hm l ?_
  refine PySem.W.callWith_K (first := [.ref a]) (h₀ := X.base) I.ok.mod.kin hm.kp (thn (ha.run pos pins s1 σ H1 _ I1 q) fun us s2 ⟨vs, H2, I2, r, q2⟩ => ⟨I2.kIn, ?_⟩) hst hpl
  exact run_fnS (us := .ref a :: us) (vs := .ref a :: vs) F (hr.mono hk) b (hx σ) I2 (.cons rfl r) q2
end
/-! ### isinstance of a kept error -/
def rIsX (K : PySem.W.Frag) (C : Addr) : List V → Hp → VK → Prop := fun xs H Q => ∃ (a dd : Addr) (fs : List (Str × V)) (c : V) (u : Value) (b : Bool), xs = [.ref a, c] ∧ H a = some (XV (.ref C) (some dd) a) ∧ H dd = some (.xd fs) ∧ ClsV c u ∧ PySem.W.kitOne K (.ref C) u = some b ∧ Q (.bl b) H
def rIsXT (K : PySem.W.Frag) (C : Addr) : List V → Hp → VK → Prop := fun xs H Q => ∃ (a dd : Addr) (fs : List (Str × V)) (tp : Addr) (cs : List V) (us : List Value) (b : Bool), xs = [.ref a, .ref tp] ∧ H a = some (XV (.ref C) (some dd) a) ∧ H dd = some (.xd fs) ∧ H tp = some (.tup cs) ∧ Paired ClsV cs us ∧ PySem.W.kitAny K (.ref C) us = some b ∧ Q (.bl b) H
section
variable {X : Cx} {C : Addr}
theorem xv_inst {pins : List (Addr × Obj)} {σ : L2.St} {H : Hp} {s : Shared} {a dd : Addr} {fs : List (Str × V)} (I : Inv X pins σ H s) (ea : H a = some (XV (.ref C) (some dd) a)) (ed : H dd = some (.xd fs)) : ∃ (oe od : Obj), PySem.W.InstAt s.heap a oe C (some od) := by
  have hx : ObjOk X.prog X.w H s.heap dd (.xd fs) := I.hok dd _ ed
  obtain ⟨mA, hns, hr⟩ := hx
  have hA : ObjOk X.prog X.w H s.heap a (XV (.ref C) (some dd) a) := I.hok a _ ea
  obtain ⟨⟨oe, vs, ha, hz, hd⟩, _⟩ := hA
  obtain ⟨od, ho, hl⟩ := lookIn_ns hns
  exact ⟨oe, od, ha, hz.1, by unfold PySem.W.notCls; rw [hd], by rw [hz.2]; exact ho⟩
theorem call_isX (E : ExcC X.K C) : CallR X (.builtin "isinstance") (rIsX X.K C) := by
  intro pins s σ H xs us Q I r h
  obtain ⟨a, dd, fs, c, u, b, rfl, ea, ed, k, e, q⟩ := h
  obtain ⟨u1, u2, rfl, r1, r2⟩ := vals2 r
  have e2 := k.eq r2
  subst e2
  obtain rfl : u1 = Value.ref a := r1
  obtain ⟨oe, od, J⟩ := xv_inst I ea ed
  have cl : (PySem.W.clsIn X.K C).isSome = true := by
    obtain ⟨cd, hc, _⟩ := PySem.W.any_some E.hd
    rw [hc]; rfl
  exact PySem.W.kia_one (PySem.W.kitx_exc cl E.hg E.hk E.hs E.ha E.hn E.ht E.hm) I.kIn J e (fun z => nomatch z) fun tk => ⟨.bl b, H, I.tok tk, rfl, q⟩
theorem call_isXT (E : ExcC X.K C) : CallR X (.builtin "isinstance") (rIsXT X.K C) := by
  intro pins s σ H xs us Q I r h
  obtain ⟨a, dd, fs, tp, cs, ws, b, rfl, ea, ed, hT, k, e, q⟩ := h
  obtain ⟨u1, u2, rfl, r1, r2⟩ := vals2 r
  cases (show u2 = Value.ref tp from r2)
  obtain rfl : u1 = Value.ref a := r1
  obtain ⟨oe, od, J⟩ := xv_inst I ea ed
  have cl : (PySem.W.clsIn X.K C).isSome = true := by
    obtain ⟨cd, hc, _⟩ := PySem.W.any_some E.hd
    rw [hc]; rfl
  obtain ⟨_, its, rv, o, h1, h2, n, h3⟩ := (show ObjOk X.prog X.w H s.heap tp (.tup cs) from I.hok tp _ hT)
  have e3 := ClsV.all k rv
  subst e3
  obtain ⟨oc, od', dt, sl⟩ := o
  simp only at h2 h3
  subst h2 h3
  exact PySem.W.kia_tup (PySem.W.kitx_exc cl E.hg E.hk E.hs E.ha E.hn E.ht E.hm) I.kIn J h1 e (fun z => nomatch z) fun tk => ⟨.bl b, H, I.tok tk, rfl, q⟩
end
section
variable {X : Cx} {C : Addr} (K : PySem.W.Frag) (h : X.K = K)
include h
theorem call_isXK (E : ExcC K C) : CallR X (.builtin "isinstance") (rIsX K C) := by subst h; exact call_isX E
theorem call_isXTK (E : ExcC K C) : CallR X (.builtin "isinstance") (rIsXT K C) := by subst h; exact call_isXT E
end
section
variable {X : Cx} {C : Addr} {x : Str} {pos : Pos}
/-- an own class by its name -/
theorem p_gcls (hm : X.mg x = some (.ref C)) (hg : Gl X x := by rfl) (hd : (x == ("__debug__" : Str)) = false := by decide) : PE X (.Name x pos) (tC (.ref C)) := pe_glob (v := .ref C) hg hm rfl hd
theorem p_gval (hm : X.mg "ValueError" = none) (hg : Gl X "ValueError" := by rfl) : PE X (.Name "ValueError" pos) (tC (.ty "ValueError")) := pe_bltn (v := .ty "ValueError") hg hm (by decide +kernel) rfl
end
/-- the class's facts, decided -/
def excB (K : PySem.W.Frag) (D : Addr) : Bool := decide (PySem.W.findIn K (.ref D) "__getattribute__" = some (some (.builtin "BaseException.__getattribute__"))) && (decide (PySem.W.findIn K (.ref D) "__getattr__" = some none) && (decide (PySem.W.subIn K (.ref D) (.type "BaseException") = some true) && (PySem.W.hasDictIn K D && (decide (PySem.W.findIn K (.ref D) "__class__" = some (some (.builtin "object.__class__"))) && (decide (PySem.W.specialIn K (.builtin "object.__class__") "__get__" = some (some (.builtin "getset_descriptor.__get__"))) && (decide (PySem.W.takesIn K (.builtin "object.__class__") = some true) && decide (PySem.W.mroIn K D (.type "object") = some true)))))))
theorem excB_ok {K : PySem.W.Frag} {D : Addr} (h : excB K D = true) : ExcC K D := by
  unfold excB at h
  simp only [Bool.and_eq_true, decide_eq_true_eq] at h
  obtain ⟨h1, h2, h3, h4, h5, h6, h7, h8⟩ := h
  exact ⟨h1, h2, h3, h4, h5, h6, h7, h8⟩
end Cn
set_option Elab.async false
set_option linter.all false
set_option maxRecDepth 100000
set_option maxHeartbeats 2000000
/-! Cn.B24: enumerate over a tuple. -/
namespace Cn
open PySem PySem.Spec PyProof.Rows L2
/-- a new enumerate over what an iterator begins at -/
theorem new_enum1 {v : Value} {o : Obj} {G : Heap → Prop} (B : Begins v o G) : Meets (Builtin.«enumerate.__new__» ⟨[.type "enumerate", v], []⟩) (fun _ R s => G s.heap ∧ R (.ok (.ret (.ref (s.heap.push o).objs.size))) { s with heap := (s.heap.push o).push { cls := .type "enumerate", data := .fields #[.none, .bool false, .ref s.heap.objs.size, rawInt 0, .none, .none] } }) :=
  .of_wp fun prog w A R s h => by
    obtain ⟨hp, g, d, tk, os⟩ := s
    obtain ⟨hG, hR⟩ := h
    have sub := sub_enumerate
    have go : ∀ {A' : Around} {E Q : Value → Shared → Prop}, Q (.ref hp.objs.size) ⟨hp.push o, g, d, tk, os⟩ → wpAny (model prog w) A' (pyIter v) Q E ⟨hp, g, d, tk, os⟩ := fun q => B.iter prog w _ _ ⟨hp, g, d, tk, os⟩ _ hG q
    wp_walk using go
    refine wpAny_stack_any fun st => wpAny_pure ?_
    split
    · rename_i c _ _ _ _ _
      cases (c == Value.type "enumerate") <;> (wp_walk using go; exact ⟨_, rfl, hR⟩)
    · wp_walk using go
      exact ⟨_, rfl, hR⟩
section
variable {prog : Program} {w : World} {A : Around} {E : Value → Shared → Prop} {s : Shared}
/-- enumerate(t): two new cells -/
theorem enum_tup {l : Addr} {items : Array Value} {Q : Value → Shared → Prop} (hL : s.heap.IsTuple l items) (h : ∀ h', IsEnum h' (s.heap.objs.size + 1) s.heap.objs.size 0 .none → h'.IsTupleIter s.heap.objs.size l 0 → (∀ b o, s.heap.get? b = some o → h'.get? b = some o) → Q (.ref (s.heap.objs.size + 1)) { s with heap := h' }) :
    wpAny (model prog w) A (call (.type "enumerate") [.ref l]) Q E s := by
  refine callType_new F.called_enumerate (by decide) (F.typeCall_enumerate_1 _) (F.newCall_enumerate_1 _) (fun obj => F.args_object_init_2 obj _) F.entry_enumerate_new (new_enum1 (begins_tuple l items)) ⟨hL, ?_⟩
  generalize ho : ({ cls := .type "tuple_iterator", data := .fields #[.ref l, .int 0 0] } : Obj) = o
  have fo : o.isFreed = false := by rw [← ho]; rfl
  have g1 : (s.heap.push o).get? s.heap.objs.size = some o := Heap.get?_push_size _ fo
  have z1 : (s.heap.push o).objs.size = s.heap.objs.size + 1 := Heap.size_push ..
  generalize hu : ({ cls := .type "enumerate", data := .fields #[.none, .bool false, .ref s.heap.objs.size, rawInt 0, .none, .none] } : Obj) = u
  have fu : u.isFreed = false := by rw [← hu]; rfl
  have g2 : ((s.heap.push o).push u).get? (s.heap.push o).objs.size = some u := Heap.get?_push_size _ fu
  rw [z1] at g2
  have ge : IsEnum ((s.heap.push o).push u) (s.heap.objs.size + 1) s.heap.objs.size 0 .none := by
    unfold IsEnum
    rw [g2, ← hu]
  show _ ∧ _
  rw [z1]
  refine ⟨⟨_, ge, rfl⟩, h _ ge ⟨o, Heap.get?_push_of_some _ g1, by rw [← ho], by rw [← ho]; rfl⟩ fun b q hb => Heap.get?_push_of_some _ (Heap.get?_push_of_some _ hb)⟩
end
theorem ne_ti {h : Heap} {it a : Addr} {i : Nat} {xs : Array Value} (hi : h.IsTupleIter it a i) (ht : h.IsTuple a xs) : a ≠ it := fun z => by
  obtain ⟨o, ho, hc, _⟩ := hi
  obtain ⟨p, hp, hd, _⟩ := ht
  rw [z, ho] at hp
  cases hp
  rw [hc] at hd
  revert hd
  decide
/-- nothing is left of a tuple -/
theorem drawn_out {prog : Program} {w : World} {A : Around} (hh : A.handled = none) {it a : Addr} (la : a ≠ it) {xs : Array Value} {i : Nat} (hi : xs.size ≤ i) : Draws prog w A it [it, a] i (fun _ _ => False) (fun j h => j = i ∧ h.IsTupleIter it a i ∧ h.IsTuple a xs) where
  live := fun _ _ ⟨_, ⟨o, ho, _⟩, _⟩ => ⟨o, ho⟩
  frame := fun _ _ _ ⟨e, h1, h2⟩ k => ⟨e, h1.at fun o q => k it (by simp) o q, h2.at fun o q => k a (by simp) o q⟩
  item := fun j _ _ _ hj ⟨e, _⟩ _ => absurd e (Nat.ne_of_lt hj)
  done := fun s _ _ ⟨_, h1, h2⟩ hE => wpAny_nextOf_tuple_end hh h1 h2 (by simp; omega) hE
/-- the tuple at a as it stands at each turn, each item in a new pair -/
def IteT (K : PySem.W.Frag) (a : Addr) : It :=
  ⟨fun i H => ∃ (xs : List V) (x : V), SqT K H a xs ∧ xs[i]? = some x, fun i H v H' => ∃ T x, v = .ref T ∧ H T = none ∧ H' = upd H T (.tup [.int (i : Nat), x]) ∧ ∀ xs, SqT K H a xs → xs[i]? = some x, fun i H => ∃ xs : List V, SqT K H a xs ∧ xs.length ≤ i⟩
theorem turn_enumT {P : Program} {w : World} {K : PySem.W.Frag} {elts : List Expr} {kk : Nat} {tpos : Pos} (a e it : Addr) :
    Turn P w K (.Tuple elts kk tpos) (IteT K a) [e, it] e (fun i h => (∃ old, IsEnum h e it ((i : Nat) : Int) old) ∧ h.IsTupleIter it a i ∧ e ≠ it ∧ a ≠ e) where
  mem := by simp
  obj := fun i h ⟨⟨old, he⟩, ⟨o, ho, hc, hd⟩, _⟩ b hb => by
    simp only [List.mem_cons, List.not_mem_nil, or_false] at hb
    rcases hb with rfl | rfl
    · exact ⟨_, he, fun v q => nomatch q⟩
    · exact ⟨o, ho, fun v q => by rw [hd] at q; cases q⟩
  keep := fun i h h' ⟨⟨old, he⟩, hi, hne, hae⟩ k => ⟨⟨old, k e (by simp) _ he⟩, hi.at fun o q => k it (by simp) o q, hne, hae⟩
  item := by
    intro X eP ew eK hc i pins s σ H E I hf ⟨⟨old, he⟩, hit, hne, hae⟩ ⟨xs, x, hq, hx⟩
    subst eP ew eK
    obtain ⟨its, rv, p, hz⟩ := I.tuple hq
    have pt : s.heap.IsTuple a its.toArray := p
    obtain ⟨u, hu, ru⟩ := rv.get hx
    have la : a ≠ it := ne_ti hit pt
    have l1 : e < s.heap.objs.size := Heap.lt_size he
    have l2 : it < s.heap.objs.size := by obtain ⟨_, q, _⟩ := hit; exact Heap.lt_size q
    have iu : i < its.length := (List.getElem?_eq_some_iff.mp hu).1
    refine wpAny_pyNext_enum_itemD (Draws.tuple (A := X.A.in1) (I.ok.hd hc) it a la its.toArray) he ⟨hit, pt⟩ (by simpa using iu) hne (by simp [hne, Ne.symm hae]) fun y h' tk hy ho ⟨hit', _⟩ hT hsz hk => ?_
    have ey : y = u := by
      have hy : its.toArray[i]? = some y := hy
      rw [List.getElem?_toArray, hu] at hy
      exact (Option.some.inj hy).symm
    subst ey
    refine ⟨_, rfl, wpAny_letOwnedTupleGo_enum (s := { s with heap := h', toks := tk + 1 }) ho fun h2 he2 sb => ?_⟩
    have hT2 : h2.get? s.heap.objs.size = some { cls := .type "tuple", data := .seq #[.int i tk, y] } := (sb.2 _ (Nat.ne_of_gt l1)).trans hT
    have new : ObjOk X.prog X.w (upd H s.heap.objs.size (.tup [.int (i : Nat), x])) h2 s.heap.objs.size (.tup [.int (i : Nat), x]) := ⟨by show 2 ≤ sizeLine; decide, [.int i tk, y], .cons ⟨_, rfl⟩ (.cons ru .nil), ⟨_, hT2, rfl, _, rfl⟩⟩
    have I1 : Inv X pins σ (upd H s.heap.objs.size (.tup [.int (i : Nat), x])) { s with heap := h2, toks := tk + 1 } :=
      I.turnedNew (ch := [e, it]) (fun b ob hb q => (sb.2 b fun z => hb (by simp [z])).trans (hk b ob (fun z => hb (by simp [z])) (fun z => hb (by simp [z])) q)) hf (Nat.le_refl _) new
    refine ⟨.ref s.heap.objs.size, _, I1, rfl, ⟨_, x, rfl, I.hok.fresh (Nat.le_refl _), rfl, fun ys hy => by rw [I.tuple_inj hy hq]; exact hx⟩, ⟨⟨y, ?_⟩, hit'.at fun o q => (sb.2 it (Ne.symm hne)).trans q, hne, hae⟩, fun b hb => ?_⟩
    · have e1 : ((i + 1 : Nat) : Int) = (i : Int) + 1 := by omega
      rw [e1]; exact he2
    · have lb : b < s.heap.objs.size := by
        simp only [List.mem_cons, List.not_mem_nil, or_false] at hb
        rcases hb with z | z <;> (rw [z]; assumption)
      rw [upd_ne (Nat.ne_of_lt lb)]
      exact (hf b hb).1
  done := by
    intro X eP ew eK hc i pins s σ H E I hf ⟨⟨old, he⟩, hit, hne, hae⟩ ⟨xs, hq, hx⟩
    subst eP ew eK
    obtain ⟨its, rv, p, hz⟩ := I.tuple hq
    have pt : s.heap.IsTuple a its.toArray := p
    have la : a ≠ it := ne_ti hit pt
    obtain ⟨f0, f1, f2, f3, f4, f5⟩ := hf it (by simp)
    have hl := rv.length
    have ei : its.toArray.size ≤ i := by simp; omega
    exact wpAny_pyNext_enum_endD (drawn_out (A := X.A.in1) (I.ok.hd hc) la ei) he ⟨rfl, hit, pt⟩ fun h' eb => ⟨rfl, I.turned (t' := s.toks) (fun b o hb q => eb b o hb q) f0 f1 f3 f4 f5⟩
  self := fun A i s Q E ⟨⟨_, he⟩, _⟩ h => wpAny_pyIter_enum he h
def iEnumT (K : PySem.W.Frag) (ta : TA) : TI := fun σ H R => ta σ H fun vs H1 => ∃ a xs, vs = [.ref a] ∧ SqT K H1 a xs ∧ R (IteT K a) H1
theorem pi_enumT {X : Cx} {e : Expr} {ta : TA} {p pos tpos : Pos} {elts : List Expr} {kk : Nat} (hg : Gl X "enumerate") (hm : X.mg "enumerate" = none) (ha : PA X [e] ta) (hs : starEach [e] X.env = [(false, eval e X.env)] := by rfl) :
    PI X (.Tuple elts kk tpos) (.Call (.Name "enumerate" p) [e] [] pos) (iEnumT X.K ta) := by
  refine ⟨fun pins s σ H R I h => Call_ (ld_blt I hg hm boot_enumerate (PyProof.Rows.callWith_type1 (thn (ha.run pos pins s σ H _ I h) fun us s1 ⟨vs, H1, I1, r1, a, xs, ex, hq, q⟩ => ?_) hs rfl))⟩
  subst ex
  obtain ⟨u, rfl, ru⟩ := vals1 r1
  cases (show u = Value.ref a from ru)
  obtain ⟨its, rv, pt, hz⟩ := I1.tuple hq
  refine enum_tup (show s1.heap.IsTuple a its.toArray from pt) fun h' he hit hk => wpAny_pyIter_enum he ?_
  have I2 : Inv X pins σ H1 { s1 with heap := h' } := I1.kept (t' := s1.toks) hk
  have la : a < s1.heap.objs.size := by obtain ⟨o, ho, _⟩ := pt; exact Heap.lt_size ho
  refine ⟨s1.heap.objs.size + 1, [s1.heap.objs.size + 1, s1.heap.objs.size], _, _, H1, rfl, I2, turn_enumT a (s1.heap.objs.size + 1) s1.heap.objs.size, ⟨⟨.none, he⟩, hit, Nat.succ_ne_self _, Nat.ne_of_lt (Nat.lt_succ_of_lt la)⟩, fun b hb => ?_, q⟩
  have hle : s1.heap.objs.size ≤ b := by
    simp only [List.mem_cons, List.not_mem_nil, or_false] at hb
    rcases hb with z | z
    · rw [z]; exact Nat.le_succ _
    · rw [z]; exact Nat.le_refl _
  exact I1.fpOk hle (I1.hok.fresh hle)
theorem pi_enumTK {X : Cx} (K : PySem.W.Frag) (hK : X.K = K) {e : Expr} {ta : TA} {p pos tpos : Pos} {elts : List Expr} {kk : Nat} (hg : Gl X "enumerate") (hm : X.mg "enumerate" = none) (ha : PA X [e] ta) (hs : starEach [e] X.env = [(false, eval e X.env)] := by rfl) :
    PI X (.Tuple elts kk tpos) (.Call (.Name "enumerate" p) [e] [] pos) (iEnumT K ta) := by
  subst hK
  exact pi_enumT hg hm ha hs
theorem walk_enumT {K : PySem.W.Frag} {a : Addr} {xs : List V} : Walk (IteT K a) xs.length (fun H => SqT K H a xs) (YPair (fun i => some (.int (i : Nat))) (fun i => xs[i]?)) :=
  ⟨fun i _ hi q => ⟨xs, xs[i], q, by simp [hi]⟩, fun _ q => ⟨xs, q, Nat.le_refl _⟩, fun i H v H' _ q ⟨T, x, h1, h2, h3, h4⟩ => ⟨T, .int (i : Nat), x, h1, h2, h3, rfl, h4 xs q⟩⟩
end Cn
set_option Elab.async false
set_option linter.all false
set_option maxRecDepth 100000
set_option maxHeartbeats 2000000
/-! Cn.M10: reports as plain functions over lists of signs. -/
namespace Cn
open PySem L2
abbrev Col := T × T
structure Rep where
  name : T
  aliases : List (T × T)
  links : List (Col × Col)
  filters : List (Col × Nat)
  groups : List Col
  measure : Option T
  deriving DecidableEq
def kReport : T := [114, 101, 112, 111, 114, 116, 32]
def kFrom : T := [32, 32, 102, 114, 111, 109, 32]
def kJoin : T := [32, 32, 106, 111, 105, 110, 32]
def kLink : T := [32, 32, 108, 105, 110, 107, 32]
def kWhere : T := [32, 32, 119, 104, 101, 114, 101, 32]
def kBy : T := [32, 32, 98, 121, 32]
def kSum : T := [32, 32, 115, 117, 109, 32]
def kRows : T := [32, 32, 114, 111, 119, 115]
def kEq : T := [61]
def isNumber (w : T) : Bool := decide (1 ≤ w.length) && (decide (w.length ≤ 10) && ((w.all fun c => decide (48 ≤ c) && decide (c ≤ 57)) && ((TL.numL (NumText.digitsVal w) == w) && decide (NumText.digitsVal w ≤ 1000000000))))
/-- a text at the first sign c -/
def cutAt (c : Nat) : T → T × T
  | [] => ([], [])
  | x :: r => if x == c then ([], r) else (x :: (cutAt c r).1, (cutAt c r).2)
def optCols (t : Tbl) : List T := (t.refs.filter fun r => !r.2.2).flatMap (·.1)
def tabOf (ts : List Tbl) (n : T) : Option Tbl := ts.find? fun t => t.name == n
def aliasOf (ts : List Tbl) (al : List (T × T)) (a : T) : Option Tbl := match al.find? fun p => p.1 == a with
  | some p => tabOf ts p.2
  | none => none
def colOf (ts : List Tbl) (al : List (T × T)) (w : T) : Option Col := match aliasOf ts al (cutAt 46 w).1 with
  | some t => if t.cols.contains (cutAt 46 w).2 then some ((cutAt 46 w).1, (cutAt 46 w).2) else none
  | none => none
section
variable (L : List T) (ts : List Tbl)
def aliasLoop : Nat → Nat → List (T × T) → Except Nat (List (T × T) × Nat)
  | 0, n, al => .ok (al, n)
  | f + 1, n, al =>
    if al.isEmpty || begins L n kJoin then
      match words L n (if al.isEmpty then kFrom else kJoin) with
      | none => .error n
      | some ws =>
        if ws.length == 2 && (ts.map (·.name)).contains (ws.getD 0 []) then
          if isName (ws.getD 1 []) && !(al.map (·.1)).contains (ws.getD 1 []) then
            if al.length + 1 ≤ 4 then aliasLoop f (n + 1) (al ++ [(ws.getD 1 [], ws.getD 0 [])]) else .error n
          else .error n
        else .error n
    else .ok (al, n)
variable (al : List (T × T))
def linkLoop : Nat → Nat → List (Col × Col) → Except Nat (List (Col × Col) × Nat)
  | 0, n, ls => .ok (ls, n)
  | f + 1, n, ls =>
    if begins L n kLink then
      match words L n kLink with
      | none => .error n
      | some ws =>
        if ws.length == 3 && ws.getD 1 [] == kEq then
          match colOf ts al (ws.getD 0 []), colOf ts al (ws.getD 2 []) with
          | some a, some b => if ls.length + 1 ≤ 20 then linkLoop f (n + 1) (ls ++ [(a, b)]) else .error n
          | _, _ => .error n
        else .error n
    else .ok (ls, n)
def filterLoop : Nat → Nat → List (Col × Nat) → Except Nat (List (Col × Nat) × Nat)
  | 0, n, fs => .ok (fs, n)
  | f + 1, n, fs =>
    if begins L n kWhere then
      match words L n kWhere with
      | none => .error n
      | some ws =>
        if ws.length == 3 && (ws.getD 1 [] == kEq && isNumber (ws.getD 2 [])) then
          match colOf ts al (ws.getD 0 []) with
          | some a => if fs.length + 1 ≤ 5 then filterLoop f (n + 1) (fs ++ [(a, NumText.digitsVal (ws.getD 2 []))]) else .error n
          | none => .error n
        else .error n
    else .ok (fs, n)
def groupLoop : Nat → Nat → List Col → Except Nat (List Col × Nat)
  | 0, n, gs => .ok (gs, n)
  | f + 1, n, gs =>
    if begins L n kBy then
      match words L n kBy with
      | none => .error n
      | some ws =>
        match colOf ts al (ws.headD []) with
        | some a =>
          if ws.length == 1 && !gs.contains a then
            if ((aliasOf ts al a.1).map fun t => (optCols t).contains a.2) == some false then
              if gs.length + 1 ≤ 3 then groupLoop f (n + 1) (gs ++ [a]) else .error n
            else .error n
          else .error n
        | none => .error n
    else .ok (gs, n)
def readMeasure (n : Nat) (t : Tbl) : Except Nat (Option T × Nat) :=
  if begins L n kSum then
    match words L n kSum with
    | none => .error n
    | some ws => if ws.length == 1 && (t.cols.contains (ws.headD []) && !(optCols t).contains (ws.headD [])) then .ok (some (ws.headD []), n + 1) else .error n
  else if exactly L n kRows then .ok (none, n + 1) else .error n
end
def parseRep (L : List T) (ts : List Tbl) : Except Nat Rep :=
  match newName L 0 kReport [] with
  | .error e => .error e
  | .ok name =>
    match aliasLoop L ts 5 1 [] with
    | .error e => .error e
    | .ok (al, n1) =>
      match linkLoop L ts al 21 n1 [] with
      | .error e => .error e
      | .ok (ls, n2) =>
        match filterLoop L ts al 6 n2 [] with
        | .error e => .error e
        | .ok (fs, n3) =>
          match groupLoop L ts al 4 n3 [] with
          | .error e => .error e
          | .ok (gs, n4) =>
            match tabOf ts ((al.map (·.2)).headD []) with
            | none => .error n4
            | some t =>
              match readMeasure L n4 t with
              | .error e => .error e
              | .ok (me, n5) => if exactly L n5 kEnd then (if n5 + 1 == L.length then .ok ⟨name, al, ls, fs, gs, me⟩ else .error (n5 + 1)) else .error n5
def colW (c : Col) : T := c.1 ++ ([46] ++ c.2)
def aliasRow (first : Bool) (p : T × T) : T := (if first then kFrom else kJoin) ++ (p.2 ++ ([32] ++ p.1))
def linkRow (l : Col × Col) : T := kLink ++ (colW l.1 ++ ([32, 61, 32] ++ colW l.2))
def filterRow (f : Col × Nat) : T := kWhere ++ (colW f.1 ++ ([32, 61, 32] ++ TL.numL f.2))
def groupRow (c : Col) : T := kBy ++ colW c
def aliasRows : List (T × T) → List T
  | [] => []
  | p :: r => aliasRow true p :: r.map (aliasRow false)
def repRows (r : Rep) : List T := [kReport ++ r.name] ++ (aliasRows r.aliases ++ (r.links.map linkRow ++ (r.filters.map filterRow ++ (r.groups.map groupRow ++ [match r.measure with
  | none => kRows
  | some m => kSum ++ m] ++ [kEnd]))))
def repText (r : Rep) : T := joinT [10] (repRows r)
end Cn
set_option Elab.async false
set_option linter.all false
set_option maxRecDepth 100000
set_option maxHeartbeats 2000000
/-! Cn.B9: texts and lists of texts that are put together. -/
namespace Cn
open PySem L2
abbrev addR : R2 := fun x y H Q => ∃ i j, x = V.str i ∧ y = V.str j ∧ i.length + j.length ≤ sizeLine ∧ Q (V.str (i ++ j)) H
/-- a text, by parts that change nothing -/
def Pt (te : TE) (σ : L2.St) (l : T) (n : Nat) : Prop := l.length ≤ n ∧ ∀ (H : Hp) (Q : VK), Q (sv l) H → te σ H Q
def PtL (t : TA) (σ : L2.St) (ls : List T) (n : Nat) : Prop := (∀ l ∈ ls, l.length ≤ n) ∧ ∀ (H : Hp) (Q : List V → Hp → Prop), Q (svs ls) H → t σ H Q
/-- a text; new things may be made -/
def GvT (te : TE) (σ : L2.St) (H : Hp) (l : T) : Prop := ∀ Q : VK, (∀ H', But [] H H' → Q (sv l) H') → te σ H Q
/-- a list of texts -/
def GvL (te : TE) (σ : L2.St) (H : Hp) (ls : List T) : Prop := ∀ Q : VK, (∀ H' a, But [] H H' → H' a = some (.lst (svs ls)) → Q (.ref a) H') → te σ H Q
/-- .. a new one -/
def MkL (te : TE) (σ : L2.St) (H : Hp) (ls : List T) : Prop := ∀ Q : VK, (∀ H' a, But [] H H' → H a = none → H' a = some (.lst (svs ls)) → Q (.ref a) H') → te σ H Q
section
variable {K : PySem.W.Frag} {σ : L2.St} {H : Hp} {ta tb te tl : TE} {t : TA} {l m : T} {ls ms : List T} {n k i : Nat}
theorem Pt.lit {s : Str} {l : T} {n : Nat} (e : s = S l := by rfl) (h : l.length ≤ n := by decide) : Pt (tC (.str s)) σ l n := ⟨h, fun H Q q => by subst e; exact q⟩
theorem Pt.var (h : σ[i]? = some (some (sv l))) (hl : l.length ≤ n) : Pt (tVar i) σ l n := ⟨hl, fun H Q q => ⟨_, h, q⟩⟩
theorem Pt.add (a : Pt ta σ l n) (b : Pt tb σ m k) (h : n + k ≤ 100000 := by decide) : Pt (tOp addR ta tb) σ (l ++ m) (n + k) := by
  refine ⟨by rw [List.length_append]; have := a.1; have := b.1; omega, fun H Q q => a.2 H _ (b.2 H _ ⟨S l, S m, rfl, rfl, szl ?_, ?_⟩)⟩
  · rw [S_len, S_len]; have := a.1; have := b.1; omega
  · rw [S_app]; exact q
theorem Pt.gv (a : Pt ta σ l n) : GvT ta σ H l := fun Q q => a.2 H _ (q H But.refl)
theorem PtL.nil : PtL tNil σ [] 0 := ⟨by simp, fun H Q q => q⟩
theorem PtL.cons (a : Pt ta σ l n) (b : PtL t σ ls k) : PtL (tCons ta t) σ (l :: ls) (n + k) := by
  refine ⟨fun x hx => ?_, fun H Q q => a.2 H _ (b.2 H _ q)⟩
  rcases List.mem_cons.mp hx with z | z
  · rw [z]; have := a.1; omega
  · have := b.1 x z; omega
theorem MkL.gv (a : MkL ta σ H ls) : GvL ta σ H ls := fun Q q => a _ fun H' p b _ e => q H' p b e
theorem MkL.dsp (a : PtL t σ ls n) (hz : ls.length ≤ 1000 := by first | decide | simp) : MkL (tLst t) σ H ls := fun Q q =>
  a.2 H _ ⟨szl (by rw [svs_len]; omega), fun p hp => q _ p (newB hp) hp upd_same⟩
theorem MkL.one (a : GvT te σ H l) : MkL (tLst (tCons te tNil)) σ H [l] := fun Q q =>
  a _ fun H' b => ⟨szl (by simp), fun p hp => q _ p (b.put0 (b.free hp (by simp))) (b.free hp (by simp)) upd_same⟩
theorem GvL.var {a : Addr} (h : σ[i]? = some (some (.ref a))) (e : H a = some (.lst (svs ls))) : GvL (tVar i) σ H ls := fun Q q => ⟨_, h, q H a But.refl e⟩
theorem MkL.cat (a : GvL ta σ H ls) (b : ∀ H', But [] H H' → GvL tb σ H' ms) (hz : ls.length + ms.length ≤ 1000 := by first | decide | simp) : MkL (tOp rCat ta tb) σ H (ls ++ ms) := fun Q q =>
  a _ fun H1 p b1 e1 => b H1 b1 _ fun H2 r b2 e2 => ⟨p, r, svs ls, svs ms, rfl, rfl, b2.at e1, e2, szl (by rw [svs_len, svs_len]; omega), fun x hx => by
    have bb := b1.trans b2
    have hx0 : H x = none := bb.free hx (by simp)
    exact q _ x (bb.put0 hx0) hx0 (by rw [upd_same, svs_app])⟩
theorem lcG {J : It} {xs : List T} {f : T → T} {Q : VK} {H0 H : Hp} (b0 : But [] H0 H) {G : Hp → Prop} (w : Walk J (svs xs).length G (YAt (svs xs))) (hG : ∀ H', But [] H H' → G H') (hw : ∀ v, wipe ((wipe σ [i]).set i v) [i] = wipe σ [i]) (he : ∀ x ∈ xs, Pt te ((wipe σ [i]).set i (some (sv x))) (f x) n) (hz : xs.length ≤ 1000)
    (q : ∀ H' a, But [] H0 H' → H0 a = none → H' a = some (.lst (svs (xs.map f))) → Q (.ref a) H') (D : Addr) (hD : H D = none) : ∃ W : Nat → Nat → Hp → Prop, (∃ m, W 0 m (upd H D (.lst []))) ∧ ∀ i' m H, W i' m H →
  (J.stop i' H ∧ Q (.ref D) H) ∨ (J.go i' H ∧ ∃ Nx : Hp → Prop, (∀ H', Nx H' → ∃ m', m' < m ∧ W (i' + 1) m' H') ∧ ∀ x H', J.yld i' H x H' → gName i x (wipe σ [i]) H' fun σ2 H2 => wipe σ2 [i] = wipe σ [i] ∧ tYes σ2 H2 fun b H3 =>
    if b = true then te σ2 H3 fun y H4 => ∃ acc, H4 D = some (.lst acc) ∧ acc.length < sizeLine ∧ Nx (upd H4 D (.lst (acc ++ [y]))) else Nx H3) := by
  refine lc_pure (svs xs) (fun v => match v with
    | .str a => some (sv (f (TL.tl a)))
    | _ => none) w rfl yat (fun acc => hG _ (newB hD)) (fun j x acc N hx hl hy _ => ?_) ?_
  · obtain ⟨r, hr, rfl⟩ := svs_get hx
    refine ⟨hw _, ?_⟩
    refine (he r (List.mem_of_getElem? hr)).2 _ _ (lc_put (szt ?_) (hy _ rfl))
    have := (List.getElem?_eq_some_iff.mp hr).1
    omega
  · have hD0 : H0 D = none := b0.free hD (by simp)
    refine q _ D (b0.put0 hD0) hD0 ?_
    rw [upd_same]
    congr 2
    unfold svs
    rw [List.filterMap_map, List.map_map]
    show xs.filterMap (some ∘ fun x => sv (f x)) = xs.map (fun x => sv (f x))
    rw [List.filterMap_eq_map]
theorem MkL.lc {xs : List T} {f : T → T} (h : GvL tl σ H xs) (he : ∀ x ∈ xs, Pt te ((wipe σ [i]).set i (some (sv x))) (f x) n) (hw : ∀ v, wipe ((wipe σ [i]).set i v) [i] = wipe σ [i]) (hz : xs.length ≤ 1000 := by first | decide | simp) :
    MkL (tLc (iList K tl) (gName i) tYes te [i]) σ H (xs.map f) := fun Q q =>
  h _ fun H1 a b1 e => ⟨a, rfl, ⟨_, SqL.of e⟩, fun D hD => lcG b1 (walk_list (K := K) (a := a) (xs := svs xs)) (fun H' b => SqL.of (b.at e)) hw he hz q D hD⟩
theorem chs_svs (l : T) : chs l = svs (l.map fun c => [c]) := by
  unfold chs svs
  rw [List.map_map]; rfl
theorem MkL.lcS {w : T} {f : T → T} (h : Pt tl σ w k) (he : ∀ x ∈ w.map (fun c => [c]), Pt te ((wipe σ [i]).set i (some (sv x))) (f x) n) (hw : ∀ v, wipe ((wipe σ [i]).set i v) [i] = wipe σ [i]) (hz : w.length ≤ 1000 := by first | decide | simp) :
    MkL (tLc (iStr tl) (gName i) tYes te [i]) σ H ((w.map fun c => [c]).map f) := fun Q q =>
  h.2 H _ ⟨S w, rfl, fun D hD => lcG But.refl (by rw [← chs_svs]; exact walk_S) (fun H' b => trivial) hw he (by rw [List.length_map]; exact hz) q D hD⟩
abbrev joinR (K : PySem.W.Frag) : V → List V → Hp → VK → Prop := fun x xs H Q => ∃ a p ys, x = V.str a ∧ xs = [V.ref p] ∧ (SqL K H p (List.map V.str ys) ∨ SqT K H p (List.map V.str ys)) ∧ (List.map (fun x => x.length) ys).sum + ys.length * a.length ≤ 16777216 ∧ Q (V.str (Txt.join a ys)) H
theorem GvT.join {c : Nat} (h : GvL tl σ H ls) (ht : Pt tb σ [c] k) (hz : (ls.map List.length).sum + ls.length ≤ 100000 := by first | decide | simp) : GvT (tM1 (joinR K) tb tl) σ H (joinT [c] ls) := fun Q q =>
  ht.2 H _ ⟨⟨_, rfl⟩, h _ fun H1 a b e => ⟨S [c], a, ls.map S, rfl, rfl, .inl (by rw [← svs_str]; exact SqL.of e), by
    have e1 : ((ls.map S).map fun x => x.length).sum = (ls.map List.length).sum := by rw [List.map_map]; congr 1
    rw [e1, List.length_map, S_len]
    simp
    omega, by rw [join_S]; exact q H1 b⟩⟩
end
end Cn
set_option Elab.async false
set_option linter.all false
set_option maxRecDepth 100000
set_option maxHeartbeats 2000000
/-! Cn.B10: statements that gather texts. -/
namespace Cn
open PySem L2
/-- a pair (number, list of texts) in the list at F -/
def PairR (F : Addr) (H : Hp) (v : V) (p : Nat × List T) : Prop := ∃ a l, v = .ref a ∧ H a = some (.tup [.int (p.1 : Nat), .ref l]) ∧ H l = some (.lst (svs p.2)) ∧ l ≠ F
def FoundR (H : Hp) (F : Addr) (ps : List (Nat × List T)) : Prop := ∃ vs, H F = some (.lst vs) ∧ Each (PairR F H) vs ps
section
variable {K : PySem.W.Frag} {σ : L2.St} {H : Hp} {ta tb te tl : TE} {t : TA} {l : T} {ls : List T} {n k i fi : Nat} {D : Ends} {F : Addr} {ps : List (Nat × List T)} {d : Nat}
theorem tyLs {K : PySem.W.Frag} {H : Hp} {l : Addr} {xs : List V} (h : H l = some (.lst xs)) : tyV K "list" (.ref l) H := Or.inl ⟨rfl, _, Or.inl (Or.inl h)⟩
theorem st_app (hσ : σ[fi]? = some (some (.ref F))) (hF : H F = some (.lst (svs ls))) (ht : GvT te σ H l) (hz : ls.length ≤ 1000) (k : ∀ H', But [F] H H' → H' F = some (.lst (svs (ls ++ [l]))) → D.nx σ H') :
    tDrop (tBM K "list" rAppend (tVar fi) (tCons te tNil)) D σ H :=
  ⟨_, hσ, tyLs hF, ht _ fun H1 b => ⟨F, svs ls, sv l, rfl, rfl, b.at hF, szt (by rw [svs_len]; omega), k _ ((But.of b).put (by simp)) (by rw [upd_same, svs_app]; rfl)⟩⟩
theorem st_for {rows : List T} {f : T → T} {v0 : Option V} (h : MkL tl σ H rows) (he : ∀ row ∈ rows, Pt te (σ.set i (some (sv row))) (f row) n) (hσ : σ[fi]? = some (some (.ref F))) (hne : i ≠ fi) (h0 : σ.set i v0 = σ) (hF : H F = some (.lst (svs ls))) (hz : ls.length + rows.length ≤ 1000)
    (k : ∀ H' v, But [F] H H' → H' F = some (.lst (svs (ls ++ rows.map f))) → D.nx (σ.set i v) H') :
    tFor (iList K tl) (gName i) (tDrop (tBM K "list" rAppend (tVar fi) (tCons te tNil))) D σ H := by
  refine h _ fun H1 a b1 na e1 => ⟨a, rfl, ⟨_, SqL.of e1⟩, ?_⟩
  have nF : a ≠ F := fun z => by rw [z, hF] at na; cases na
  refine for_it (walk_list (K := K) (a := a) (xs := svs rows)) (fun j σ' H' => ∃ v, σ' = σ.set i v ∧ But [F] H H' ∧ H' a = some (.lst (svs rows)) ∧ H' F = some (.lst (svs (ls ++ (rows.take j).map f)))) ⟨v0, h0.symm, But.of b1, e1, by rw [b1.at hF]; simp⟩
    (fun j σ' H' _ ⟨_, _, _, z, _⟩ => SqL.of z) (fun j x σ' H2 H2' hj ⟨v, es, b2, ha2, hF2⟩ y => ?_) (fun σ' H2 ⟨v, es, b2, ha2, hF2⟩ => ?_)
  · obtain ⟨rfl, hx⟩ := y
    obtain ⟨row, hrow, rfl⟩ := svs_get hx
    subst es
    have e2 : (σ.set i v).set i (some (sv row)) = σ.set i (some (sv row)) := List.set_set ..
    have ln : j < rows.length := (List.getElem?_eq_some_iff.mp hrow).1
    show tDrop (tBM K "list" rAppend (tVar fi) (tCons te tNil)) _ ((σ.set i v).set i (some (sv row))) H2'
    rw [e2]
    refine st_app (F := F) (ls := ls ++ (rows.take j).map f) (l := f row) (by rw [List.getElem?_set_ne hne]; exact hσ) hF2 (he row (List.mem_of_getElem? hrow)).gv (by rw [List.length_append, List.length_map, List.length_take]; omega) fun H3 b3 h3 => ⟨_, rfl, b2.trans b3, b3.at1 ha2 nF, ?_⟩
    have st : rows.take (j + 1) = rows.take j ++ [row] := by rw [List.take_add_one, hrow]; rfl
    rw [h3, st, List.map_append, List.append_assoc]; rfl
  · subst es
    rw [svs_len, List.take_length] at hF2
    exact k H2 v b2 hF2
theorem PairR.keep {H H' : Hp} {v : V} {p : Nat × List T} {xs : List V} (h : PairR F H v p) (b : But [F] H H') (hF : H F = some (.lst xs)) : PairR F H' v p := by
  obtain ⟨a, l, e, h1, h2, h3⟩ := h
  exact ⟨a, l, e, b.at1 h1 (fun z => by rw [z, hF] at h1; cases h1), b.at1 h2 h3, h3⟩
theorem FoundR.keep {H H' : Hp} (h : FoundR H F ps) (b : But [] H H') : FoundR H' F ps := by
  obtain ⟨vs, e, h⟩ := h
  exact ⟨vs, b.at e, h.mono fun _ _ z => z.keep (But.of b) e⟩
theorem lst1 {Q : VK} (h : te σ H fun x H1 => [x].length ≤ sizeLine ∧ ∀ p, H1 p = none → Q (.ref p) (upd H1 p (.lst [x]))) : tLst (tCons te tNil) σ H Q := h
/-- a new pair -/
theorem mk_pair {texts : List T} {Q : VK} (ht : MkL tl σ H texts) (q : ∀ H' a l, But [] H H' → H a = none → H l = none → H' a = some (.tup [.int (d : Nat), .ref l]) → H' l = some (.lst (svs texts)) → Q (.ref a) H') : tTup (tCons (tC (.int (d : Nat))) (tCons tl tNil)) σ H Q :=
  ht _ fun H1 l b nl e => ⟨szl (by simp), fun a ha => q _ a l (b.put0 (b.free ha (by simp))) (b.free ha (by simp)) nl upd_same ((newB ha).at e)⟩
theorem st_pair {texts : List T} (hσ : σ[fi]? = some (some (.ref F))) (hF : FoundR H F ps) (ht : MkL tl σ H texts) (k : ∀ H', But [F] H H' → FoundR H' F (ps ++ [(d, texts)]) → D.nx σ H') (hz : ps.length ≤ 1000 := by first | decide | simp) :
    tDrop (tBM K "list" rAppend (tVar fi) (tCons (tTup (tCons (tC (.int (d : Nat))) (tCons tl tNil))) tNil)) D σ H := by
  obtain ⟨vs, e, h⟩ := hF
  refine ⟨_, hσ, tyLs e, mk_pair ht fun H1 a l b na nl ha hl => ⟨F, vs, .ref a, rfl, rfl, b.at e, szt (by have := h.1; omega), ?_⟩⟩
  have nlF : l ≠ F := fun z => by rw [z, e] at nl; cases nl
  have naF : a ≠ F := fun z => by rw [z, e] at na; cases na
  have b1 : But [F] H (upd H1 F (.lst (vs ++ [.ref a]))) := (But.of b).put (by simp)
  exact k _ b1 ⟨_, upd_same, (h.mono fun _ _ z => z.keep b1 e).snoc ⟨a, l, rfl, by rw [upd_ne naF]; exact ha, by rw [upd_ne nlF]; exact hl, nlF⟩⟩
theorem st_pair0 {texts : List T} (ht : MkL tl σ H texts) (k : ∀ H' F, But [] H H' → H F = none → FoundR H' F [(d, texts)] → D.nx (σ.set fi (some (.ref F))) H') :
    tAsg (tLst (tCons (tTup (tCons (tC (.int (d : Nat))) (tCons tl tNil))) tNil)) (gName fi) D σ H :=
  show tLst (tCons (tTup (tCons (tC (.int (d : Nat))) (tCons tl tNil))) tNil) σ H _ from lst1 <| mk_pair ht fun H1 a l b na nl ha hl => ⟨szl (by simp), fun F hF => by
    have b1 : But [] H1 (upd H1 F (.lst [.ref a])) := newB hF
    have nlF : l ≠ F := fun z => by rw [← z, hl] at hF; cases hF
    exact k _ F (b.trans b1) (b.free hF (by simp)) ⟨_, upd_same, (Each.nil (R := PairR F _)).snoc ⟨a, l, rfl, b1.at ha, b1.at hl, nlF⟩⟩⟩
theorem st_pairR {texts : List T} (hσ : σ[fi]? = some (some (.ref F))) (hF : FoundR H F ps) (ht : MkL tl σ H texts) (k : ∀ H' R, But [] H H' → FoundR H' R (ps ++ [(d, texts)]) → D.rt (.ref R) H') (hz : ps.length ≤ 1000 := by first | decide | simp) :
    tRet (tOp rCat (tVar fi) (tLst (tCons (tTup (tCons (tC (.int (d : Nat))) (tCons tl tNil))) tNil))) D σ H := by
  obtain ⟨vs, e, h⟩ := hF
  refine ⟨_, hσ, ?_⟩
  show tLst (tCons (tTup (tCons (tC (.int (d : Nat))) (tCons tl tNil))) tNil) σ H _
  refine lst1 <| mk_pair ht fun H1 a l b na nl ha hl => ⟨szl (by simp), fun G hG => ?_⟩
  have b1 : But [] H1 (upd H1 G (.lst [.ref a])) := newB hG
  refine ⟨F, G, vs, [.ref a], rfl, rfl, b1.at (b.at e), upd_same, szl (by have := h.1; simp; omega), fun R hR => ?_⟩
  have b2 : But [] (upd H1 G (.lst [.ref a])) (upd (upd H1 G (.lst [.ref a])) R (.lst (vs ++ [.ref a]))) := newB hR
  have b3 := (b.trans b1).trans b2
  have ne : ∀ {x : Addr} {o : HO}, H1 x = some o → x ≠ R := fun {x o} q z => by rw [← z, b1.at q] at hR; cases hR
  refine k _ R b3 ⟨_, upd_same, ?_⟩
  have h2 : Each (PairR R (upd (upd H1 G (.lst [.ref a])) R (.lst (vs ++ [.ref a])))) vs ps := h.mono fun _ _ ⟨x, y, q1, q2, q3, _⟩ => ⟨x, y, q1, b3.at q2, b3.at q3, ne (b.at q3)⟩
  exact h2.snoc ⟨a, l, rfl, b2.at (b1.at ha), b2.at (b1.at hl), ne hl⟩
end
end Cn
namespace Cn
open PySem L2
def upT (l : T) : T := l.map (· - 32)
abbrev upR : V → List V → Hp → VK → Prop := fun x xs H Q => ∃ a, x = V.str a ∧ xs = [] ∧ a.length ≤ 5592405 ∧ Q (V.str (Txt.upper a)) H
section
variable {K : PySem.W.Frag} {σ : L2.St} {H : Hp} {ta tb te tl : TE} {t u : TS} {l : T} {ls : List T} {n i j : Nat} {D : Ends}
theorem Pt.upper (h : Pt te σ l n) (hup : Txt.upper (S l) = S (upT l)) (hz : n ≤ 5592405 := by decide) : Pt (tM0 upR te) σ (upT l) n := by
  refine ⟨by unfold upT; rw [List.length_map]; exact h.1, fun H Q q => h.2 H _ ⟨⟨_, rfl⟩, S l, rfl, rfl, ?_, ?_⟩⟩
  · rw [S_len]; have := h.1; omega
  · rw [hup]; exact q
theorem sq (h : t { D with nx := u D } σ H) : tSeq t u D σ H := h
theorem st_txt (h : Pt te σ l n) (k : D.nx (σ.set i (some (sv l))) H) : tAsg te (gName i) D σ H := h.2 H _ k
theorem st_mk (h : MkL te σ H ls) (k : ∀ H' a, But [] H H' → H a = none → H' a = some (.lst (svs ls)) → D.nx (σ.set i (some (.ref a))) H') : tAsg te (gName i) D σ H := h _ k
theorem st_ret (h : MkL te σ H ls) (k : ∀ H' a, But [] H H' → H a = none → H' a = some (.lst (svs ls)) → D.rt (.ref a) H') : tRet te D σ H := h _ k
theorem st_two {a b : V} (k : ∀ H', But [] H H' → D.nx ((σ.set i (some a)).set j (some b)) H') : tAsg (tTup (tCons (tC a) (tCons (tC b) tNil))) (gTup K 2 (gCons (gName i) (gCons (gName j) gNil))) D σ H :=
  ⟨szl (by simp), fun p hp => ⟨p, [a, b], rfl, SqT.of upd_same, rfl, _, _, rfl, _, _, rfl, rfl, k _ (newB hp)⟩⟩
end
end Cn
namespace Cn
open PySem L2
section
variable {K : PySem.W.Frag} {σ : L2.St} {H : Hp} {ta tb te tl : TE} {u : TS} {l : T} {ls : List T} {n i j fi : Nat} {D : Ends} {F : Addr} {ps : List (Nat × List T)} {d : Nat}
theorem sq_txt (h : Pt te σ l n) (k : u D (σ.set i (some (sv l))) H) : tSeq (tAsg te (gName i)) u D σ H := h.2 H _ k
theorem sq_mk (h : MkL te σ H ls) (k : ∀ H' a, But [] H H' → H a = none → H' a = some (.lst (svs ls)) → u D (σ.set i (some (.ref a))) H') : tSeq (tAsg te (gName i)) u D σ H := h _ k
theorem sq_two {a b : V} (k : ∀ H', But [] H H' → u D ((σ.set i (some a)).set j (some b)) H') : tSeq (tAsg (tTup (tCons (tC a) (tCons (tC b) tNil))) (gTup K 2 (gCons (gName i) (gCons (gName j) gNil)))) u D σ H := st_two (D := { D with nx := u D }) k
theorem sq_app (hσ : σ[fi]? = some (some (.ref F))) (hF : H F = some (.lst (svs ls))) (ht : GvT te σ H l) (hz : ls.length ≤ 1000) (k : ∀ H', But [F] H H' → H' F = some (.lst (svs (ls ++ [l]))) → u D σ H') :
    tSeq (tDrop (tBM K "list" rAppend (tVar fi) (tCons te tNil))) u D σ H := st_app (D := { D with nx := u D }) hσ hF ht hz k
theorem sq_for {rows : List T} {f : T → T} {v0 : Option V} (h : MkL tl σ H rows) (he : ∀ row ∈ rows, Pt te (σ.set i (some (sv row))) (f row) n) (hσ : σ[fi]? = some (some (.ref F))) (hne : i ≠ fi) (h0 : σ.set i v0 = σ) (hF : H F = some (.lst (svs ls))) (hz : ls.length + rows.length ≤ 1000)
    (k : ∀ H' v, But [F] H H' → H' F = some (.lst (svs (ls ++ rows.map f))) → u D (σ.set i v) H') :
    tSeq (tFor (iList K tl) (gName i) (tDrop (tBM K "list" rAppend (tVar fi) (tCons te tNil)))) u D σ H := st_for (D := { D with nx := u D }) h he hσ hne h0 hF hz k
theorem sq_pair {texts : List T} (hσ : σ[fi]? = some (some (.ref F))) (hF : FoundR H F ps) (ht : MkL tl σ H texts) (k : ∀ H', But [F] H H' → FoundR H' F (ps ++ [(d, texts)]) → u D σ H') (hz : ps.length ≤ 1000 := by first | decide | simp) :
    tSeq (tDrop (tBM K "list" rAppend (tVar fi) (tCons (tTup (tCons (tC (.int (d : Nat))) (tCons tl tNil))) tNil))) u D σ H := st_pair (D := { D with nx := u D }) hσ hF ht k hz
theorem sq_pair0 {texts : List T} (ht : MkL tl σ H texts) (k : ∀ H' F, But [] H H' → H F = none → FoundR H' F [(d, texts)] → u D (σ.set fi (some (.ref F))) H') :
    tSeq (tAsg (tLst (tCons (tTup (tCons (tC (.int (d : Nat))) (tCons tl tNil))) tNil)) (gName fi)) u D σ H := st_pair0 (D := { D with nx := u D }) ht k
end
end Cn
set_option Elab.async false
set_option linter.all false
set_option maxRecDepth 100000
set_option maxHeartbeats 2000000
/-! Cn.B25: what reports need: in over nested data, numbers' texts, a text at its first dot. -/
namespace Cn
open PySem PySem.Spec PyProof.Rows L2
theorem hu1 {k : Nat} {A : Around} (hr : Room k A) : A.units + 1 < cLine := by have := hr.units; omega
theorem hu64 {k : Nat} {A : Around} (hr : Room k A) : A.units + 64 < cLine := by have := hr.units; omega
section
variable {X : Cx}
def rNotInT (K : PySem.W.Frag) : R2 := fun x y H Q => ∃ d ds, Dp K H x d ∧ Dp K H y (.tuple ds) ∧ d.canLay0 = true ∧ PyData.canLayAll0 ds = true ∧ min (PyData.depthAll ds) d.depth ≤ 8 ∧ Q (.bl (!ds.any fun z => PyData.eqv z d)) H
theorem op_notInDTK (K : PySem.W.Frag) (hK : X.K = K) (hu : X.A.units + 64 < cLine) : OpR X (compareOp .NotIn) (rNotInT K) := by
  subst hK
  intro pins s σ H x y v u Q I rx ry h
  obtain ⟨d, ds, hd, he, sd, se, sm, q⟩ := h
  obtain ⟨as, r1⟩ := Dp.reads I d x v hd rx
  obtain ⟨bs, r2⟩ := Dp.reads I (.tuple ds) y u he ry
  exact SeqAt.notIn_tuple_reads r2 r1 se sd (by omega) ⟨.bl _, H, I, rfl, q⟩
def rNotInL (K : PySem.W.Frag) : R2 := fun x y H Q => ∃ d ds, Dp K H x d ∧ Dp K H y (.list ds) ∧ d.canLay0 = true ∧ PyData.canLayAll0 ds = true ∧ min (PyData.depthAll ds) d.depth ≤ 8 ∧ Q (.bl (!ds.any fun z => PyData.eqv z d)) H
theorem op_notInDK (K : PySem.W.Frag) (hK : X.K = K) (hu : X.A.units + 64 < cLine) : OpR X (compareOp .NotIn) (rNotInL K) := by
  subst hK
  intro pins s σ H x y v u Q I rx ry h
  obtain ⟨d, ds, hd, he, sd, se, sm, q⟩ := h
  obtain ⟨as, r1⟩ := Dp.reads I d x v hd rx
  obtain ⟨bs, r2⟩ := Dp.reads I (.list ds) y u he ry
  exact SeqAt.notIn_list_reads r2 r1 se sd (by omega) ⟨.bl _, H, I, rfl, q⟩
end
theorem pg_tupQ {X : Cx} (K : PySem.W.Frag) (hK : X.K = K) {es : List Expr} {k : Nat} {t : TGs} {n : Nat} {pos : Pos} (hc : X.calm = true) (h : PGs X es t) (hn : (assignEach es X.env).length = n := by rfl) (hst : (assignEach es X.env).findIdx? (·.1) = none := by rfl) :
    PG X (.Tuple es k pos) (gTup K n t) := by subst hK; exact pg_tup hc h hn hst
/-! ### numbers -/
theorem str_numL (n : Nat) : Str.ofString (toString ((n : Nat) : Int)) = S (TL.numL n) := S_eq _ (TL.tl_num n)
theorem int_of {w : T} (h : (w.all fun c => decide (48 ≤ c) && decide (c ≤ 57)) = true) (h1 : w ≠ []) (h2 : w.length ≤ 640) : PySem.intText? (S w) = some ((NumText.digitsVal w : Nat) : Int) := by
  have e : (S w).cps.toList = w := tl_S w
  have a : NumText.AllDigits w := fun c hc => by
    have := List.all_eq_true.mp h c hc
    rw [Bool.and_eq_true, decide_eq_true_eq, decide_eq_true_eq] at this
    exact this
  have := PySem.intText_digits (x := S w) (by rw [e]; exact a) (by rw [e]; exact h1) (by rw [S_len]; omega)
  rw [e] at this
  exact this
theorem digits_fold : ∀ (w : T) (acc : Nat), (w.all fun c => decide (48 ≤ c) && decide (c ≤ 57)) = true → w.foldl (fun acc c => acc * 10 + (c - 48)) acc < (acc + 1) * 10 ^ w.length
  | [], acc, _ => by simp
  | c :: w, acc, h => by
    rw [List.all_cons, Bool.and_eq_true, Bool.and_eq_true, decide_eq_true_eq, decide_eq_true_eq] at h
    have ih := digits_fold w (acc * 10 + (c - 48)) h.2
    have h2 : (acc * 10 + (c - 48) + 1) * 10 ^ w.length ≤ (acc + 1) * 10 * 10 ^ w.length := Nat.mul_le_mul_right _ (by omega)
    rw [List.foldl_cons, List.length_cons, Nat.pow_succ, Nat.mul_comm (10 ^ w.length) 10, ← Nat.mul_assoc]
    omega
theorem digits_lt (w : T) (h : (w.all fun c => decide (48 ≤ c) && decide (c ≤ 57)) = true) : NumText.digitsVal w < 10 ^ w.length := by
  have := digits_fold w 0 h
  rw [Nat.zero_add, Nat.one_mul] at this
  exact this
/-! ### the first dot -/
theorem cutAt_app {c : Nat} {b : T} : ∀ {a : T}, c ∉ a → cutAt c (a ++ c :: b) = (a, b)
  | [], _ => by simp [cutAt]
  | x :: a, h => by
    have h1 : (x == c) = false := beq_eq_false_iff_ne.mpr fun z => h (by rw [z]; simp)
    have ih := cutAt_app (b := b) (a := a) fun z => h (List.mem_cons_of_mem _ z)
    show (if (x == c) = true then _ else _) = _
    rw [if_neg (by rw [h1]; exact Bool.false_ne_true)]
    show (x :: (cutAt c (a ++ c :: b)).1, (cutAt c (a ++ c :: b)).2) = _
    rw [ih]
theorem cutAt_none {c : Nat} : ∀ {a : T}, c ∉ a → cutAt c a = (a, [])
  | [], _ => rfl
  | x :: a, h => by
    have h1 : (x == c) = false := beq_eq_false_iff_ne.mpr fun z => h (by rw [z]; simp)
    have ih := cutAt_none (a := a) fun z => h (List.mem_cons_of_mem _ z)
    show (if (x == c) = true then _ else _) = _
    rw [if_neg (by rw [h1]; exact Bool.false_ne_true), ih]
theorem split_dot (w : T) : ∃ m, Txt.partition (S w) (S [46]) = (S (cutAt 46 w).1, S m, S (cutAt 46 w).2) := by
  have ey : TL.tl (S [46]) = 46 :: [] := rfl
  by_cases h : 46 ∈ w
  · obtain ⟨a, b, rfl, ha⟩ := List.eq_append_cons_of_mem h
    rw [cutAt_app ha]
    refine ⟨[46], ?_⟩
    have e := TL.partition_app (y := S [46]) ey (a := S a) (b := S b) ha
    rw [S_app, S_app] at e
    have e2 : a ++ [46] ++ b = a ++ 46 :: b := by simp
    rw [e2] at e
    exact e
  · rw [cutAt_none h]
    exact ⟨[], TL.partition_none (y := S [46]) ey (a := S w) h⟩
theorem sq_guard {tt : TT} {x u : TS} {D : Ends} {σ : L2.St} {H : Hp} (c : Bool) (h : ∀ Q' : Bool → Hp → Prop, (∀ H', But [] H H' → Q' c H') → tt σ H Q') (ky : c = true → ∀ H', But [] H H' → x { D with nx := u D } σ H') (kn : c = false → ∀ H', But [] H H' → u D σ H') : tSeq (tIfS tt x tNext) u D σ H :=
  h _ fun H' b => by
    cases c with
    | true => exact iteT (ky rfl H' b)
    | false => exact iteF (kn rfl H' b)
theorem if_guard {tt : TT} {x : TS} {D : Ends} {σ : L2.St} {H : Hp} (c : Bool) (h : ∀ Q' : Bool → Hp → Prop, (∀ H', But [] H H' → Q' c H') → tt σ H Q') (ky : c = true → ∀ H', But [] H H' → x D σ H') (kn : c = false → ∀ H', But [] H H' → D.nx σ H') : tIfS tt x tNext D σ H :=
  h _ fun H' b => by
    cases c with
    | true => exact iteT (ky rfl H' b)
    | false => exact iteF (kn rfl H' b)
end Cn
set_option Elab.async false
set_option linter.all false
set_option maxRecDepth 100000
set_option maxHeartbeats 4000000
/-! reports: numbers, columns -/
namespace Cn
open PySem L2
structure TxR (K : PySem.W.Frag) (mg : Str → Option Value) (CR CT CS CP : Addr) : Prop extends Txt K mg CR CT CS where
  b_int : mg "int" = none
  b_enumerate : mg "enumerate" = none
  clP : Cls K CP
  naP1 : NoAttr K CP "schema"
  naP2 : NoAttr K CP "name"
  naP3 : NoAttr K CP "aliases"
  naP4 : NoAttr K CP "links"
  naP5 : NoAttr K CP "filters"
  naP6 : NoAttr K CP "groups"
  naP7 : NoAttr K CP "measure"
  naP8 : NoAttr K CP "_text"
  g_Report : mg "Report" = some (.ref CP)
  g_HIGHEST : ∃ t, mg "HIGHEST" = some (.int 1000000000 t)
  g_MOST_ALIASES : ∃ t, mg "MOST_ALIASES" = some (.int 4 t)
  g_MOST_LINKS : ∃ t, mg "MOST_LINKS" = some (.int 20 t)
  g_MOST_FILTERS : ∃ t, mg "MOST_FILTERS" = some (.int 5 t)
  g_MOST_GROUPS : ∃ t, mg "MOST_GROUPS" = some (.int 3 t)
  nP : CP ≠ CR
section
variable {P : Program} {w : World} {K : PySem.W.Frag} {mg : Str → Option Value} {base : Heap} {CR CT CS CP CI : Addr} {f : Addr} {fd : FuncData}
theorem sc_is_number : FnScope ["word", "digit"] ["word"] (defScope s_is_number) := ⟨rfl, rfl, rfl, by decide +kernel, rfl, by decide +kernel, by decide +kernel⟩
theorem sc_optional_columns : FnScope ["table", "columns", "_", "required", "column"] ["table"] (defScope s_optional_columns) := ⟨rfl, rfl, rfl, by decide +kernel, rfl, by decide +kernel, by decide +kernel⟩
theorem sc_column_word : FnScope ["column", "alias", "name"] ["column"] (defScope s_column_word) := ⟨rfl, rfl, rfl, by decide +kernel, rfl, by decide +kernel, by decide +kernel⟩
theorem sc_column_of : FnScope ["word", "tables", "alias", "_", "name"] ["word", "tables"] (defScope s_column_of) := ⟨rfl, rfl, rfl, by decide +kernel, rfl, by decide +kernel, by decide +kernel⟩
def sp_is_number : Sp := fun vs H Q _ => ∃ l : Cn.T, vs = [sv l] ∧ l.length ≤ 1000000 ∧ ∀ H', But [] H H' → Q (.bl (isNumber l)) H'
theorem ok_is_number (F : Fun K "is_number" "is_number" s_is_number f fd) (T : TxR K mg CR CT CS CP) : FnOk P w K mg base (L2.CX P w) 1 f fd ["word"] sp_is_number := by
  refine F.okX sc_is_number (fun vs H Q E h => ?_) (fun cdv A outer s H vs Q E hr h => ?_)
  · obtain ⟨l, rfl, _⟩ := h
    rfl
  · obtain ⟨l, rfl, hz, k⟩ := h
    have hz' : (S l).length ≤ sizeLine := szl (by rw [S_len]; omega)
    refine ⟨_, (pss_cons (ps_if (PW.pt (pw_or (pt_cmpR op_lt (pe_callB call_len_str (by rfl) T.b_len (by decide +kernel) (pa_cons (pv 0) pa_nil)) pe_int (nomark _)) (pw_or1 (pt_cmpR op_gt (pe_callB call_len_str (by rfl) T.b_len (by decide +kernel) (pa_cons (pv 0) pa_nil)) pe_int (nomark _)))))
  (pss_one (ps_ret pe_bl))
  pss_nil)
  (pss_cons (ps_if (pt_not (pt_val (pe_callB (cr_allK K rfl (by rfl)) (by rfl) T.b_all (by decide +kernel) (pa_cons (pe_lc (own := [("digit", 1)]) (g := gName 1) (tt := tYes) (by rfl) sc_is_number.nd (pi_str (pv 0)) (blkOk_by (own := [("digit", 1)]) (N := ["word", "digit"]) (sc := (defScope s_is_number)) (by decide +kernel)) (fun _ _ _ _ _ => (pg_name (i := 1) sc_is_number.nd rfl (Or.inl rfl))) (fun _ _ _ _ _ => pts_nil) (fun _ _ _ _ _ => (pe_chain op_le_str op_le_str pe_str (pv 1) pe_str))) pa_nil))))
  (pss_one (ps_ret pe_bl))
  pss_nil)
  (pss_one (ps_ret (pe_and (pe_cmpR op_eq (pe_callTy call_str_int (by rfl) T.b_str (by decide +kernel) (pa_cons (pe_callTy call_int_str (by rfl) T.b_int (by decide +kernel) (pa_cons (pv 0) pa_nil)) pa_nil)) (pv 0) (nomark _)) (pe_one (pe_cmpR op_le (pe_callTy call_int_str (by rfl) T.b_int (by decide +kernel) (pa_cons (pv 0) pa_nil)) (p_gint T.g_HIGHEST) (nomark _)))))))), ?_⟩
    refine sq_guard (!(decide (1 ≤ l.length) && decide (l.length ≤ 10))) (fun Q' y => ?_) (fun hc H1 b1 => ?_) (fun hc H1 b1 => ?_)
    · refine ⟨_, rfl, S l, rfl, hz', _, _, rfl, rfl, _, rfl, ?_⟩
      rw [S_len]
      refine ite2 (fun h1 => ?_) (fun h1 => ?_)
      · have h1' : ¬ 1 ≤ l.length := by have := of_decide_eq_true h1; omega
        rw [decide_eq_false h1', Bool.false_and] at y
        exact y H But.refl
      · have h1' : 1 ≤ l.length := by
          by_cases z : (l.length : Int) < 1
          · exact absurd (decide_eq_true z) h1
          · omega
        rw [decide_eq_true h1', Bool.true_and] at y
        refine ⟨_, rfl, S l, rfl, hz', _, _, rfl, rfl, _, rfl, ?_⟩
        rw [S_len]
        have e : decide ((10 : Int) < (l.length : Int)) = !decide (l.length ≤ 10) := by
          by_cases z : l.length ≤ 10
          · rw [decide_eq_true z, decide_eq_false (by omega)]; rfl
          · rw [decide_eq_false z, decide_eq_true (by omega)]; rfl
        show Q' (decide ((10 : Int) < (l.length : Int))) H
        rw [e]
        exact y H But.refl
    · have e : isNumber l = false := by
        unfold isNumber
        revert hc
        cases decide (1 ≤ l.length) <;> cases decide (l.length ≤ 10) <;> simp
      rw [e] at k
      exact k H1 b1
    · have h12 : decide (1 ≤ l.length) = true ∧ decide (l.length ≤ 10) = true := by
        revert hc
        cases decide (1 ≤ l.length) <;> cases decide (l.length ≤ 10) <;> simp
      have l1 := of_decide_eq_true h12.1
      have l10 := of_decide_eq_true h12.2
      unfold isNumber at k
      rw [h12.1, h12.2, Bool.true_and, Bool.true_and] at k
      refine sq_guard (!(l.all fun c => decide (48 ≤ c) && decide (c ≤ 57))) (fun Q' y => ?_) (fun hc H2 b2 => ?_) (fun hc H2 b2 => ?_)
      · refine ⟨_, rfl, _, rfl, fun D hD => ?_⟩
        refine lc_pure (chs l) (fun v => match v with | .str z => some (.bl (decide (48 ≤ z.cps.toList.headD 0) && decide (z.cps.toList.headD 0 ≤ 57))) | _ => none) walk_S rfl yat (fun _ => trivial) (fun i x acc N hx hl hy _ => ?_) ?_
        · obtain ⟨c, hc, rfl⟩ : ∃ c, l[i]? = some c ∧ x = .str ⟨#[c]⟩ := by
            unfold chs at hx
            rw [List.getElem?_map] at hx
            cases e : l[i]? with
            | none => rw [e] at hx; cases hx
            | some c => rw [e] at hx; exact ⟨c, rfl, (Option.some.inj hx).symm⟩
          have hl' : acc.length < sizeLine := szt (by have := (List.getElem?_eq_some_iff.mp hc).1; omega)
          refine ⟨rfl, _, rfl, S [48], S [c], rfl, rfl, _, rfl, ?_⟩
          have e1 : (!decide ((S [c]).cps.toList < (S [48]).cps.toList)) = decide (48 ≤ c) := le_sign c 48
          have hy' := hy _ rfl
          rw [e1]
          refine ite2 (fun h3 => ?_) (fun h3 => ?_)
          · refine ⟨S [c], S [57], rfl, rfl, lc_put hl' ?_⟩
            have e2 : (!decide ((S [57]).cps.toList < (S [c]).cps.toList)) = decide (c ≤ 57) := le_sign 57 c
            rw [e2]
            have e3 : (decide (48 ≤ c) && decide (c ≤ 57)) = decide (c ≤ 57) := by rw [h3, Bool.true_and]
            rw [← e3]
            exact hy'
          · refine lc_put hl' ?_
            have e3 : (decide (48 ≤ c) && decide (c ≤ 57)) = false := by rw [Bool.not_eq_true] at h3; rw [h3, Bool.false_and]
            rw [← e3]
            exact hy'
        · refine ⟨D, l.map fun c => decide (48 ≤ c) && decide (c ≤ 57), rfl, .inl (.inl ?_), ?_⟩
          · rw [upd_same]
            congr 2
            unfold chs
            rw [List.filterMap_map, List.map_map, ← List.filterMap_eq_map]
            rfl
          · refine ⟨_, rfl, ?_⟩
            have e : ((l.map fun c => decide (48 ≤ c) && decide (c ≤ 57)).all id) = l.all fun c => decide (48 ≤ c) && decide (c ≤ 57) := by rw [List.all_map]; rfl
            rw [e]
            exact y _ (newB hD)
      · have e : (l.all fun c => decide (48 ≤ c) && decide (c ≤ 57)) = false := by rw [Bool.not_eq_true'] at hc; exact hc
        rw [e, Bool.false_and] at k
        exact k H2 (b1.trans b2)
      · have e : (l.all fun c => decide (48 ≤ c) && decide (c ≤ 57)) = true := by rw [Bool.not_eq_false'] at hc; exact hc
        rw [e, Bool.true_and] at k
        have hi := int_of e (fun z => by rw [z] at l1; simp at l1) (by omega)
        have hv := digits_lt l e
        have hv2 : NumText.digitsVal l < 10 ^ 10 := Nat.lt_of_lt_of_le hv (Nat.pow_le_pow_right (by decide) l10)
        have hz6 : (S l).length ≤ 640 := by rw [S_len]; omega
        refine ⟨_, rfl, S l, _, rfl, hi, hz6, ((NumText.digitsVal l : Nat) : Int), rfl, ?_, ?_⟩
        · rw [Int.natAbs_natCast]
          by_cases h0 : NumText.digitsVal l = 0
          · rw [h0]; decide
          · have : (NumText.digitsVal l).log2 < 40 := (Nat.log2_lt h0).mpr (Nat.lt_trans hv2 (by decide))
            omega
        · rw [str_numL]
          refine ⟨_, rfl, rfl, _, rfl, ?_⟩
          rw [sv_eq]
          cases hq : (TL.numL (NumText.digitsVal l) == l) with
          | false =>
            rw [hq, Bool.false_and] at k
            exact iteF (k H2 (b1.trans b2))
          | true =>
            rw [hq, Bool.true_and] at k
            refine iteT ⟨_, rfl, S l, _, rfl, hi, hz6, _, _, rfl, rfl, ?_⟩
            have e3 : decide (((NumText.digitsVal l : Nat) : Int) ≤ 1000000000) = decide (NumText.digitsVal l ≤ 1000000000) := by
              by_cases z : NumText.digitsVal l ≤ 1000000000
              · rw [decide_eq_true z, decide_eq_true (by omega)]
              · rw [decide_eq_false z, decide_eq_false (by omega)]
            show Q (.bl (decide (((NumText.digitsVal l : Nat) : Int) ≤ 1000000000))) H2
            rw [e3]
            exact k H2 (b1.trans b2)
/-! ### optional_columns -/
def sp_optcols (CT : Addr) : Sp := fun vs H Q _ => ∃ tb t, vs = [.ref tb] ∧ TblR CT H (.ref tb) t ∧ t.refs.length ≤ 2 ∧ (∀ r ∈ t.refs, r.1.length ≤ 3) ∧ ∀ H' l, But [] H H' → H l = none → H' l = some (.lst (svs (optCols t))) → Q (.ref l) H'
theorem ok_optcols (F : Fun K "optional_columns" "optional_columns" s_optional_columns f fd) (T : TxR K mg CR CT CS CP) : FnOk P w K mg base (L2.CX P w) 1 f fd ["table"] (sp_optcols CT) := by
  refine F.okX sc_optional_columns (fun vs H Q E h => ?_) (fun cdv A outer s H vs Q E hr h => ?_)
  · obtain ⟨_, _, rfl, _⟩ := h
    rfl
  · obtain ⟨tb, t, rfl, ht, h2, h3, k⟩ := h
    refine ⟨_, (pss_one (ps_ret (pe_lc2 (own := [("columns", 1), ("_", 2), ("required", 3), ("column", 4)]) (vs1 := [4]) (g1 := gName 4) (tt1 := tYes) (by rfl) sc_optional_columns.nd (pi_tupK K rfl (pe_fldK K rfl (pv 0) rfl)) (blkOk_by (own := [("columns", 1), ("_", 2), ("required", 3), ("column", 4)]) (N := ["table", "columns", "_", "required", "column"]) (sc := (defScope s_optional_columns)) (by decide +kernel)) (by decide) (fun _ _ _ _ _ => (pg_tupQ K rfl (n := 3) (by rfl) (pgs_cons (pg_name (i := 1) sc_optional_columns.nd rfl (Or.inl rfl)) (pgs_cons (pg_name (i := 2) sc_optional_columns.nd rfl (Or.inl rfl)) (pgs_cons (pg_name (i := 3) sc_optional_columns.nd rfl (Or.inl rfl)) pgs_nil))))) (fun _ _ _ _ _ => (pts_one (pt_not (pt_val (pv 3))))) (fun _ _ _ _ _ => (pi_tupK K rfl (pv 1))) (fun _ _ _ _ _ => (pg_name (i := 4) sc_optional_columns.nd rfl (Or.inl rfl))) (fun _ _ _ _ _ => pts_nil) (fun _ _ _ _ _ => (pv 4))))), ?_⟩
    obtain ⟨tb', dx, ca, ua, ra, ks, rs, etb, htb, _, _, _, hra, hrs⟩ := ht
    cases etb
    have room : ∀ xs : List (List Cn.T × Cn.T × Bool), (∀ r ∈ xs, r.1.length ≤ 3) → ((xs.filter fun r => !r.2.2).flatMap (·.1)).length ≤ 3 * xs.length := fun xs => by
      induction xs with
      | nil => intro _; simp
      | cons x r ih =>
        intro h
        have h1 := h x List.mem_cons_self
        have h4 := ih fun q hq => h q (List.mem_cons_of_mem _ hq)
        rw [List.filter_cons]
        split
        · rw [List.flatMap_cons, List.length_append, List.length_cons]; omega
        · rw [List.length_cons]; omega
    have room2 : ∀ i, (((t.refs.take i).filter fun r => !r.2.2).flatMap (·.1)).length ≤ 6 := fun i => by
      have h1 := room (t.refs.take i) fun q hq => h3 q (List.mem_of_mem_take hq)
      have h4 : (t.refs.take i).length ≤ t.refs.length := by rw [List.length_take]; omega
      omega
    refine ⟨_, rfl, tb, CT, dx, _, _, rfl, htb, T.clT, T.naT4, tf_refers, ra, rfl, ⟨_, SqT.of hra⟩, fun D hD => ?_⟩
    refine turns (walk_tup (K := K) (a := ra) (xs := rs)) (fun i H' => H' = upd H D (.lst (svs (((t.refs.take i).filter fun r => !r.2.2).flatMap (·.1))))) rfl (fun i H' _ e => by rw [e]; exact SqT.of ((newB hD).at hra)) (fun i x H6 H6' hi e y => ?_) (fun H' e => ?_)
    · obtain ⟨rfl, hx⟩ := y
      obtain ⟨r, hr0, q, qc, rfl, hq, hqc⟩ := hrs.at hx
      subst e
      have bD := newB (o := .lst (svs (((t.refs.take i).filter fun r => !r.2.2).flatMap (·.1)))) hD
      have st : t.refs.take (i + 1) = t.refs.take i ++ [r] := by rw [List.take_add_one, hr0]; rfl
      refine ⟨q, _, rfl, SqT.of (bD.at hq), rfl, _, _, rfl, _, _, rfl, _, _, rfl, rfl, rfl, ?_⟩
      refine ⟨_, rfl, r.2.2, rfl, ?_⟩
      cases hb : r.2.2 with
      | true =>
        refine iteF ?_
        rw [st, List.filter_append, List.filter_cons, hb]
        simp
      | false =>
        refine iteT ?_
        refine ⟨_, rfl, qc, rfl, ⟨_, SqT.of (bD.at hqc)⟩, ?_⟩
        have l3 := h3 r (List.mem_of_getElem? hr0)
        refine turns (walk_tup (K := K) (a := qc) (xs := svs r.1)) (fun j H' => H' = upd H D (.lst (svs (((t.refs.take i).filter fun r => !r.2.2).flatMap (·.1) ++ r.1.take j)))) (by simp) (fun j H' _ e => by rw [e]; exact SqT.of ((newB hD).at hqc)) (fun j x H5 H5' hj e y => ?_) (fun H' e => ?_)
        · obtain ⟨rfl, hx⟩ := y
          obtain ⟨cc, hcc, rfl⟩ := svs_get hx
          subst e
          refine ⟨rfl, _, rfl, _, upd_same, szt ?_, ?_⟩
          · rw [svs_len, List.length_append, List.length_take]
            have := room2 i
            omega
          · rw [upd_upd]
            congr 2
            have st2 : r.1.take (j + 1) = r.1.take j ++ [cc] := by rw [List.take_add_one, hcc]; rfl
            rw [st2, ← List.append_assoc, svs_app (_ ++ _)]; rfl
        · rw [e]
          congr 2
          rw [svs_len, List.take_length, st, List.filter_append, List.filter_cons, hb]
          simp
    · rw [hrs.1, List.take_length] at e
      subst e
      exact k _ D (newB hD) hD upd_same
/-! ### columns -/
def ColR (H : Hp) (v : V) (c : Col) : Prop := ∃ a, v = .ref a ∧ H a = some (.tup [sv c.1, sv c.2])
theorem ColR.fix {CR : Addr} {H H' : Hp} (f : Fix CR H H') {v : V} {c : Col} (h : ColR H v c) : ColR H' v c := let ⟨a, e, z⟩ := h; ⟨a, e, f a _ z trivial⟩
def sp_colword : Sp := fun vs H Q _ => ∃ v c, vs = [v] ∧ ColR H v c ∧ c.1.length ≤ 8 ∧ c.2.length ≤ 8 ∧ Q (sv (colW c)) H
theorem ok_colword (F : Fun K "column_word" "column_word" s_column_word f fd) (T : TxR K mg CR CT CS CP) : FnOk P w K mg base (L2.CX P w) 1 f fd ["column"] sp_colword := by
  refine F.okX sc_column_word (fun vs H Q E h => ?_) (fun cdv A outer s H vs Q E hr h => ?_)
  · obtain ⟨_, _, rfl, _⟩ := h
    rfl
  · obtain ⟨v, c, rfl, ⟨a, rfl, ha⟩, l1, l2, k⟩ := h
    refine ⟨_, (pss_cons (ps_asg (pv 0) (pg_tup (by rfl) (pgs_cons (pg_name (i := 1) sc_column_word.nd rfl (Or.inl rfl)) (pgs_cons (pg_name (i := 2) sc_column_word.nd rfl (Or.inl rfl)) pgs_nil))))
  (pss_one (ps_ret (pe_joined (.cons (pe_fmt (pv 1)) (.cons pe_str (.cons (pe_fmt (pv 2)) .nil))))))), ?_⟩
    refine ⟨_, rfl, a, _, rfl, SqT.of ha, rfl, _, _, rfl, _, _, rfl, rfl, ?_⟩
    have sz : ∀ {m : Cn.T}, m.length ≤ 100 → (S m).length ≤ sizeLine := fun h => szl (by rw [S_len]; omega)
    refine ⟨_, rfl, .inl ⟨S c.1, rfl, sz (by omega), S c.1, rfl, by rw [empty_app]; exact sz (by omega), ?_⟩⟩
    rw [empty_app]
    refine ⟨S [46], rfl, by rw [S_app]; exact sz (by simp; omega), ?_⟩
    rw [S_app]
    refine ⟨_, rfl, .inl ⟨S c.2, rfl, sz (by omega), S c.2, rfl, by rw [S_app]; exact sz (by simp; omega), ?_⟩⟩
    rw [S_app]
    have e : c.1 ++ [46] ++ c.2 = colW c := by unfold colW; simp
    rw [e]
    exact k
/-- the dict from aliases to tables -/
def dkA (al : List (Cn.T × Cn.T)) (vs : List V) : List (Key × V) := List.zipWith (fun p v => ((Sum.inr (S p.1) : Key), v)) al vs
def DictT (CT : Addr) (H : Hp) (d : Addr) (ts : List Tbl) (al : List (Cn.T × Cn.T)) : Prop := ∃ vs, H d = some (.dK (dkA al vs)) ∧ Each (fun v p => ∃ t, tabOf ts p.2 = some t ∧ TblR CT H v t) vs al
theorem dkA_get {CT : Addr} {H : Hp} {ts : List Tbl} (a : Cn.T) : ∀ {al : List (Cn.T × Cn.T)} {vs : List V}, Each (fun v p => ∃ t, tabOf ts p.2 = some t ∧ TblR CT H v t) vs al →
    (aliasOf ts al a = none → valV (dkA al vs) (.inr (S a)) = none) ∧ ∀ t, aliasOf ts al a = some t → ∃ v, valV (dkA al vs) (.inr (S a)) = some v ∧ TblR CT H v t
  | [], [], _ => ⟨fun _ => rfl, fun t h => by cases h⟩
  | [], _ :: _, h => by have := h.1; simp at this
  | _ :: _, [], h => by have := h.1; simp at this
  | p :: al, v :: vs, h => by
    obtain ⟨t0, e0, r0⟩ := h.2 0 v p rfl rfl
    have ht : Each (fun v p => ∃ t, tabOf ts p.2 = some t ∧ TblR CT H v t) vs al := ⟨by have := h.1; simpa using this, fun i x y a b => h.2 (i + 1) x y (by simpa using a) (by simpa using b)⟩
    obtain ⟨i1, i2⟩ := dkA_get a ht
    by_cases q : p.1 = a
    · have e1 : aliasOf ts (p :: al) a = some t0 := by
        unfold aliasOf
        rw [List.find?_cons, beq_iff_eq.mpr q]
        exact e0
      have e2 : valV (dkA (p :: al) (v :: vs)) (.inr (S a)) = some v := valV_pos (by show (Sum.inr (S p.1) : Key) = _; rw [q])
      rw [e1, e2]
      exact ⟨fun z => (by cases z), fun t z => (by cases z; exact ⟨v, rfl, r0⟩)⟩
    · have e1 : aliasOf ts (p :: al) a = aliasOf ts al a := by
        unfold aliasOf
        rw [List.find?_cons, beq_eq_false_iff_ne.mpr q]
      have e2 : valV (dkA (p :: al) (v :: vs)) (.inr (S a)) = valV (dkA al vs) (.inr (S a)) := valV_neg fun z => q (S_inj (Sum.inr.inj z))
      rw [e1, e2]
      exact ⟨i1, i2⟩
theorem DictT.get {CT : Addr} {H : Hp} {d : Addr} {ts : List Tbl} {al : List (Cn.T × Cn.T)} (h : DictT CT H d ts al) (a : Cn.T) : ∃ o, DGet H d (sv a) o ∧ (aliasOf ts al a = none → o = none) ∧ ∀ t, aliasOf ts al a = some t → ∃ v, o = some v ∧ TblR CT H v t := by
  obtain ⟨vs, e, hk⟩ := h
  obtain ⟨h1, h2⟩ := dkA_get a hk
  exact ⟨_, DGet.k (k := .inr (S a)) e, h1, h2⟩
theorem DictT.keep {CT CR : Addr} (n : CT ≠ CR) {H H' : Hp} {l : List Addr} {d : Addr} {ts : List Tbl} {al : List (Cn.T × Cn.T)} (h : DictT CT H d ts al) (b : But l H H') (hd : d ∉ l) (f : Fix CR H H') : DictT CT H' d ts al := by
  obtain ⟨vs, e, hk⟩ := h
  exact ⟨vs, b d _ hd e, hk.mono fun _ _ ⟨t, q, z⟩ => ⟨t, q, z.fix n f⟩⟩
def ColO (H : Hp) (v : V) : Option Col → Prop
  | none => v = .non
  | some c => ColR H v c
def sp_colof (CT : Addr) : Sp := fun vs H Q _ => ∃ (d : Addr) (ts : List Tbl) (al : List (Cn.T × Cn.T)) (l : Cn.T), vs = [sv l, .ref d] ∧ l.length ≤ 1000000 ∧ DictT CT H d ts al ∧ ∀ H' v, But [] H H' → ColO H' v (colOf ts al l) → Q v H'
theorem ok_colof (F : Fun K "column_of" "column_of" s_column_of f fd) (T : TxR K mg CR CT CS CP) : FnOk P w K mg base (L2.CX P w) 1 f fd ["word", "tables"] (sp_colof CT) := by
  refine F.okX sc_column_of (fun vs H Q E h => ?_) (fun cdv A outer s H vs Q E hr h => ?_)
  · obtain ⟨_, _, _, _, rfl, _⟩ := h
    rfl
  · obtain ⟨d, ts, al, l, rfl, hz, hd, k⟩ := h
    refine ⟨_, (pss_cons (ps_asg (pe_partition (pv 0) pe_str) (pg_tup (by rfl) (pgs_cons (pg_name (i := 2) sc_column_of.nd rfl (Or.inl rfl)) (pgs_cons (pg_name (i := 3) sc_column_of.nd rfl (Or.inl rfl)) (pgs_cons (pg_name (i := 4) sc_column_of.nd rfl (Or.inl rfl)) pgs_nil)))))
  (pss_cons (ps_if (PW.pt (pw_and (pt_cmp (pc_din (hu1 hr) (pv 2) (pv 1))) (pw_and1 (pt_cmpR (op_in_seqK K rfl) (pv 4) (pe_fldK K rfl (pe_dget (hu1 hr) (pv 1) (pv 2) (fun _ _ => rfl)) rfl) (by rfl)))))
  (pss_one (ps_ret (pe_tup (pa_cons (pv 2) (pa_cons (pv 4) pa_nil)))))
  pss_nil)
  (pss_one (ps_ret pe_non)))), ?_⟩
    obtain ⟨m, em⟩ := split_dot l
    refine ⟨_, rfl, ⟨_, rfl⟩, S l, S [46], rfl, rfl, rfl, szl (by rw [S_len]; omega), fun p hp => ?_⟩
    rw [em]
    have b1 : But [] H (upd H p (.tup [sv (cutAt 46 l).1, sv m, sv (cutAt 46 l).2])) := newB hp
    refine ⟨p, [sv (cutAt 46 l).1, sv m, sv (cutAt 46 l).2], rfl, SqT.of upd_same, rfl, _, _, rfl, _, _, rfl, _, _, rfl, rfl, ?_⟩
    generalize upd H p (.tup [sv (cutAt 46 l).1, sv m, sv (cutAt 46 l).2]) = H1 at b1
    have hd1 : DictT CT H1 d ts al := hd.keep T.nT b1 (by simp) (b1.fix0 (CR := CR))
    obtain ⟨o, g, g0, g1⟩ := hd1.get (cutAt 46 l).1
    have bad : colOf ts al l = none → Q .non H1 := fun e => k H1 .non b1 (by rw [e]; rfl)
    dsimp only
    show tSeq (tIfS _ _ tNext) _ _ _ _
    refine ⟨_, rfl, _, rfl, d, o, rfl, g, _, rfl, ?_⟩
    cases ea : aliasOf ts al (cutAt 46 l).1 with
    | none =>
      rw [g0 ea]
      refine iteF (iteF ?_)
      exact bad (by unfold colOf; rw [ea])
    | some t =>
      obtain ⟨v, rfl, tr⟩ := g1 t ea
      obtain ⟨q, dx, ca, ua, ra, ks, rs, rfl, hq, hca, _⟩ := id tr
      refine iteT ?_
      refine ⟨_, rfl, _, rfl, _, rfl, d, _, rfl, g, q, CT, dx, _, _, rfl, hq, T.clT, T.naT2, tf_columns, ca, _, rfl, .inr (SqT.of hca), rfl, flat_svs _, _, rfl, ?_⟩
      rw [inV_svs]
      cases ec : t.cols.contains (cutAt 46 l).2 with
      | false =>
        refine iteF ?_
        exact bad (by unfold colOf; rw [ea]; show (if t.cols.contains _ = true then _ else _) = _; rw [ec]; rfl)
      | true =>
        refine iteT ?_
        refine ⟨_, rfl, _, rfl, szl (by simp), fun z hz2 => ?_⟩
        refine k _ _ (b1.new hz2) ?_
        have e : colOf ts al l = some ((cutAt 46 l).1, (cutAt 46 l).2) := by unfold colOf; rw [ea]; show (if t.cols.contains _ = true then _ else _) = _; rw [ec]; rfl
        rw [e]
        exact ⟨z, rfl, upd_same⟩
end
end Cn
set_option Elab.async false
set_option linter.all false
set_option maxRecDepth 100000
set_option maxHeartbeats 4000000
/-! reports: aliases -/
namespace Cn
open PySem L2
theorem words_short {L : List Cn.T} {n : Nat} {st : Cn.T} {ws : List Cn.T} (hz : ∀ r ∈ L, r.length ≤ 1000000) (h : words L n st = some ws) : ∀ w ∈ ws, w.length ≤ 1000000 := fun u hu => by
  unfold words at h
  split at h
  · rename_i r hr'
    split at h
    · cases h
      have h1 := splitC_mem 32 _ u hu
      have h2 := hz r (List.mem_of_getElem? hr')
      rw [List.length_drop] at h1
      omega
    · cases h
  · cases h
theorem svs_at0 {ws : List Cn.T} {j : Nat} (h : j < ws.length) : (svs ws)[j]? = some (sv (ws.getD j [])) := by
  have e : ws[j]? = some (ws[j]'h) := List.getElem?_eq_getElem _
  rw [svs_at e, List.getD_eq_getElem?_getD, e]; rfl
theorem ati {ws : List Cn.T} {j : Nat} (h : j < ws.length) : atI (svs ws) ((j : Nat) : Int) = some (sv (ws.getD j [])) := atI_nat (svs_at0 h)
section
variable {CR CI : Addr} {σ : L2.St} {H : Hp} {D : Ends} {E : XK} {p d r : Addr} {L : List Cn.T} {n : Nat} {te : TE} {u : TS}
theorem sq_need {b : Bool} (h0 : σ[0]? = some (some (.ref p))) (R : RowsAt CR H p d r L (n + 1)) (ht : ∀ Q : VK, (∀ H', But [] H H' → Q (.bl b) H') → te σ H Q) (hy : b = true → ∀ H', But [] H H' → u D σ H') (hn : b = false → ∀ H', But [] H H' → ErrE CI p H' E n) :
    tSeq (tDrop (tMeth CR "need" (sp_need CR CI) [] E (tVar 0) (tCons te tNil))) u D σ H :=
  ⟨_, h0, p, d, _, rfl, R.at_, rfl, ht _ fun H' b' => ⟨p, d, r, L, n, b, rfl, R.keep0 b', by
    cases b with
    | true => exact iteT (hy rfl H' b')
    | false => exact iteF (hn rfl H' b')⟩⟩
theorem st_need {b : Bool} (h0 : σ[0]? = some (some (.ref p))) (R : RowsAt CR H p d r L (n + 1)) (ht : ∀ Q : VK, (∀ H', But [] H H' → Q (.bl b) H') → te σ H Q) (hy : b = true → ∀ H', But [] H H' → D.nx σ H') (hn : b = false → ∀ H', But [] H H' → ErrE CI p H' E n) :
    tDrop (tMeth CR "need" (sp_need CR CI) [] E (tVar 0) (tCons te tNil)) D σ H :=
  ⟨_, h0, p, d, _, rfl, R.at_, rfl, ht _ fun H' b' => ⟨p, d, r, L, n, b, rfl, R.keep0 b', by
    cases b with
    | true => exact iteT (hy rfl H' b')
    | false => exact iteF (hn rfl H' b')⟩⟩
end
section
variable {P : Program} {w : World} {K : PySem.W.Frag} {mg : Str → Option Value} {base : Heap} {CR CT CS CP CI : Addr} {f : Addr} {fd : FuncData}
theorem sc_read_aliases : FnScope ["rows", "schema", "names", "aliases", "words", "table", "alias", "_"] ["rows", "schema"] (defScope s_read_aliases) := ⟨rfl, rfl, rfl, by decide +kernel, rfl, by decide +kernel, by decide +kernel⟩
def sp_readal (CR CT CS CI : Addr) : Sp := fun vs H Q E => ∃ (p d r sa : Addr) (L : List Cn.T) (n : Nat) (ts : List Tbl), vs = [.ref p, .ref sa] ∧ RowsAt CR H p d r L n ∧ n ≤ L.length ∧ SchR CS CT H (.ref sa) ts ∧ ts.length ≤ 100 ∧ match aliasLoop L ts 5 n [] with
  | .error e => ErrE CI p H E e
  | .ok (al, n') => ∀ H' l vl, But [p] H H' → RowsAt CR H' p d r L n' → n' ≤ L.length → H l = none → H' l = some (.lst vl) → Each (ColR H') vl al → Q (.ref l) H'
theorem ok_readal (F : Fun K "read_aliases" "read_aliases" s_read_aliases f fd) (T : TxR K mg CR CT CS CP) (c_Rows_begins : Met P w K mg base 2 CR "begins" (sp_begins CR)) (c_Rows_need : Met P w K mg base 3 CR "need" (sp_need CR CI))
    (c_Rows_words : Met P w K mg base 3 CR "words" (sp_words CR CI)) (c_is_name : Cal P w K mg base 1 "is_name" sp_is_name) : FnOk P w K mg base (L2.CX P w) 4 f fd ["rows", "schema"] (sp_readal CR CT CS CI) := by
  refine F.okX sc_read_aliases (fun vs H Q E h => ?_) (fun cdv A outer s H vs Q E hr h => ?_)
  · obtain ⟨p, d, r, sa, L, n, ts, rfl, _⟩ := h
    rfl
  · obtain ⟨p, d, r, sa, L, n, ts, rfl, R, hn, ⟨sa', dx, tt, vt, e, hsa, htt, hvt⟩, hz, k⟩ := h
    cases e
    refine ⟨_, (pss_cons (ps_setLc (i := 2) (own := [("table", 5)]) (g := gName 5) (tt := tYes) (by rfl) sc_read_aliases.nd rfl rfl (sw_true rfl rfl rfl (by decide +kernel)) (pi_tupK K rfl (pe_fldK K rfl (pv 1) rfl)) (blkOk_by (own := [("table", 5)]) (N := ["rows", "schema", "names", "aliases", "words", "table", "alias", "_"]) (sc := (defScope s_read_aliases)) (by decide +kernel)) (fun _ _ _ _ _ => (pg_name (i := 5) sc_read_aliases.nd rfl (Or.inl rfl))) (fun _ _ _ _ _ => pts_nil) (fun _ _ _ _ _ => (pe_fldK K rfl (pv 5) rfl)))
  (pss_cons (ps_set (i := 3) sc_read_aliases.nd rfl (Or.inl rfl) (pe_lst pa_nil))
  (pss_cons (ps_while (passes_of rfl) (PW.pt (pw_or (pt_not (pt_truthK K rfl (pv 3) (by intro _; rfl))) (pw_or1 (pt_val (p_meth E c_Rows_begins hr (by decide) (passX rfl rfl rfl (takes_of rfl rfl rfl rfl)) (pv 0) (pa_cons pe_str pa_nil))))))
  (pss_cons (ps_set (i := 4) sc_read_aliases.nd rfl (Or.inl rfl) (p_meth E c_Rows_words hr (by decide) (passX rfl rfl rfl (takes_of rfl rfl rfl rfl)) (pv 0) (pa_cons (pe_ifExp (pt_truthK K rfl (pv 3) (by intro _; rfl)) pe_str pe_str) pa_nil)))
  (pss_cons (ps_expr (p_meth E c_Rows_need hr (by decide) (passX rfl rfl rfl (takes_of rfl rfl rfl rfl)) (pv 0) (pa_cons (pe_and (pe_cmpR op_eq (pe_callB (call_len_seqK K rfl) (by rfl) T.b_len (by decide +kernel) (pa_cons (pv 4) pa_nil)) pe_int (nomark _)) (pe_one (pe_cmpR (op_in_seqK K rfl) (pe_ix (ix_listK K rfl) (pv 4) pe_int (fun _ _ => rfl)) (pv 2) (by rfl)))) pa_nil)))
  (pss_cons (ps_expr (p_meth E c_Rows_need hr (by decide) (passX rfl rfl rfl (takes_of rfl rfl rfl rfl)) (pv 0) (pa_cons (pe_and (p_call E c_is_name hr (by decide) (by rfl) (passX rfl rfl rfl (takes_of rfl rfl rfl rfl)) (pa_cons (pe_ix (ix_listK K rfl) (pv 4) pe_int (fun _ _ => rfl)) pa_nil)) (pe_one (pe_cmpR (op_notIn_seqK K rfl) (pe_ix (ix_listK K rfl) (pv 4) pe_int (fun _ _ => rfl)) (pe_lc (own := [("alias", 6), ("_", 7)]) (tt := tYes) (by rfl) sc_read_aliases.nd (pi_listK K rfl (pv 3)) (blkOk_by (own := [("alias", 6), ("_", 7)]) (N := ["rows", "schema", "names", "aliases", "words", "table", "alias", "_"]) (sc := (defScope s_read_aliases)) (by decide +kernel)) (fun _ _ _ _ _ => (pg_tupQ K rfl (n := 2) (by rfl) (pgs_cons (pg_name (i := 6) sc_read_aliases.nd rfl (Or.inl rfl)) (pgs_cons (pg_name (i := 7) sc_read_aliases.nd rfl (Or.inl rfl)) pgs_nil)))) (fun _ _ _ _ _ => pts_nil) (fun _ _ _ _ _ => (pv 6))) (by rfl)))) pa_nil)))
  (pss_cons (ps_expr (pe_bm PySem.F.plainAttrs_list PySem.F.slot_list_append PySem.F.type_list_append mt_append (pv 3) (pa_cons (pe_tup (pa_cons (pe_ix (ix_listK K rfl) (pv 4) pe_int (fun _ _ => rfl)) (pa_cons (pe_ix (ix_listK K rfl) (pv 4) pe_int (fun _ _ => rfl)) pa_nil))) pa_nil)))
  (pss_one (ps_expr (p_meth E c_Rows_need hr (by decide) (passX rfl rfl rfl (takes_of rfl rfl rfl rfl)) (pv 0) (pa_cons (pe_cmpR op_le (pe_callB (call_len_seqK K rfl) (by rfl) T.b_len (by decide +kernel) (pa_cons (pv 3) pa_nil)) (p_gint T.g_MOST_ALIASES) (nomark _)) pa_nil)))))))))
  (pss_one (ps_ret (pv 3)))))), ?_⟩
    refine ⟨_, rfl, sa, CS, dx, _, _, rfl, hsa, T.clS, T.naS1, sf_tables, tt, rfl, ⟨_, SqT.of htt⟩, fun D hD => ?_⟩
    refine lc_grow (fun i => (ts[i]?).map fun t => sv t.name) (walk_tup (K := K) (a := tt) (xs := vt)) hD (fun H' b => SqT.of (b.at htt)) (fun i x acc H6 H7 N hi hzz b6 hD6 y hy _ => ?_) (fun H1 b1 hD1 => ?_)
    · obtain ⟨rfl, hx⟩ := y
      obtain ⟨o, ho, q, dq, ca, ua, ra, kss, rss, rfl, hq, _⟩ := hvt.at hx
      exact ⟨rfl, _, rfl, q, CT, dq, _, _, rfl, b6.at hq, T.clT, T.naT1, tf_name, lc_putG b6 hD hD6 (by have := hvt.1; omega) fun H'' bb hh => hy _ H'' (by rw [ho]; rfl) bb hh⟩
    rw [names_of hvt] at hD1
    have R1 := R.keep0 b1
    refine ⟨Nat.zero_le _, fun l hl => ?_⟩
    have npl : p ≠ l := ne_of_none R1.at_ hl
    have nrl : r ≠ l := ne_of_none R1.rows hl
    have nDl : D ≠ l := ne_of_none hD1 hl
    have hl0 : H l = none := b1.free hl (by simp)
    have nDp : D ≠ p := ne_of hD1 R1.at_ (by intro z; cases z)
    have nlp : l ≠ p := npl.symm
    refine ⟨fun m σ H' => ∃ al vl n' v4, σ = [some (.ref p), some (.ref sa), some (.ref D), some (.ref l), v4, none, none, none] ∧ But [p] H H' ∧ H' D = some (.lst (svs (ts.map (·.name)))) ∧ H' l = some (.lst vl) ∧ Each (ColR H') vl al ∧ RowsAt CR H' p d r L n' ∧ n' ≤ L.length ∧ al.length ≤ 4 ∧ m + al.length = 5 ∧ aliasLoop L ts m n' al = aliasLoop L ts 5 n [],
      ⟨5, [], [], n, none, rfl, But.of (b1.new hl), by rw [upd_ne nDl]; exact hD1, upd_same, Each.nil, R1.keep0 (newB hl), hn, by simp, rfl, rfl⟩, ?_⟩
    rintro m σ H2 ⟨al, vl, n1, v4, rfl, b2, hD2, hl2, hel, R2, hn1, h4, hm, he⟩
    obtain ⟨m, rfl⟩ : ∃ m', m = m' + 1 := ⟨m - 1, by omega⟩
    have evl : vl.isEmpty = al.isEmpty := by
      have := hel.1
      cases vl <;> cases al <;> simp at this ⊢
    refine ⟨_, rfl, _, truL hl2, or_go (B := begins L n1 kJoin) (fun ht => ⟨_, fun _ _ z => z, ?_⟩) (fun ht => ?_) (fun g => ⟨_, rfl, p, d, _, rfl, R2.at_, rfl, p, d, r, L, n1, kJoin, rfl, R2, hn1, _, rfl, g⟩)⟩
    · rw [Bool.not_not, evl] at ht
      have e0 : aliasLoop L ts (m + 1) n1 al = (match words L n1 (if al.isEmpty then kFrom else kJoin) with
        | none => .error n1
        | some ws =>
          if ws.length == 2 && (ts.map (·.name)).contains (ws.getD 0 []) then
            if isName (ws.getD 1 []) && !(al.map (·.1)).contains (ws.getD 1 []) then
              if al.length + 1 ≤ 4 then aliasLoop L ts m (n1 + 1) (al ++ [(ws.getD 1 [], ws.getD 0 [])]) else .error n1
            else .error n1
          else .error n1) := by
        show (if (al.isEmpty || begins L n1 kJoin) = true then _ else _) = _
        rw [ht]; rfl
      refine ⟨_, rfl, p, d, _, rfl, R2.at_, rfl, _, rfl, _, truL hl2, str_go ?_⟩
      have es : (if (!vl.isEmpty) = true then ("  join " : Str) else ("  from " : Str)) = S (if al.isEmpty then kFrom else kJoin) := by
        rw [evl]
        cases al.isEmpty <;> rfl
      rw [es]
      have lst : (if al.isEmpty then kFrom else kJoin).length ≤ 100 := by cases al.isEmpty <;> decide
      refine ⟨p, d, r, L, n1, _, rfl, R2, hn1, lst, ?_⟩
      cases hw : words L n1 (if al.isEmpty then kFrom else kJoin) with
      | none =>
        rw [hw] at e0
        have e0 : aliasLoop L ts (m + 1) n1 al = .error n1 := e0
        rw [← he, e0] at k
        exact k.later b2
      | some ws =>
        rw [hw] at e0
        have lt := words_lt hw
        have wz := words_short R2.size.2 hw
        intro H3 a b3 R3 ha0 ha
        have bp3 : But [p] H H3 := b2.trans b3
        have hD3 : H3 D = some (.lst (svs (ts.map (·.name)))) := b3.at1 hD2 nDp
        have hl3 : H3 l = some (.lst vl) := b3.at1 hl2 nlp
        have hel3 : Each (ColR H3) vl al := hel.mono fun _ _ z => z.fix (R2.fix b3)
        have bad : ∀ {c : Bool} {H'}, But [] H3 H' → aliasLoop L ts (m + 1) n1 al = .error n1 → ErrE CI p H' E n1 := fun {c H'} b e => by
          rw [← he, e] at k
          exact k.later (bp3.trans (But.of b))
        have e0 : aliasLoop L ts (m + 1) n1 al = if (ws.length == 2 && (ts.map (·.name)).contains (ws.getD 0 [])) = true then
            if (isName (ws.getD 1 []) && !(al.map (·.1)).contains (ws.getD 1 [])) = true then
              if al.length + 1 ≤ 4 then aliasLoop L ts m (n1 + 1) (al ++ [(ws.getD 1 [], ws.getD 0 [])]) else .error n1
            else .error n1
          else .error n1 := e0
        refine sq_need (L := L) (n := n1) (b := ws.length == 2 && (ts.map (·.name)).contains (ws.getD 0 [])) rfl R3 (fun Q' q => ?_) (fun hb H4 b4 => ?_) (fun hb H4 b4 => bad (c := true) b4 (by rw [e0, hb]; rfl))
        · refine ⟨_, rfl, a, _, rfl, .inl (SqL.of ha), rfl, _, rfl, ?_⟩
          have e2 : decide (V.int (((svs ws).length : Nat) : Int) = V.int 2) = (ws.length == 2) := by rw [svs_len]; exact nat_eq ws.length 2
          rw [e2]
          cases h2 : (ws.length == 2) with
          | false =>
            rw [h2] at q
            exact iteF (q H3 But.refl)
          | true =>
            rw [h2, Bool.true_and] at q
            have l2 : ws.length = 2 := eq_of_beq h2
            refine iteT ⟨_, rfl, a, _, 0, _, rfl, rfl, SqL.of ha, ati (j := 0) (by omega), _, rfl, D, svs (ts.map (·.name)), rfl, .inl (SqL.of hD3), rfl, flat_svs _, ?_⟩
            rw [if_neg Bool.false_ne_true, inV_svs]
            exact q H3 But.refl
        · rw [hb, if_pos rfl] at e0
          have l2 : ws.length = 2 := eq_of_beq ((Bool.and_eq_true _ _).mp hb).1
          have ha4 := b4.at ha
          have hl4 := b4.at hl3
          have hel4 : Each (ColR H4) vl al := hel3.mono fun _ _ z => z.fix (b4.fix0 (CR := CR))
          have w1z := wz (ws.getD 1 []) (by
            have e : ws[1]? = some (ws[1]'(by omega)) := List.getElem?_eq_getElem _
            rw [List.getD_eq_getElem?_getD, e]
            exact List.getElem_mem _)
          refine sq_need (L := L) (n := n1) (b := isName (ws.getD 1 []) && !(al.map (·.1)).contains (ws.getD 1 [])) rfl (R3.keep0 b4) (fun Q' q => ?_) (fun hb2 H5 b5 => ?_) (fun hb2 H5 b5 => bad (c := true) (b4.trans b5) (by rw [e0, hb2]; rfl))
          · refine ⟨_, rfl, a, _, 1, _, rfl, rfl, SqL.of ha4, ati (j := 1) (by omega), ws.getD 1 [], rfl, by omega, fun H5 b5 => ⟨_, rfl, ?_⟩⟩
            cases hnm : isName (ws.getD 1 []) with
            | false =>
              rw [hnm] at q
              exact iteF (q H5 b5)
            | true =>
              rw [hnm, Bool.true_and] at q
              refine iteT ⟨_, rfl, a, _, 1, _, rfl, rfl, SqL.of (b5.at ha4), ati (j := 1) (by omega), _, rfl, l, rfl, ⟨_, SqL.of (b5.at hl4)⟩, fun D2 hD2 => ?_⟩
              refine lc_grow (fun i => (al[i]?).map fun x => sv x.1) (walk_list (K := K) (a := l) (xs := vl)) hD2 (fun H' b => SqL.of (b.at (b5.at hl4))) (fun i x acc H6 H7 N hi hzz b6 hD6 y hy _ => ?_) (fun H6 b6 hD6 => ?_)
              · obtain ⟨rfl, hx⟩ := y
                obtain ⟨o, ho, q', rfl, hq'⟩ := hel4.at hx
                exact ⟨q', _, rfl, SqT.of (b6.at (b5.at hq')), rfl, _, _, rfl, _, _, rfl, rfl, rfl, _, rfl, lc_putG b6 hD2 hD6 (by have := hel4.1; omega) fun H'' bb hh => hy _ H'' (by rw [ho]; rfl) bb hh⟩
              · have e1 : (List.range vl.length).filterMap (fun i => (al[i]?).map fun x => sv x.1) = svs (al.map (·.1)) := by
                  rw [hel4.1, range_map]
                  unfold svs
                  rw [List.map_map]; rfl
                rw [e1] at hD6
                refine ⟨D2, svs (al.map (·.1)), rfl, .inl (SqL.of hD6), rfl, flat_svs _, ?_⟩
                rw [if_pos rfl, inV_svs]
                exact q H6 (b5.trans b6)
          · rw [hb2, if_pos rfl] at e0
            have b35 := b4.trans b5
            have ha5 := b35.at ha
            have hl5 := b35.at hl3
            refine ⟨_, rfl, tyList hl5, _, rfl, a, _, 1, _, rfl, rfl, SqL.of ha5, ati (j := 1) (by omega), _, rfl, a, _, 0, _, rfl, rfl, SqL.of ha5, ati (j := 0) (by omega), szl (by simp), fun z hz2 => ?_⟩
            have bz : But [] H5 (upd H5 z (.tup [sv (ws.getD 1 []), sv (ws.getD 0 [])])) := newB hz2
            have ez : (upd H5 z (.tup [sv (ws.getD 1 []), sv (ws.getD 0 [])])) z = some (.tup [sv (ws.getD 1 []), sv (ws.getD 0 [])]) := upd_same
            generalize upd H5 z (.tup [sv (ws.getD 1 []), sv (ws.getD 0 [])]) = H6 at bz ez
            have b36 := b35.trans bz
            have hl6 := b36.at hl3
            have lvl : vl.length = al.length := hel.1
            refine ⟨l, vl, .ref z, rfl, rfl, hl6, szt (by omega), ?_⟩
            have R6 := R3.keep0 b36
            have nlr : r ≠ l := nrl
            have R7 := R6.put (o := .lst (vl ++ [.ref z])) npl nlr
            have b7 : But [p] H (upd H6 l (.lst (vl ++ [.ref z]))) := (bp3.trans (But.of b36)).put0 hl0
            have f7 : Fix CR H3 (upd H6 l (.lst (vl ++ [.ref z]))) := fun x o hx i => by
              have nx : x ≠ l := fun q => by rw [q, hl3] at hx; cases hx; exact i
              rw [upd_ne nx]; exact b36.at hx
            have nzl : z ≠ l := fun q => by rw [q, hl6] at ez; cases ez
            have new : Each (ColR (upd H6 l (.lst (vl ++ [.ref z])))) (vl ++ [.ref z]) (al ++ [(ws.getD 1 [], ws.getD 0 [])]) := (hel3.mono fun _ _ q => q.fix f7).snoc ⟨z, rfl, by rw [upd_ne nzl]; exact ez⟩
            have nDl2 : D ≠ l := nDl
            have hD7 : (upd H6 l (.lst (vl ++ [.ref z]))) D = some (.lst (svs (ts.map (·.name)))) := by rw [upd_ne nDl2]; exact b36.at hD3
            have hl7 : (upd H6 l (.lst (vl ++ [.ref z]))) l = some (.lst (vl ++ [.ref z])) := upd_same
            have bx : ∀ {H'}, But [] (upd H6 l (.lst (vl ++ [.ref z]))) H' → aliasLoop L ts (m + 1) n1 al = .error n1 → ErrE CI p H' E n1 := fun {H'} b e => by
              rw [← he, e] at k
              exact k.later (b7.trans (But.of b))
            generalize upd H6 l (.lst (vl ++ [.ref z])) = H7 at R7 b7 new hD7 hl7 bx
            refine st_need (L := L) (n := n1) (b := decide (al.length + 1 ≤ 4)) rfl R7 (fun Q' q => ?_) (fun hb3 H8 b8 => ?_) (fun hb3 H8 b8 => bx b8 (by rw [e0, if_neg (of_decide_eq_false hb3)]))
            · refine ⟨_, rfl, l, _, rfl, .inl (SqL.of hl7), _, 4, rfl, rfl, ?_⟩
              have el : decide (((vl ++ [V.ref z]).length : Int) ≤ 4) = decide (al.length + 1 ≤ 4) := by
                rw [List.length_append, lvl]
                exact le_lit (n := al.length + 1) (k := 4)
              show Q' (.bl (decide (((vl ++ [V.ref z]).length : Int) ≤ 4))) H7
              rw [el]
              exact q H7 But.refl
            · have h5 : al.length + 1 ≤ 4 := of_decide_eq_true hb3
              rw [if_pos h5] at e0
              exact ⟨m, by omega, al ++ [(ws.getD 1 [], ws.getD 0 [])], vl ++ [.ref z], n1 + 1, _, rfl, b7.trans (But.of b8), b8.at hD7, b8.at hl7, new.mono fun _ _ q => q.fix (b8.fix0 (CR := CR)), R7.keep0 b8, lt, by simpa using h5, by simp; omega, by rw [← e0]; exact he⟩
    · rw [Bool.not_not, evl] at ht
      have e0 : aliasLoop L ts (m + 1) n1 al = .ok (al, n1) := by
        show (if (al.isEmpty || begins L n1 kJoin) = true then _ else _) = _
        rw [ht]; rfl
      rw [← he, e0] at k
      exact ⟨_, rfl, k H2 l vl b2 R2 hn1 hl0 hl2 hel⟩
end
end Cn
set_option Elab.async false
set_option linter.all false
set_option maxRecDepth 100000
set_option maxHeartbeats 4000000
/-! reports: links, filters -/
namespace Cn
open PySem L2
structure NmOk (ts : List Tbl) (al : List (Cn.T × Cn.T)) : Prop where
  al : ∀ p ∈ al, isName p.1 = true
  cols : ∀ t ∈ ts, ∀ c ∈ t.cols, isName c = true
theorem alias_mem {ts : List Tbl} {al : List (Cn.T × Cn.T)} {a : Cn.T} {t : Tbl} (h : aliasOf ts al a = some t) : (∃ p ∈ al, p.1 = a ∧ tabOf ts p.2 = some t) ∧ t ∈ ts := by
  unfold aliasOf at h
  cases e : (al.find? fun p => p.1 == a) with
  | none => rw [e] at h; cases h
  | some p =>
    rw [e] at h
    refine ⟨⟨p, List.mem_of_find?_eq_some e, eq_of_beq (List.find?_some (p := fun p : Cn.T × Cn.T => p.1 == a) e), h⟩, ?_⟩
    exact List.mem_of_find?_eq_some h
theorem colOf_ok {ts : List Tbl} {al : List (Cn.T × Cn.T)} {w : Cn.T} {c : Col} (h : colOf ts al w = some c) : ∃ t, aliasOf ts al c.1 = some t ∧ t.cols.contains c.2 = true := by
  unfold colOf at h
  cases e : aliasOf ts al (cutAt 46 w).1 with
  | none => rw [e] at h; cases h
  | some t =>
    rw [e] at h
    have h : (if t.cols.contains (cutAt 46 w).2 = true then some ((cutAt 46 w).1, (cutAt 46 w).2) else none) = some c := h
    split at h
    · rename_i q
      cases h
      exact ⟨t, e, q⟩
    · cases h
theorem colOf_names {ts : List Tbl} {al : List (Cn.T × Cn.T)} (no : NmOk ts al) {w : Cn.T} {c : Col} (h : colOf ts al w = some c) : isName c.1 = true ∧ isName c.2 = true := by
  obtain ⟨t, e, q⟩ := colOf_ok h
  obtain ⟨⟨p, hp, e1, _⟩, ht⟩ := alias_mem e
  exact ⟨by rw [← e1]; exact no.al p hp, no.cols t ht _ (List.contains_iff_mem.mp q)⟩
def pdC (c : Col) : PyData := .tuple [.str (S c.1), .str (S c.2)]
def pdO : Option Col → PyData
  | none => .none
  | some c => pdC c
theorem strOk_name {w : Cn.T} (h : isName w = true) : PyData.strOk (S w) = true := by
  unfold isName at h
  simp only [Bool.and_eq_true, decide_eq_true_eq, List.all_eq_true] at h
  unfold PyData.strOk S
  simp only [List.all_toArray, List.all_eq_true, decide_eq_true_eq]
  intro c hc
  have := h.2.2 c hc
  omega
theorem lay_C {c : Col} (h : isName c.1 = true ∧ isName c.2 = true) : (pdC c).canLay0 = true := by
  have h1 := strOk_name h.1
  have h2 := strOk_name h.2
  simp [pdC, PyData.canLay0, PyData.canLayAll0, h1, h2]
theorem dp_C {K : PySem.W.Frag} {H : Hp} {v : V} {c : Col} (h : ColR H v c) : Dp K H v (pdC c) := by
  obtain ⟨a, rfl, e⟩ := h
  exact .tup (SqT.of e) (.cons (.str _) (.cons (.str _) .nil))
theorem dp_O {K : PySem.W.Frag} {H : Hp} {v : V} {o : Option Col} (h : ColO H v o) : Dp K H v (pdO o) := by
  cases o with
  | none => cases (show v = .non from h); exact .non
  | some c => exact dp_C h
theorem lay_O {o : Option Col} (h : ∀ c, o = some c → isName c.1 = true ∧ isName c.2 = true) : (pdO o).canLay0 = true := by
  cases o with
  | none => rfl
  | some c => exact lay_C (h c rfl)
theorem eqv_O (o : Option Col) : PyData.eqv (pdO o) .none = o.isNone := by cases o <;> rfl
theorem ColO.fix {CR : Addr} {H H' : Hp} (f : Fix CR H H') {v : V} {o : Option Col} (h : ColO H v o) : ColO H' v o := by
  cases o with
  | none => exact h
  | some c => exact ColR.fix f h
def LinkR (H : Hp) (v : V) (x : Col × Col) : Prop := ∃ a u w, v = .ref a ∧ H a = some (.tup [u, w]) ∧ ColR H u x.1 ∧ ColR H w x.2
theorem LinkR.fix {CR : Addr} {H H' : Hp} (f : Fix CR H H') {v : V} {x : Col × Col} (h : LinkR H v x) : LinkR H' v x := let ⟨a, u, w, e, z, h1, h2⟩ := h; ⟨a, u, w, e, f a _ z trivial, h1.fix f, h2.fix f⟩
def FilR (H : Hp) (v : V) (x : Col × Nat) : Prop := ∃ a u, v = .ref a ∧ H a = some (.tup [u, .int (x.2 : Nat)]) ∧ ColR H u x.1
theorem FilR.fix {CR : Addr} {H H' : Hp} (f : Fix CR H H') {v : V} {x : Col × Nat} (h : FilR H v x) : FilR H' v x := let ⟨a, u, e, z, h1⟩ := h; ⟨a, u, e, f a _ z trivial, h1.fix f⟩
theorem ws_mem {ws : List Cn.T} {j : Nat} (h : j < ws.length) : ws.getD j [] ∈ ws := by
  have e : ws[j]? = some (ws[j]'h) := List.getElem?_eq_getElem _
  rw [List.getD_eq_getElem?_getD, e]
  exact List.getElem_mem _
section
variable {P : Program} {w : World} {K : PySem.W.Frag} {mg : Str → Option Value} {base : Heap} {CR CT CS CP CI : Addr} {f : Addr} {fd : FuncData}
theorem sc_read_links : FnScope ["rows", "tables", "links", "words", "link"] ["rows", "tables"] (defScope s_read_links) := ⟨rfl, rfl, rfl, by decide +kernel, rfl, by decide +kernel, by decide +kernel⟩
theorem sc_read_filters : FnScope ["rows", "tables", "filters", "words", "column"] ["rows", "tables"] (defScope s_read_filters) := ⟨rfl, rfl, rfl, by decide +kernel, rfl, by decide +kernel, by decide +kernel⟩
def sp_readlinks (CR CT CI : Addr) : Sp := fun vs H Q E => ∃ (p d r td : Addr) (L : List Cn.T) (n : Nat) (ts : List Tbl) (al : List (Cn.T × Cn.T)), vs = [.ref p, .ref td] ∧ RowsAt CR H p d r L n ∧ n ≤ L.length ∧ DictT CT H td ts al ∧ NmOk ts al ∧ match linkLoop L ts al 21 n [] with
  | .error e => ErrE CI p H E e
  | .ok (ls, n') => ∀ H' l vl, But [p] H H' → RowsAt CR H' p d r L n' → n' ≤ L.length → H l = none → H' l = some (.lst vl) → Each (LinkR H') vl ls → Q (.ref l) H'
theorem ok_readlinks (F : Fun K "read_links" "read_links" s_read_links f fd) (T : TxR K mg CR CT CS CP) (c_Rows_begins : Met P w K mg base 2 CR "begins" (sp_begins CR)) (c_Rows_need : Met P w K mg base 3 CR "need" (sp_need CR CI))
    (c_Rows_words : Met P w K mg base 3 CR "words" (sp_words CR CI)) (c_column_of : Cal P w K mg base 1 "column_of" (sp_colof CT)) : FnOk P w K mg base (L2.CX P w) 4 f fd ["rows", "tables"] (sp_readlinks CR CT CI) := by
  refine F.okX sc_read_links (fun vs H Q E h => ?_) (fun cdv A outer s H vs Q E hr h => ?_)
  · obtain ⟨p, d, r, td, L, n, ts, al, rfl, _⟩ := h
    rfl
  · obtain ⟨p, d, r, td, L, n, ts, al, rfl, R, hn, hd, no, k⟩ := h
    refine ⟨_, (pss_cons (ps_set (i := 2) sc_read_links.nd rfl (Or.inl rfl) (pe_lst pa_nil))
  (pss_cons (ps_while (passes_of rfl) (pt_val (p_meth E c_Rows_begins hr (by decide) (passX rfl rfl rfl (takes_of rfl rfl rfl rfl)) (pv 0) (pa_cons pe_str pa_nil)))
  (pss_cons (ps_set (i := 3) sc_read_links.nd rfl (Or.inl rfl) (p_meth E c_Rows_words hr (by decide) (passX rfl rfl rfl (takes_of rfl rfl rfl rfl)) (pv 0) (pa_cons pe_str pa_nil)))
  (pss_cons (ps_expr (p_meth E c_Rows_need hr (by decide) (passX rfl rfl rfl (takes_of rfl rfl rfl rfl)) (pv 0) (pa_cons (pe_and (pe_cmpR op_eq (pe_callB (call_len_seqK K rfl) (by rfl) T.b_len (by decide +kernel) (pa_cons (pv 3) pa_nil)) pe_int (nomark _)) (pe_one (pe_cmpR op_eq (pe_ix (ix_listK K rfl) (pv 3) pe_int (fun _ _ => rfl)) pe_str (nomark _)))) pa_nil)))
  (pss_cons (ps_set (i := 4) sc_read_links.nd rfl (Or.inl rfl) (pe_tup (pa_cons (p_call E c_column_of hr (by decide) (by rfl) (passX rfl rfl rfl (takes_of rfl rfl rfl rfl)) (pa_cons (pe_ix (ix_listK K rfl) (pv 3) pe_int (fun _ _ => rfl)) (pa_cons (pv 1) pa_nil))) (pa_cons (p_call E c_column_of hr (by decide) (by rfl) (passX rfl rfl rfl (takes_of rfl rfl rfl rfl)) (pa_cons (pe_ix (ix_listK K rfl) (pv 3) pe_int (fun _ _ => rfl)) (pa_cons (pv 1) pa_nil))) pa_nil))))
  (pss_cons (ps_expr (p_meth E c_Rows_need hr (by decide) (passX rfl rfl rfl (takes_of rfl rfl rfl rfl)) (pv 0) (pa_cons (pe_cmpR (op_notInDTK K rfl (hu64 hr)) pe_non (pv 4) (by rfl)) pa_nil)))
  (pss_cons (ps_expr (pe_bm PySem.F.plainAttrs_list PySem.F.slot_list_append PySem.F.type_list_append mt_append (pv 2) (pa_cons (pv 4) pa_nil)))
  (pss_one (ps_expr (p_meth E c_Rows_need hr (by decide) (passX rfl rfl rfl (takes_of rfl rfl rfl rfl)) (pv 0) (pa_cons (pe_cmpR op_le (pe_callB (call_len_seqK K rfl) (by rfl) T.b_len (by decide +kernel) (pa_cons (pv 2) pa_nil)) (p_gint T.g_MOST_LINKS) (nomark _)) pa_nil))))))))))
  (pss_one (ps_ret (pv 2))))), ?_⟩
    refine ⟨Nat.zero_le _, fun l hl => ?_⟩
    have npl : p ≠ l := ne_of_none R.at_ hl
    have nrl : r ≠ l := ne_of_none R.rows hl
    have nlp : l ≠ p := npl.symm
    have ndp : td ≠ p := by obtain ⟨vs, e, _⟩ := hd; exact ne_of e R.at_ (by intro z; cases z)
    have ndl : td ≠ l := by obtain ⟨vs, e, _⟩ := hd; exact ne_of_none e hl
    refine ⟨fun m σ H' => ∃ ls vl n' v3 v4, σ = [some (.ref p), some (.ref td), some (.ref l), v3, v4] ∧ But [p] H H' ∧ Fix CR H H' ∧ DictT CT H' td ts al ∧ H' l = some (.lst vl) ∧ Each (LinkR H') vl ls ∧ RowsAt CR H' p d r L n' ∧ n' ≤ L.length ∧ ls.length ≤ 20 ∧ m + ls.length = 21 ∧ linkLoop L ts al m n' ls = linkLoop L ts al 21 n [],
      ⟨21, [], [], n, none, none, rfl, But.of (newB hl), Fix.refl.new hl, hd.keep T.nT (newB hl) (by simp) (Fix.refl.new hl), upd_same, Each.nil, R.keep0 (newB hl), hn, by simp, rfl, rfl⟩, ?_⟩
    rintro m σ H2 ⟨ls, vl, n1, v3, v4, rfl, b2, f2, hd2, hl2, hel, R2, hn1, h4, hm, he⟩
    obtain ⟨m, rfl⟩ : ∃ m', m = m' + 1 := ⟨m - 1, by omega⟩
    refine ⟨_, rfl, p, d, _, rfl, R2.at_, rfl, p, d, r, L, n1, kLink, rfl, R2, hn1, _, rfl, ?_⟩
    refine ite2 (fun ht => ⟨_, fun _ _ z => z, ?_⟩) (fun ht => ?_)
    · have e0 : linkLoop L ts al (m + 1) n1 ls = (match words L n1 kLink with
        | none => .error n1
        | some ws =>
          if ws.length == 3 && ws.getD 1 [] == kEq then
            match colOf ts al (ws.getD 0 []), colOf ts al (ws.getD 2 []) with
            | some a, some b => if ls.length + 1 ≤ 20 then linkLoop L ts al m (n1 + 1) (ls ++ [(a, b)]) else .error n1
            | _, _ => .error n1
          else .error n1) := by
        show (if begins L n1 kLink = true then _ else _) = _
        rw [ht]; rfl
      refine ⟨_, rfl, p, d, _, rfl, R2.at_, rfl, p, d, r, L, n1, kLink, rfl, R2, hn1, by decide, ?_⟩
      cases hw : words L n1 kLink with
      | none =>
        rw [hw] at e0
        have e0 : linkLoop L ts al (m + 1) n1 ls = .error n1 := e0
        rw [← he, e0] at k
        exact k.later b2
      | some ws =>
        rw [hw] at e0
        have lt := words_lt hw
        have wz := words_short R2.size.2 hw
        intro H3 a b3 R3 ha0 ha
        have bp3 : But [p] H H3 := b2.trans b3
        have f3 : Fix CR H2 H3 := R2.fix b3
        have hd3 : DictT CT H3 td ts al := hd2.keep T.nT b3 (by simpa using ndp) f3
        have hl3 : H3 l = some (.lst vl) := b3.at1 hl2 nlp
        have hel3 : Each (LinkR H3) vl ls := hel.mono fun _ _ z => z.fix f3
        have bad : ∀ {H'}, But [] H3 H' → linkLoop L ts al (m + 1) n1 ls = .error n1 → ErrE CI p H' E n1 := fun {H'} b e => by
          rw [← he, e] at k
          exact k.later (bp3.trans (But.of b))
        have e0 : linkLoop L ts al (m + 1) n1 ls = if (ws.length == 3 && ws.getD 1 [] == kEq) = true then
            match colOf ts al (ws.getD 0 []), colOf ts al (ws.getD 2 []) with
            | some a, some b => if ls.length + 1 ≤ 20 then linkLoop L ts al m (n1 + 1) (ls ++ [(a, b)]) else .error n1
            | _, _ => .error n1
          else .error n1 := e0
        refine sq_need (L := L) (n := n1) (b := ws.length == 3 && ws.getD 1 [] == kEq) rfl R3 (fun Q' q => ?_) (fun hb H4 b4 => ?_) (fun hb H4 b4 => bad b4 (by rw [e0, hb]; rfl))
        · refine ⟨_, rfl, a, _, rfl, .inl (SqL.of ha), rfl, _, rfl, ?_⟩
          have e2 : decide (V.int (((svs ws).length : Nat) : Int) = V.int 3) = (ws.length == 3) := by rw [svs_len]; exact nat_eq ws.length 3
          rw [e2]
          cases h2 : (ws.length == 3) with
          | false =>
            rw [h2] at q
            exact iteF (q H3 But.refl)
          | true =>
            rw [h2, Bool.true_and] at q
            have l2 : ws.length = 3 := eq_of_beq h2
            refine iteT ⟨_, rfl, a, _, 1, _, rfl, rfl, SqL.of ha, ati (j := 1) (by omega), rfl, ?_⟩
            have ek : (V.str (Str.ofString "=")) = sv kEq := rfl
            rw [ek, sv_eq]
            exact q H3 But.refl
        · rw [hb, if_pos rfl] at e0
          have l2 : ws.length = 3 := eq_of_beq ((Bool.and_eq_true _ _).mp hb).1
          have ha4 := b4.at ha
          have hd4 := hd3.keep T.nT b4 (by simp) (b4.fix0 (CR := CR))
          refine ⟨_, rfl, a, _, 0, _, rfl, rfl, SqL.of ha4, ati (j := 0) (by omega), _, rfl, td, ts, al, ws.getD 0 [], rfl, wz _ (ws_mem (by omega)), hd4, fun H5 u b5 hu => ?_⟩
          have hd5 := hd4.keep T.nT b5 (by simp) (b5.fix0 (CR := CR))
          refine ⟨_, rfl, a, _, 2, _, rfl, rfl, SqL.of (b5.at ha4), ati (j := 2) (by omega), _, rfl, td, ts, al, ws.getD 2 [], rfl, wz _ (ws_mem (by omega)), hd5, fun H6 v b6 hv => ?_⟩
          refine ⟨szl (by simp), fun z hz2 => ?_⟩
          have bz : But [] H6 (upd H6 z (.tup [u, v])) := newB hz2
          have ez : (upd H6 z (.tup [u, v])) z = some (.tup [u, v]) := upd_same
          generalize upd H6 z (.tup [u, v]) = H7 at bz ez
          have hu7 : ColO H7 u (colOf ts al (ws.getD 0 [])) := hu.fix ((b6.trans bz).fix0 (CR := CR))
          have hv7 : ColO H7 v (colOf ts al (ws.getD 2 [])) := hv.fix (bz.fix0 (CR := CR))
          have b37 := ((b4.trans b5).trans b6).trans bz
          have R7 := R3.keep0 b37
          refine sq_need (L := L) (n := n1) (b := !((colOf ts al (ws.getD 0 [])).isNone || (colOf ts al (ws.getD 2 [])).isNone)) rfl R7 (fun Q' q => ?_) (fun hb2 H8 b8 => ?_) (fun hb2 H8 b8 => bad (b37.trans b8) ?_)
          · refine ⟨_, rfl, .none, [pdO (colOf ts al (ws.getD 0 [])), pdO (colOf ts al (ws.getD 2 []))], .non, .tup (SqT.of ez) (.cons (dp_O hu7) (.cons (dp_O hv7) .nil)), rfl, ?_, ?_, ?_⟩
            · have h1 := lay_O (o := colOf ts al (ws.getD 0 [])) fun c h => colOf_names no h
              have h2 := lay_O (o := colOf ts al (ws.getD 2 [])) fun c h => colOf_names no h
              simp only [PyData.canLayAll0, h1, h2, Bool.and_self]
            · show min _ 0 ≤ 8; omega
            · have e : (!([pdO (colOf ts al (ws.getD 0 [])), pdO (colOf ts al (ws.getD 2 []))].any fun z => PyData.eqv z .none)) = !((colOf ts al (ws.getD 0 [])).isNone || (colOf ts al (ws.getD 2 [])).isNone) := by
                rw [List.any_cons, List.any_cons, List.any_nil, Bool.or_false, eqv_O, eqv_O]
              rw [e]
              exact q H7 But.refl
          · obtain ⟨c0, ec0⟩ : ∃ c, colOf ts al (ws.getD 0 []) = some c := by
              cases h : colOf ts al (ws.getD 0 []) with
              | none => rw [h] at hb2; cases hb2
              | some c => exact ⟨c, rfl⟩
            obtain ⟨c2, ec2⟩ : ∃ c, colOf ts al (ws.getD 2 []) = some c := by
              cases h : colOf ts al (ws.getD 2 []) with
              | none => rw [h, ec0] at hb2; cases hb2
              | some c => exact ⟨c, rfl⟩
            rw [ec0] at hu7
            rw [ec2] at hv7
            rw [ec0, ec2] at e0
            have e0 : linkLoop L ts al (m + 1) n1 ls = if ls.length + 1 ≤ 20 then linkLoop L ts al m (n1 + 1) (ls ++ [(c0, c2)]) else .error n1 := e0
            have b38 := b37.trans b8
            have hl8 := b38.at hl3
            have ez8 := b8.at ez
            have lvl : vl.length = ls.length := hel.1
            refine ⟨_, rfl, tyList hl8, _, rfl, l, vl, .ref z, rfl, rfl, hl8, szt (by omega), ?_⟩
            have R8 := R3.keep0 b38
            have R9 := R8.put (o := .lst (vl ++ [.ref z])) npl nrl
            have b9 : But [p] H (upd H8 l (.lst (vl ++ [.ref z]))) := (bp3.trans (But.of b38)).put0 hl
            have f9 : Fix CR H3 (upd H8 l (.lst (vl ++ [.ref z]))) := fun x o hx i => by
              have nx : x ≠ l := fun q => by rw [q, hl3] at hx; cases hx; exact i
              rw [upd_ne nx]; exact b38.at hx
            have f89 : Fix CR H8 (upd H8 l (.lst (vl ++ [.ref z]))) := fun x o hx i => by
              have nx : x ≠ l := fun q => by rw [q, hl8] at hx; cases hx; exact i
              rw [upd_ne nx]; exact hx
            have nzl : z ≠ l := fun q => by rw [q, hl8] at ez8; cases ez8
            have f7 : Fix CR H7 (upd H8 l (.lst (vl ++ [.ref z]))) := (b8.fix0 (CR := CR)).trans f89
            have new : Each (LinkR (upd H8 l (.lst (vl ++ [.ref z])))) (vl ++ [.ref z]) (ls ++ [(c0, c2)]) := (hel3.mono fun _ _ q => q.fix f9).snoc ⟨z, u, v, rfl, by rw [upd_ne nzl]; exact ez8, ColR.fix f7 hu7, ColR.fix f7 hv7⟩
            have hd9 : DictT CT (upd H8 l (.lst (vl ++ [.ref z]))) td ts al := (hd3.keep T.nT b38 (by simp) (b38.fix0 (CR := CR))).keep T.nT (But.refl.put (l := [l]) (by simp)) (by simpa using ndl) f89
            have ff : Fix CR H (upd H8 l (.lst (vl ++ [.ref z]))) := (f2.trans f3).trans f9
            have hl9 : (upd H8 l (.lst (vl ++ [.ref z]))) l = some (.lst (vl ++ [.ref z])) := upd_same
            have bx : ∀ {H'}, But [] (upd H8 l (.lst (vl ++ [.ref z]))) H' → linkLoop L ts al (m + 1) n1 ls = .error n1 → ErrE CI p H' E n1 := fun {H'} b e => by
              rw [← he, e] at k
              exact k.later (b9.trans (But.of b))
            generalize upd H8 l (.lst (vl ++ [.ref z])) = H9 at R9 b9 new hd9 ff hl9 bx
            refine st_need (L := L) (n := n1) (b := decide (ls.length + 1 ≤ 20)) rfl R9 (fun Q' q => ?_) (fun hb3 Hx bb => ?_) (fun hb3 Hx bb => bx bb (by rw [e0, if_neg (of_decide_eq_false hb3)]))
            · refine ⟨_, rfl, l, _, rfl, .inl (SqL.of hl9), _, 20, rfl, rfl, ?_⟩
              have el : decide (((vl ++ [V.ref z]).length : Int) ≤ 20) = decide (ls.length + 1 ≤ 20) := by
                rw [List.length_append, lvl]
                exact le_lit (n := ls.length + 1) (k := 20)
              show Q' (.bl (decide (((vl ++ [V.ref z]).length : Int) ≤ 20))) H9
              rw [el]
              exact q H9 But.refl
            · have h5 : ls.length + 1 ≤ 20 := of_decide_eq_true hb3
              rw [if_pos h5] at e0
              exact ⟨m, by omega, ls ++ [(c0, c2)], vl ++ [.ref z], n1 + 1, _, _, rfl, b9.trans (But.of bb), ff.trans (bb.fix0 (CR := CR)), hd9.keep T.nT bb (by simp) (bb.fix0 (CR := CR)), bb.at hl9, new.mono fun _ _ q => q.fix (bb.fix0 (CR := CR)), R9.keep0 bb, lt, by simpa using h5, by simp; omega, by rw [← e0]; exact he⟩
          · rw [e0]
            cases h0 : colOf ts al (ws.getD 0 []) with
            | none => rfl
            | some c0 =>
              cases h2 : colOf ts al (ws.getD 2 []) with
              | none => rfl
              | some c2 => rw [h0, h2] at hb2; cases hb2
    · have e0 : linkLoop L ts al (m + 1) n1 ls = .ok (ls, n1) := by
        show (if begins L n1 kLink = true then _ else _) = _
        rw [Bool.not_eq_true] at ht
        rw [ht]; rfl
      rw [← he, e0] at k
      exact ⟨_, rfl, k H2 l vl b2 R2 hn1 hl hl2 hel⟩
/-! ### read_filters -/
def sp_readfil (CR CT CI : Addr) : Sp := fun vs H Q E => ∃ (p d r td : Addr) (L : List Cn.T) (n : Nat) (ts : List Tbl) (al : List (Cn.T × Cn.T)), vs = [.ref p, .ref td] ∧ RowsAt CR H p d r L n ∧ n ≤ L.length ∧ DictT CT H td ts al ∧ match filterLoop L ts al 6 n [] with
  | .error e => ErrE CI p H E e
  | .ok (ls, n') => ∀ H' l vl, But [p] H H' → RowsAt CR H' p d r L n' → n' ≤ L.length → H l = none → H' l = some (.lst vl) → Each (FilR H') vl ls → Q (.ref l) H'
theorem num_digits {w : Cn.T} (h : isNumber w = true) : PySem.intText? (S w) = some ((NumText.digitsVal w : Nat) : Int) ∧ w.length ≤ 10 := by
  unfold isNumber at h
  simp only [Bool.and_eq_true] at h
  have h1 := of_decide_eq_true h.1
  have h2 := of_decide_eq_true h.2.1
  refine ⟨int_of ?_ (fun z => by rw [z] at h1; simp at h1) (by omega), h2⟩
  rw [List.all_eq_true]
  intro c hc
  have := List.all_eq_true.mp h.2.2.1 c hc
  exact this
theorem ok_readfil (F : Fun K "read_filters" "read_filters" s_read_filters f fd) (T : TxR K mg CR CT CS CP) (c_Rows_begins : Met P w K mg base 2 CR "begins" (sp_begins CR)) (c_Rows_need : Met P w K mg base 3 CR "need" (sp_need CR CI))
    (c_Rows_words : Met P w K mg base 3 CR "words" (sp_words CR CI)) (c_is_number : Cal P w K mg base 1 "is_number" sp_is_number) (c_column_of : Cal P w K mg base 1 "column_of" (sp_colof CT)) : FnOk P w K mg base (L2.CX P w) 4 f fd ["rows", "tables"] (sp_readfil CR CT CI) := by
  refine F.okX sc_read_filters (fun vs H Q E h => ?_) (fun cdv A outer s H vs Q E hr h => ?_)
  · obtain ⟨p, d, r, td, L, n, ts, al, rfl, _⟩ := h
    rfl
  · obtain ⟨p, d, r, td, L, n, ts, al, rfl, R, hn, hd, k⟩ := h
    refine ⟨_, (pss_cons (ps_set (i := 2) sc_read_filters.nd rfl (Or.inl rfl) (pe_lst pa_nil))
  (pss_cons (ps_while (passes_of rfl) (pt_val (p_meth E c_Rows_begins hr (by decide) (passX rfl rfl rfl (takes_of rfl rfl rfl rfl)) (pv 0) (pa_cons pe_str pa_nil)))
  (pss_cons (ps_set (i := 3) sc_read_filters.nd rfl (Or.inl rfl) (p_meth E c_Rows_words hr (by decide) (passX rfl rfl rfl (takes_of rfl rfl rfl rfl)) (pv 0) (pa_cons pe_str pa_nil)))
  (pss_cons (ps_expr (p_meth E c_Rows_need hr (by decide) (passX rfl rfl rfl (takes_of rfl rfl rfl rfl)) (pv 0) (pa_cons (pe_and (pe_cmpR op_eq (pe_callB (call_len_seqK K rfl) (by rfl) T.b_len (by decide +kernel) (pa_cons (pv 3) pa_nil)) pe_int (nomark _)) (pe_and (pe_cmpR op_eq (pe_ix (ix_listK K rfl) (pv 3) pe_int (fun _ _ => rfl)) pe_str (nomark _)) (pe_one (p_call E c_is_number hr (by decide) (by rfl) (passX rfl rfl rfl (takes_of rfl rfl rfl rfl)) (pa_cons (pe_ix (ix_listK K rfl) (pv 3) pe_int (fun _ _ => rfl)) pa_nil))))) pa_nil)))
  (pss_cons (ps_set (i := 4) sc_read_filters.nd rfl (Or.inl rfl) (p_call E c_column_of hr (by decide) (by rfl) (passX rfl rfl rfl (takes_of rfl rfl rfl rfl)) (pa_cons (pe_ix (ix_listK K rfl) (pv 3) pe_int (fun _ _ => rfl)) (pa_cons (pv 1) pa_nil))))
  (pss_cons (ps_expr (p_meth E c_Rows_need hr (by decide) (passX rfl rfl rfl (takes_of rfl rfl rfl rfl)) (pv 0) (pa_cons (pe_cmpR op_notN (pv 4) pe_non (nomark _)) pa_nil)))
  (pss_cons (ps_expr (pe_bm PySem.F.plainAttrs_list PySem.F.slot_list_append PySem.F.type_list_append mt_append (pv 2) (pa_cons (pe_tup (pa_cons (pv 4) (pa_cons (pe_callTy call_int_str (by rfl) T.b_int (by decide +kernel) (pa_cons (pe_ix (ix_listK K rfl) (pv 3) pe_int (fun _ _ => rfl)) pa_nil)) pa_nil))) pa_nil)))
  (pss_one (ps_expr (p_meth E c_Rows_need hr (by decide) (passX rfl rfl rfl (takes_of rfl rfl rfl rfl)) (pv 0) (pa_cons (pe_cmpR op_le (pe_callB (call_len_seqK K rfl) (by rfl) T.b_len (by decide +kernel) (pa_cons (pv 2) pa_nil)) (p_gint T.g_MOST_FILTERS) (nomark _)) pa_nil))))))))))
  (pss_one (ps_ret (pv 2))))), ?_⟩
    refine ⟨Nat.zero_le _, fun l hl => ?_⟩
    have npl : p ≠ l := ne_of_none R.at_ hl
    have nrl : r ≠ l := ne_of_none R.rows hl
    have nlp : l ≠ p := npl.symm
    have ndp : td ≠ p := by obtain ⟨vs, e, _⟩ := hd; exact ne_of e R.at_ (by intro z; cases z)
    have ndl : td ≠ l := by obtain ⟨vs, e, _⟩ := hd; exact ne_of_none e hl
    refine ⟨fun m σ H' => ∃ ls vl n' v3 v4, σ = [some (.ref p), some (.ref td), some (.ref l), v3, v4] ∧ But [p] H H' ∧ Fix CR H H' ∧ DictT CT H' td ts al ∧ H' l = some (.lst vl) ∧ Each (FilR H') vl ls ∧ RowsAt CR H' p d r L n' ∧ n' ≤ L.length ∧ ls.length ≤ 5 ∧ m + ls.length = 6 ∧ filterLoop L ts al m n' ls = filterLoop L ts al 6 n [],
      ⟨6, [], [], n, none, none, rfl, But.of (newB hl), Fix.refl.new hl, hd.keep T.nT (newB hl) (by simp) (Fix.refl.new hl), upd_same, Each.nil, R.keep0 (newB hl), hn, by simp, rfl, rfl⟩, ?_⟩
    rintro m σ H2 ⟨ls, vl, n1, v3, v4, rfl, b2, f2, hd2, hl2, hel, R2, hn1, h4, hm, he⟩
    obtain ⟨m, rfl⟩ : ∃ m', m = m' + 1 := ⟨m - 1, by omega⟩
    refine ⟨_, rfl, p, d, _, rfl, R2.at_, rfl, p, d, r, L, n1, kWhere, rfl, R2, hn1, _, rfl, ?_⟩
    refine ite2 (fun ht => ⟨_, fun _ _ z => z, ?_⟩) (fun ht => ?_)
    · have e0 : filterLoop L ts al (m + 1) n1 ls = (match words L n1 kWhere with
        | none => .error n1
        | some ws =>
          if ws.length == 3 && (ws.getD 1 [] == kEq && isNumber (ws.getD 2 [])) then
            match colOf ts al (ws.getD 0 []) with
            | some a => if ls.length + 1 ≤ 5 then filterLoop L ts al m (n1 + 1) (ls ++ [(a, NumText.digitsVal (ws.getD 2 []))]) else .error n1
            | none => .error n1
          else .error n1) := by
        show (if begins L n1 kWhere = true then _ else _) = _
        rw [ht]; rfl
      refine ⟨_, rfl, p, d, _, rfl, R2.at_, rfl, p, d, r, L, n1, kWhere, rfl, R2, hn1, by decide, ?_⟩
      cases hw : words L n1 kWhere with
      | none =>
        rw [hw] at e0
        have e0 : filterLoop L ts al (m + 1) n1 ls = .error n1 := e0
        rw [← he, e0] at k
        exact k.later b2
      | some ws =>
        rw [hw] at e0
        have lt := words_lt hw
        have wz := words_short R2.size.2 hw
        intro H3 a b3 R3 ha0 ha
        have bp3 : But [p] H H3 := b2.trans b3
        have f3 : Fix CR H2 H3 := R2.fix b3
        have hd3 : DictT CT H3 td ts al := hd2.keep T.nT b3 (by simpa using ndp) f3
        have hl3 : H3 l = some (.lst vl) := b3.at1 hl2 nlp
        have hel3 : Each (FilR H3) vl ls := hel.mono fun _ _ z => z.fix f3
        have bad : ∀ {H'}, But [] H3 H' → filterLoop L ts al (m + 1) n1 ls = .error n1 → ErrE CI p H' E n1 := fun {H'} b e => by
          rw [← he, e] at k
          exact k.later (bp3.trans (But.of b))
        have e0 : filterLoop L ts al (m + 1) n1 ls = if (ws.length == 3 && (ws.getD 1 [] == kEq && isNumber (ws.getD 2 []))) = true then
            match colOf ts al (ws.getD 0 []) with
            | some a => if ls.length + 1 ≤ 5 then filterLoop L ts al m (n1 + 1) (ls ++ [(a, NumText.digitsVal (ws.getD 2 []))]) else .error n1
            | none => .error n1
          else .error n1 := e0
        refine sq_need (L := L) (n := n1) (b := ws.length == 3 && (ws.getD 1 [] == kEq && isNumber (ws.getD 2 []))) rfl R3 (fun Q' q => ?_) (fun hb H4 b4 => ?_) (fun hb H4 b4 => bad b4 (by rw [e0, hb]; rfl))
        · refine ⟨_, rfl, a, _, rfl, .inl (SqL.of ha), rfl, _, rfl, ?_⟩
          have e2 : decide (V.int (((svs ws).length : Nat) : Int) = V.int 3) = (ws.length == 3) := by rw [svs_len]; exact nat_eq ws.length 3
          rw [e2]
          cases h2 : (ws.length == 3) with
          | false =>
            rw [h2] at q
            exact iteF (q H3 But.refl)
          | true =>
            rw [h2, Bool.true_and] at q
            have l2 : ws.length = 3 := eq_of_beq h2
            refine iteT ⟨_, rfl, a, _, 1, _, rfl, rfl, SqL.of ha, ati (j := 1) (by omega), rfl, _, rfl, ?_⟩
            have ek : (V.str (Str.ofString "=")) = sv kEq := rfl
            rw [ek, sv_eq]
            cases h3 : (ws.getD 1 [] == kEq) with
            | false =>
              rw [h3] at q
              exact iteF (q H3 But.refl)
            | true =>
              rw [h3, Bool.true_and] at q
              exact iteT ⟨_, rfl, a, _, 2, _, rfl, rfl, SqL.of ha, ati (j := 2) (by omega), ws.getD 2 [], rfl, wz _ (ws_mem (by omega)), fun H4 b4 => q H4 b4⟩
        · rw [hb, if_pos rfl] at e0
          have hb' := (Bool.and_eq_true _ _).mp hb
          have l2 : ws.length = 3 := eq_of_beq hb'.1
          have hnum := num_digits ((Bool.and_eq_true _ _).mp hb'.2).2
          have ha4 := b4.at ha
          have hd4 := hd3.keep T.nT b4 (by simp) (b4.fix0 (CR := CR))
          refine ⟨_, rfl, a, _, 0, _, rfl, rfl, SqL.of ha4, ati (j := 0) (by omega), _, rfl, td, ts, al, ws.getD 0 [], rfl, wz _ (ws_mem (by omega)), hd4, fun H5 u b5 hu => ?_⟩
          have b35 := b4.trans b5
          have R5 := R3.keep0 b35
          refine sq_need (L := L) (n := n1) (b := (colOf ts al (ws.getD 0 [])).isSome) rfl R5 (fun Q' q => ?_) (fun hb2 H6 b6 => ?_) (fun hb2 H6 b6 => bad (b35.trans b6) ?_)
          · refine ⟨_, rfl, rfl, ?_⟩
            have e : (!decide (u = V.non)) = (colOf ts al (ws.getD 0 [])).isSome := by
              cases h : colOf ts al (ws.getD 0 []) with
              | none => rw [h] at hu; cases (show u = .non from hu); rfl
              | some c => rw [h] at hu; obtain ⟨_, rfl, _⟩ := (show ColR H5 u c from hu); rfl
            show Q' (.bl (!decide (u = V.non))) H5
            rw [e]
            exact q H5 But.refl
          · obtain ⟨c0, ec0⟩ := Option.isSome_iff_exists.mp hb2
            rw [ec0] at hu e0
            have e0 : filterLoop L ts al (m + 1) n1 ls = if ls.length + 1 ≤ 5 then filterLoop L ts al m (n1 + 1) (ls ++ [(c0, NumText.digitsVal (ws.getD 2 []))]) else .error n1 := e0
            have b36 := b35.trans b6
            have hl6 := b36.at hl3
            have ha6 := b36.at ha
            have hu6 : ColR H6 u c0 := ColR.fix (b6.fix0 (CR := CR)) hu
            refine ⟨_, rfl, tyList hl6, _, rfl, _, rfl, a, _, 2, _, rfl, rfl, SqL.of ha6, ati (j := 2) (by omega), S (ws.getD 2 []), _, rfl, hnum.1, by rw [S_len]; have := hnum.2; omega, szl (by simp), fun z hz2 => ?_⟩
            have bz : But [] H6 (upd H6 z (.tup [u, .int ((NumText.digitsVal (ws.getD 2 []) : Nat) : Int)])) := newB hz2
            have ez : (upd H6 z (.tup [u, .int ((NumText.digitsVal (ws.getD 2 []) : Nat) : Int)])) z = some (.tup [u, .int ((NumText.digitsVal (ws.getD 2 []) : Nat) : Int)]) := upd_same
            generalize upd H6 z (.tup [u, .int ((NumText.digitsVal (ws.getD 2 []) : Nat) : Int)]) = H8 at bz ez
            have b38 := b36.trans bz
            have hl8 := b38.at hl3
            have hu8 : ColR H8 u c0 := ColR.fix (bz.fix0 (CR := CR)) hu6
            have lvl : vl.length = ls.length := hel.1
            refine ⟨l, vl, .ref z, rfl, rfl, hl8, szt (by omega), ?_⟩
            have R8 := R3.keep0 b38
            have R9 := R8.put (o := .lst (vl ++ [.ref z])) npl nrl
            have b9 : But [p] H (upd H8 l (.lst (vl ++ [.ref z]))) := (bp3.trans (But.of b38)).put0 hl
            have f9 : Fix CR H3 (upd H8 l (.lst (vl ++ [.ref z]))) := fun x o hx i => by
              have nx : x ≠ l := fun q => by rw [q, hl3] at hx; cases hx; exact i
              rw [upd_ne nx]; exact b38.at hx
            have f89 : Fix CR H8 (upd H8 l (.lst (vl ++ [.ref z]))) := fun x o hx i => by
              have nx : x ≠ l := fun q => by rw [q, hl8] at hx; cases hx; exact i
              rw [upd_ne nx]; exact hx
            have nzl : z ≠ l := fun q => by rw [q, hl8] at ez; cases ez
            have new : Each (FilR (upd H8 l (.lst (vl ++ [.ref z])))) (vl ++ [.ref z]) (ls ++ [(c0, NumText.digitsVal (ws.getD 2 []))]) := (hel3.mono fun _ _ q => q.fix f9).snoc ⟨z, u, rfl, by rw [upd_ne nzl]; exact ez, ColR.fix f89 hu8⟩
            have hd9 : DictT CT (upd H8 l (.lst (vl ++ [.ref z]))) td ts al := (hd3.keep T.nT b38 (by simp) (b38.fix0 (CR := CR))).keep T.nT (But.refl.put (l := [l]) (by simp)) (by simpa using ndl) f89
            have ff : Fix CR H (upd H8 l (.lst (vl ++ [.ref z]))) := (f2.trans f3).trans f9
            have hl9 : (upd H8 l (.lst (vl ++ [.ref z]))) l = some (.lst (vl ++ [.ref z])) := upd_same
            have bx : ∀ {H'}, But [] (upd H8 l (.lst (vl ++ [.ref z]))) H' → filterLoop L ts al (m + 1) n1 ls = .error n1 → ErrE CI p H' E n1 := fun {H'} b e => by
              rw [← he, e] at k
              exact k.later (b9.trans (But.of b))
            generalize upd H8 l (.lst (vl ++ [.ref z])) = H9 at R9 b9 new hd9 ff hl9 bx
            refine st_need (L := L) (n := n1) (b := decide (ls.length + 1 ≤ 5)) rfl R9 (fun Q' q => ?_) (fun hb3 Hx bb => ?_) (fun hb3 Hx bb => bx bb (by rw [e0, if_neg (of_decide_eq_false hb3)]))
            · refine ⟨_, rfl, l, _, rfl, .inl (SqL.of hl9), _, 5, rfl, rfl, ?_⟩
              have el : decide (((vl ++ [V.ref z]).length : Int) ≤ 5) = decide (ls.length + 1 ≤ 5) := by
                rw [List.length_append, lvl]
                exact le_lit (n := ls.length + 1) (k := 5)
              show Q' (.bl (decide (((vl ++ [V.ref z]).length : Int) ≤ 5))) H9
              rw [el]
              exact q H9 But.refl
            · have h5 : ls.length + 1 ≤ 5 := of_decide_eq_true hb3
              rw [if_pos h5] at e0
              exact ⟨m, by omega, ls ++ [(c0, NumText.digitsVal (ws.getD 2 []))], vl ++ [.ref z], n1 + 1, _, _, rfl, b9.trans (But.of bb), ff.trans (bb.fix0 (CR := CR)), hd9.keep T.nT bb (by simp) (bb.fix0 (CR := CR)), bb.at hl9, new.mono fun _ _ q => q.fix (bb.fix0 (CR := CR)), R9.keep0 bb, lt, by simpa using h5, by simp; omega, by rw [← e0]; exact he⟩
          · rw [e0]
            cases h0 : colOf ts al (ws.getD 0 []) with
            | none => rfl
            | some c0 => rw [h0] at hb2; cases hb2
    · have e0 : filterLoop L ts al (m + 1) n1 ls = .ok (ls, n1) := by
        show (if begins L n1 kWhere = true then _ else _) = _
        rw [Bool.not_eq_true] at ht
        rw [ht]; rfl
      rw [← he, e0] at k
      exact ⟨_, rfl, k H2 l vl b2 R2 hn1 hl hl2 hel⟩
end
end Cn
set_option Elab.async false
set_option linter.all false
set_option maxRecDepth 100000
set_option maxHeartbeats 4000000
/-! reports: groups, the measure -/
namespace Cn
open PySem L2
theorem eqv_C (a b : Col) : PyData.eqv (pdC a) (pdC b) = (a == b) := by
  have e : PyData.eqv (pdC a) (pdC b) = ((S a.1 == S b.1) && ((S a.2 == S b.2) && true)) := rfl
  have h : ∀ x y : Cn.T, (S x == S y) = (x == y) := fun x y => by
    by_cases q : x = y
    · subst q; simp
    · rw [beq_eq_false_iff_ne.mpr q, beq_eq_false_iff_ne.mpr fun z => q (S_inj z)]
  rw [e, h, h, Bool.and_true]
  obtain ⟨a1, a2⟩ := a
  obtain ⟨b1, b2⟩ := b
  rfl
theorem any_C (c : Col) : ∀ gs : List Col, (gs.map pdC).any (fun z => PyData.eqv z (pdC c)) = gs.contains c
  | [] => rfl
  | g :: r => by
    rw [List.map_cons, List.any_cons, any_C c r, eqv_C, List.contains_cons]
    congr 1
    exact BEq.comm
theorem dpAll_C {K : PySem.W.Frag} {H : Hp} : ∀ {vs : List V} {gs : List Col}, Each (ColR H) vs gs → DpAll K H vs (gs.map pdC)
  | [], [], _ => .nil
  | [], _ :: _, h => by have := h.1; simp at this
  | _ :: _, [], h => by have := h.1; simp at this
  | v :: vs, g :: gs, h => .cons (dp_C (h.2 0 v g rfl rfl)) (dpAll_C ⟨by have := h.1; simpa using this, fun i a b p q => h.2 (i + 1) a b (by simpa using p) (by simpa using q)⟩)
theorem layAll_C : ∀ gs : List Col, (∀ g ∈ gs, isName g.1 = true ∧ isName g.2 = true) → PyData.canLayAll0 (gs.map pdC) = true
  | [], _ => by simp [PyData.canLayAll0]
  | g :: gs, h => by
    have h1 := lay_C (h g List.mem_cons_self)
    have h2 := layAll_C gs fun x hx => h x (List.mem_cons_of_mem _ hx)
    rw [List.map_cons]
    simp only [PyData.canLayAll0, h1, h2, Bool.and_self]
theorem depth_C (c : Col) : (pdC c).depth ≤ 8 := by simp [pdC, PyData.depth, PyData.depthAll]
section
variable {P : Program} {w : World} {K : PySem.W.Frag} {mg : Str → Option Value} {base : Heap} {CR CT CS CP CI : Addr} {f : Addr} {fd : FuncData}
theorem sc_read_groups : FnScope ["rows", "tables", "groups", "words", "column"] ["rows", "tables"] (defScope s_read_groups) := ⟨rfl, rfl, rfl, by decide +kernel, rfl, by decide +kernel, by decide +kernel⟩
theorem sc_read_measure : FnScope ["rows", "table", "words"] ["rows", "table"] (defScope s_read_measure) := ⟨rfl, rfl, rfl, by decide +kernel, rfl, by decide +kernel, by decide +kernel⟩
def sp_readgrp (CR CT CI : Addr) : Sp := fun vs H Q E => ∃ (p d r td : Addr) (L : List Cn.T) (n : Nat) (ts : List Tbl) (al : List (Cn.T × Cn.T)), vs = [.ref p, .ref td] ∧ RowsAt CR H p d r L n ∧ n ≤ L.length ∧ DictT CT H td ts al ∧ NmOk ts al ∧ (∀ t ∈ ts, WfT t) ∧ match groupLoop L ts al 4 n [] with
  | .error e => ErrE CI p H E e
  | .ok (ls, n') => ∀ H' l vl, But [p] H H' → RowsAt CR H' p d r L n' → n' ≤ L.length → H l = none → H' l = some (.lst vl) → Each (ColR H') vl ls → Q (.ref l) H'
theorem ok_readgrp (F : Fun K "read_groups" "read_groups" s_read_groups f fd) (T : TxR K mg CR CT CS CP) (c_Rows_begins : Met P w K mg base 2 CR "begins" (sp_begins CR)) (c_Rows_need : Met P w K mg base 3 CR "need" (sp_need CR CI))
    (c_Rows_words : Met P w K mg base 3 CR "words" (sp_words CR CI)) (c_column_of : Cal P w K mg base 1 "column_of" (sp_colof CT)) (c_optional_columns : Cal P w K mg base 1 "optional_columns" (sp_optcols CT)) : FnOk P w K mg base (L2.CX P w) 4 f fd ["rows", "tables"] (sp_readgrp CR CT CI) := by
  refine F.okX sc_read_groups (fun vs H Q E h => ?_) (fun cdv A outer s H vs Q E hr h => ?_)
  · obtain ⟨p, d, r, td, L, n, ts, al, rfl, _⟩ := h
    rfl
  · obtain ⟨p, d, r, td, L, n, ts, al, rfl, R, hn, hd, no, wf, k⟩ := h
    refine ⟨_, (pss_cons (ps_set (i := 2) sc_read_groups.nd rfl (Or.inl rfl) (pe_lst pa_nil))
  (pss_cons (ps_while (passes_of rfl) (pt_val (p_meth E c_Rows_begins hr (by decide) (passX rfl rfl rfl (takes_of rfl rfl rfl rfl)) (pv 0) (pa_cons pe_str pa_nil)))
  (pss_cons (ps_set (i := 3) sc_read_groups.nd rfl (Or.inl rfl) (p_meth E c_Rows_words hr (by decide) (passX rfl rfl rfl (takes_of rfl rfl rfl rfl)) (pv 0) (pa_cons pe_str pa_nil)))
  (pss_cons (ps_set (i := 4) sc_read_groups.nd rfl (Or.inl rfl) (p_call E c_column_of hr (by decide) (by rfl) (passX rfl rfl rfl (takes_of rfl rfl rfl rfl)) (pa_cons (pe_ix (ix_listK K rfl) (pv 3) pe_int (fun _ _ => rfl)) (pa_cons (pv 1) pa_nil))))
  (pss_cons (ps_expr (p_meth E c_Rows_need hr (by decide) (passX rfl rfl rfl (takes_of rfl rfl rfl rfl)) (pv 0) (pa_cons (pe_and (pe_cmpR op_eq (pe_callB (call_len_seqK K rfl) (by rfl) T.b_len (by decide +kernel) (pa_cons (pv 3) pa_nil)) pe_int (nomark _)) (pe_and (pe_cmpR op_notN (pv 4) pe_non (nomark _)) (pe_one (pe_cmpR (op_notInDK K rfl (hu64 hr)) (pv 4) (pv 2) (by rfl))))) pa_nil)))
  (pss_cons (ps_expr (p_meth E c_Rows_need hr (by decide) (passX rfl rfl rfl (takes_of rfl rfl rfl rfl)) (pv 0) (pa_cons (pe_cmpR (op_notIn_seqK K rfl) (pe_ix (ix_tupK K rfl) (pv 4) pe_int (fun _ _ => rfl)) (p_call E c_optional_columns hr (by decide) (by rfl) (passX rfl rfl rfl (takes_of rfl rfl rfl rfl)) (pa_cons (pe_dget (hu1 hr) (pv 1) (pe_ix (ix_tupK K rfl) (pv 4) pe_int (fun _ _ => rfl)) (fun _ _ => rfl)) pa_nil)) (by rfl)) pa_nil)))
  (pss_cons (ps_expr (pe_bm PySem.F.plainAttrs_list PySem.F.slot_list_append PySem.F.type_list_append mt_append (pv 2) (pa_cons (pv 4) pa_nil)))
  (pss_one (ps_expr (p_meth E c_Rows_need hr (by decide) (passX rfl rfl rfl (takes_of rfl rfl rfl rfl)) (pv 0) (pa_cons (pe_cmpR op_le (pe_callB (call_len_seqK K rfl) (by rfl) T.b_len (by decide +kernel) (pa_cons (pv 2) pa_nil)) (p_gint T.g_MOST_GROUPS) (nomark _)) pa_nil))))))))))
  (pss_one (ps_ret (pv 2))))), ?_⟩
    refine ⟨Nat.zero_le _, fun l hl => ?_⟩
    have npl : p ≠ l := ne_of_none R.at_ hl
    have nrl : r ≠ l := ne_of_none R.rows hl
    have nlp : l ≠ p := npl.symm
    have ndp : td ≠ p := by obtain ⟨vs, e, _⟩ := hd; exact ne_of e R.at_ (by intro z; cases z)
    have ndl : td ≠ l := by obtain ⟨vs, e, _⟩ := hd; exact ne_of_none e hl
    refine ⟨fun m σ H' => ∃ ls vl n' v3 v4, σ = [some (.ref p), some (.ref td), some (.ref l), v3, v4] ∧ But [p] H H' ∧ Fix CR H H' ∧ DictT CT H' td ts al ∧ H' l = some (.lst vl) ∧ Each (ColR H') vl ls ∧ (∀ g ∈ ls, isName g.1 = true ∧ isName g.2 = true) ∧ RowsAt CR H' p d r L n' ∧ n' ≤ L.length ∧ ls.length ≤ 3 ∧ m + ls.length = 4 ∧ groupLoop L ts al m n' ls = groupLoop L ts al 4 n [],
      ⟨4, [], [], n, none, none, rfl, But.of (newB hl), Fix.refl.new hl, hd.keep T.nT (newB hl) (by simp) (Fix.refl.new hl), upd_same, Each.nil, by simp, R.keep0 (newB hl), hn, by simp, rfl, rfl⟩, ?_⟩
    rintro m σ H2 ⟨ls, vl, n1, v3, v4, rfl, b2, f2, hd2, hl2, hel, hnm, R2, hn1, h4, hm, he⟩
    obtain ⟨m, rfl⟩ : ∃ m', m = m' + 1 := ⟨m - 1, by omega⟩
    refine ⟨_, rfl, p, d, _, rfl, R2.at_, rfl, p, d, r, L, n1, kBy, rfl, R2, hn1, _, rfl, ?_⟩
    refine ite2 (fun ht => ⟨_, fun _ _ z => z, ?_⟩) (fun ht => ?_)
    · have e0 : groupLoop L ts al (m + 1) n1 ls = (match words L n1 kBy with
        | none => .error n1
        | some ws =>
          match colOf ts al (ws.headD []) with
          | some a =>
            if ws.length == 1 && !ls.contains a then
              if ((aliasOf ts al a.1).map fun t => (optCols t).contains a.2) == some false then
                if ls.length + 1 ≤ 3 then groupLoop L ts al m (n1 + 1) (ls ++ [a]) else .error n1
              else .error n1
            else .error n1
          | none => .error n1) := by
        show (if begins L n1 kBy = true then _ else _) = _
        rw [ht]; rfl
      refine ⟨_, rfl, p, d, _, rfl, R2.at_, rfl, p, d, r, L, n1, kBy, rfl, R2, hn1, by decide, ?_⟩
      cases hw : words L n1 kBy with
      | none =>
        rw [hw] at e0
        have e0 : groupLoop L ts al (m + 1) n1 ls = .error n1 := e0
        rw [← he, e0] at k
        exact k.later b2
      | some ws =>
        rw [hw] at e0
        have lt := words_lt hw
        have wz := words_short R2.size.2 hw
        have w0 : 0 < ws.length := List.length_pos_iff.mpr (words_len hw)
        have eh : ws.headD [] = ws.getD 0 [] := by cases ws <;> rfl
        intro H3 a b3 R3 ha0 ha
        have bp3 : But [p] H H3 := b2.trans b3
        have f3 : Fix CR H2 H3 := R2.fix b3
        have hd3 : DictT CT H3 td ts al := hd2.keep T.nT b3 (by simpa using ndp) f3
        have hl3 : H3 l = some (.lst vl) := b3.at1 hl2 nlp
        have hel3 : Each (ColR H3) vl ls := hel.mono fun _ _ z => z.fix f3
        have bad : ∀ {H'}, But [] H3 H' → groupLoop L ts al (m + 1) n1 ls = .error n1 → ErrE CI p H' E n1 := fun {H'} b e => by
          rw [← he, e] at k
          exact k.later (bp3.trans (But.of b))
        have e0 : groupLoop L ts al (m + 1) n1 ls = match colOf ts al (ws.headD []) with
          | some a =>
            if ws.length == 1 && !ls.contains a then
              if ((aliasOf ts al a.1).map fun t => (optCols t).contains a.2) == some false then
                if ls.length + 1 ≤ 3 then groupLoop L ts al m (n1 + 1) (ls ++ [a]) else .error n1
              else .error n1
            else .error n1
          | none => .error n1 := e0
        rw [eh] at e0
        refine ⟨_, rfl, a, _, 0, _, rfl, rfl, SqL.of ha, ati (j := 0) (by omega), _, rfl, td, ts, al, ws.getD 0 [], rfl, wz _ (ws_mem (by omega)), hd3, fun H5 u b5 hu => ?_⟩
        have R5 := R3.keep0 b5
        have hl5 := b5.at hl3
        have hel5 : Each (ColR H5) vl ls := hel3.mono fun _ _ z => z.fix (b5.fix0 (CR := CR))
        refine sq_need (L := L) (n := n1) (b := ws.length == 1 && match colOf ts al (ws.getD 0 []) with | some c => !ls.contains c | none => false) rfl R5 (fun Q' q => ?_) (fun hb H6 b6 => ?_) (fun hb H6 b6 => bad (b5.trans b6) ?_)
        · refine ⟨_, rfl, a, _, rfl, .inl (SqL.of (b5.at ha)), rfl, _, rfl, ?_⟩
          have e2 : decide (V.int (((svs ws).length : Nat) : Int) = V.int 1) = (ws.length == 1) := by rw [svs_len]; exact nat_eq ws.length 1
          rw [e2]
          cases h2 : (ws.length == 1) with
          | false =>
            rw [h2] at q
            exact iteF (q H5 But.refl)
          | true =>
            rw [h2, Bool.true_and] at q
            refine iteT ⟨_, rfl, rfl, _, rfl, ?_⟩
            cases hc : colOf ts al (ws.getD 0 []) with
            | none =>
              rw [hc] at hu q
              cases (show u = .non from hu)
              exact iteF (q H5 But.refl)
            | some c =>
              rw [hc] at hu q
              have hu : ColR H5 u c := hu
              obtain ⟨qa, rfl, hqa⟩ := id hu
              refine iteT ?_
              have nm := colOf_names no hc
              refine ⟨_, rfl, _, rfl, pdC c, ls.map pdC, dp_C hu, .lst (SqL.of hl5) (dpAll_C hel5), lay_C nm, layAll_C ls hnm, Nat.le_trans (Nat.min_le_right _ _) (depth_C c), ?_⟩
              rw [any_C]
              exact q H5 But.refl
        · obtain ⟨c0, ec0⟩ : ∃ c, colOf ts al (ws.getD 0 []) = some c := by
            cases h : colOf ts al (ws.getD 0 []) with
            | none => rw [h, Bool.and_false] at hb; cases hb
            | some c => exact ⟨c, rfl⟩
          rw [ec0] at hu e0 hb
          have hu : ColR H5 u c0 := hu
          have hb : (ws.length == 1 && !ls.contains c0) = true := hb
          have e0 : groupLoop L ts al (m + 1) n1 ls = if (ws.length == 1 && !ls.contains c0) = true then
              if (((aliasOf ts al c0.1).map fun t => (optCols t).contains c0.2) == some false) = true then
                if ls.length + 1 ≤ 3 then groupLoop L ts al m (n1 + 1) (ls ++ [c0]) else .error n1
              else .error n1
            else .error n1 := e0
          rw [if_pos hb] at e0
          obtain ⟨t0, et0, ht0⟩ := colOf_ok ec0
          have tm := (alias_mem et0).2
          have wt := wf t0 tm
          rw [et0] at e0
          have e0 : groupLoop L ts al (m + 1) n1 ls = if (some ((optCols t0).contains c0.2) == some false) = true then
                if ls.length + 1 ≤ 3 then groupLoop L ts al m (n1 + 1) (ls ++ [c0]) else .error n1
              else .error n1 := e0
          have b36 := b5.trans b6
          have R6 := R3.keep0 b36
          have hd6 := hd3.keep T.nT b36 (by simp) (b36.fix0 (CR := CR))
          obtain ⟨qa, eu, hqa⟩ := ColR.fix (b6.fix0 (CR := CR)) hu
          subst eu
          obtain ⟨o, g, _, g1⟩ := hd6.get c0.1
          obtain ⟨tv, rfl, htv⟩ := g1 t0 et0
          obtain ⟨tb, dx, ca, ua, ra, ks, rs, rfl, _⟩ := id htv
          refine sq_need (L := L) (n := n1) (b := !(optCols t0).contains c0.2) rfl R6 (fun Q' q => ?_) (fun hb2 H7 b7 => ?_) (fun hb2 H7 b7 => bad (b36.trans b7) ?_)
          · refine ⟨_, rfl, qa, _, 1, _, rfl, rfl, SqT.of hqa, rfl, _, rfl, _, rfl, qa, _, 0, _, rfl, rfl, SqT.of hqa, rfl, td, _, rfl, g, tb, t0, rfl, htv, wt.refs, fun r hr => (wt.ref r hr).1, fun H7 oc b7 hoc0 hoc => ?_⟩
            refine ⟨oc, svs (optCols t0), rfl, .inl (SqL.of hoc), rfl, flat_svs _, ?_⟩
            rw [if_pos rfl, inV_svs]
            exact q H7 b7
          · have ef : (some ((optCols t0).contains c0.2) == some false) = true := by
              rw [Bool.not_eq_true'] at hb2
              rw [hb2]; rfl
            rw [if_pos ef] at e0
            have b37 := b36.trans b7
            have hl7 := b37.at hl3
            have hqa7 := b7.at hqa
            have lvl : vl.length = ls.length := hel.1
            refine ⟨_, rfl, tyList hl7, _, rfl, l, vl, .ref qa, rfl, rfl, hl7, szt (by omega), ?_⟩
            have R8 := R3.keep0 b37
            have R9 := R8.put (o := .lst (vl ++ [.ref qa])) npl nrl
            have b9 : But [p] H (upd H7 l (.lst (vl ++ [.ref qa]))) := (bp3.trans (But.of b37)).put0 hl
            have f9 : Fix CR H3 (upd H7 l (.lst (vl ++ [.ref qa]))) := fun x o hx i => by
              have nx : x ≠ l := fun q => by rw [q, hl3] at hx; cases hx; exact i
              rw [upd_ne nx]; exact b37.at hx
            have f79 : Fix CR H7 (upd H7 l (.lst (vl ++ [.ref qa]))) := fun x o hx i => by
              have nx : x ≠ l := fun q => by rw [q, hl7] at hx; cases hx; exact i
              rw [upd_ne nx]; exact hx
            have nql : qa ≠ l := fun q => by rw [q, hl7] at hqa7; cases hqa7
            have new : Each (ColR (upd H7 l (.lst (vl ++ [.ref qa])))) (vl ++ [.ref qa]) (ls ++ [c0]) := (hel3.mono fun _ _ q => q.fix f9).snoc ⟨qa, rfl, by rw [upd_ne nql]; exact hqa7⟩
            have hd9 : DictT CT (upd H7 l (.lst (vl ++ [.ref qa]))) td ts al := (hd3.keep T.nT b37 (by simp) (b37.fix0 (CR := CR))).keep T.nT (But.refl.put (l := [l]) (by simp)) (by simpa using ndl) f79
            have ff : Fix CR H (upd H7 l (.lst (vl ++ [.ref qa]))) := (f2.trans f3).trans f9
            have hl9 : (upd H7 l (.lst (vl ++ [.ref qa]))) l = some (.lst (vl ++ [.ref qa])) := upd_same
            have bx : ∀ {H'}, But [] (upd H7 l (.lst (vl ++ [.ref qa]))) H' → groupLoop L ts al (m + 1) n1 ls = .error n1 → ErrE CI p H' E n1 := fun {H'} b e => by
              rw [← he, e] at k
              exact k.later (b9.trans (But.of b))
            generalize upd H7 l (.lst (vl ++ [.ref qa])) = H9 at R9 b9 new hd9 ff hl9 bx
            refine st_need (L := L) (n := n1) (b := decide (ls.length + 1 ≤ 3)) rfl R9 (fun Q' q => ?_) (fun hb3 Hx bb => ?_) (fun hb3 Hx bb => bx bb (by rw [e0, if_neg (of_decide_eq_false hb3)]))
            · refine ⟨_, rfl, l, _, rfl, .inl (SqL.of hl9), _, 3, rfl, rfl, ?_⟩
              have el : decide (((vl ++ [V.ref qa]).length : Int) ≤ 3) = decide (ls.length + 1 ≤ 3) := by
                rw [List.length_append, lvl]
                exact le_lit (n := ls.length + 1) (k := 3)
              show Q' (.bl (decide (((vl ++ [V.ref qa]).length : Int) ≤ 3))) H9
              rw [el]
              exact q H9 But.refl
            · have h5 : ls.length + 1 ≤ 3 := of_decide_eq_true hb3
              rw [if_pos h5] at e0
              refine ⟨m, by omega, ls ++ [c0], vl ++ [.ref qa], n1 + 1, _, _, rfl, b9.trans (But.of bb), ff.trans (bb.fix0 (CR := CR)), hd9.keep T.nT bb (by simp) (bb.fix0 (CR := CR)), bb.at hl9, new.mono fun _ _ q => q.fix (bb.fix0 (CR := CR)), fun g hg => ?_, R9.keep0 bb, lt, by simpa using h5, by simp; omega, by rw [← e0]; exact he⟩
              rcases List.mem_append.mp hg with q | q
              · exact hnm g q
              · rw [List.mem_singleton.mp q]; exact colOf_names no ec0
          · have ef : (some ((optCols t0).contains c0.2) == some false) = false := by
              rw [Bool.not_eq_false'] at hb2
              rw [hb2]; rfl
            rw [e0, ef]; rfl
        · rw [e0]
          cases h0 : colOf ts al (ws.getD 0 []) with
          | none => rfl
          | some c0 =>
            rw [h0] at hb
            have hb : (ws.length == 1 && !ls.contains c0) = false := hb
            show (if (ws.length == 1 && !ls.contains c0) = true then _ else _) = _
            rw [hb]; rfl
    · have e0 : groupLoop L ts al (m + 1) n1 ls = .ok (ls, n1) := by
        show (if begins L n1 kBy = true then _ else _) = _
        rw [Bool.not_eq_true] at ht
        rw [ht]; rfl
      rw [← he, e0] at k
      exact ⟨_, rfl, k H2 l vl b2 R2 hn1 hl hl2 hel⟩
/-! ### read_measure -/
def MeR (v : V) : Option Cn.T → Prop
  | none => v = .non
  | some m => v = sv m
def sp_readmea (CR CT CI : Addr) : Sp := fun vs H Q E => ∃ (p d r tb : Addr) (L : List Cn.T) (n : Nat) (t : Tbl), vs = [.ref p, .ref tb] ∧ RowsAt CR H p d r L n ∧ n ≤ L.length ∧ TblR CT H (.ref tb) t ∧ WfT t ∧ match readMeasure L n t with
  | .error e => ErrE CI p H E e
  | .ok (me, n') => ∀ H' v, But [p] H H' → RowsAt CR H' p d r L n' → n' ≤ L.length → MeR v me → Q v H'
theorem ok_readmea (F : Fun K "read_measure" "read_measure" s_read_measure f fd) (T : TxR K mg CR CT CS CP) (c_Rows_begins : Met P w K mg base 2 CR "begins" (sp_begins CR)) (c_Rows_need : Met P w K mg base 3 CR "need" (sp_need CR CI))
    (c_Rows_words : Met P w K mg base 3 CR "words" (sp_words CR CI)) (c_Rows_exactly : Met P w K mg base 3 CR "exactly" (sp_exactly CR CI)) (c_optional_columns : Cal P w K mg base 1 "optional_columns" (sp_optcols CT)) : FnOk P w K mg base (L2.CX P w) 4 f fd ["rows", "table"] (sp_readmea CR CT CI) := by
  refine F.okX sc_read_measure (fun vs H Q E h => ?_) (fun cdv A outer s H vs Q E hr h => ?_)
  · obtain ⟨p, d, r, tb, L, n, t, rfl, _⟩ := h
    rfl
  · obtain ⟨p, d, r, tb, L, n, t, rfl, R, hn, ht, wf, k⟩ := h
    refine ⟨_, (pss_cons (ps_if (pt_not (pt_val (p_meth E c_Rows_begins hr (by decide) (passX rfl rfl rfl (takes_of rfl rfl rfl rfl)) (pv 0) (pa_cons pe_str pa_nil))))
  (pss_cons (ps_expr (p_meth E c_Rows_exactly hr (by decide) (passX rfl rfl rfl (takes_of rfl rfl rfl rfl)) (pv 0) (pa_cons pe_str pa_nil)))
  (pss_one (ps_ret pe_non)))
  pss_nil)
  (pss_cons (ps_set (i := 2) sc_read_measure.nd rfl (Or.inl rfl) (p_meth E c_Rows_words hr (by decide) (passX rfl rfl rfl (takes_of rfl rfl rfl rfl)) (pv 0) (pa_cons pe_str pa_nil)))
  (pss_cons (ps_expr (p_meth E c_Rows_need hr (by decide) (passX rfl rfl rfl (takes_of rfl rfl rfl rfl)) (pv 0) (pa_cons (pe_and (pe_cmpR op_eq (pe_callB (call_len_seqK K rfl) (by rfl) T.b_len (by decide +kernel) (pa_cons (pv 2) pa_nil)) pe_int (nomark _)) (pe_one (pe_cmpR (op_in_seqK K rfl) (pe_ix (ix_listK K rfl) (pv 2) pe_int (fun _ _ => rfl)) (pe_fldK K rfl (pv 1) rfl) (by rfl)))) pa_nil)))
  (pss_cons (ps_expr (p_meth E c_Rows_need hr (by decide) (passX rfl rfl rfl (takes_of rfl rfl rfl rfl)) (pv 0) (pa_cons (pe_cmpR (op_notIn_seqK K rfl) (pe_ix (ix_listK K rfl) (pv 2) pe_int (fun _ _ => rfl)) (p_call E c_optional_columns hr (by decide) (by rfl) (passX rfl rfl rfl (takes_of rfl rfl rfl rfl)) (pa_cons (pv 1) pa_nil)) (by rfl)) pa_nil)))
  (pss_one (ps_ret (pe_ix (ix_listK K rfl) (pv 2) pe_int (fun _ _ => rfl)))))))), ?_⟩
    unfold readMeasure at k
    show tSeq (tIfS _ _ tNext) _ _ _ _
    refine ⟨_, rfl, p, d, _, rfl, R.at_, rfl, p, d, r, L, n, kSum, rfl, R, hn, _, rfl, ?_⟩
    cases hb : begins L n kSum with
    | false =>
      rw [hb] at k
      have k : match (if exactly L n kRows then (.ok (none, n + 1) : Except Nat (Option Cn.T × Nat)) else .error n) with
        | .error e => ErrE CI p H E e
        | .ok (me, n') => ∀ H' v, But [p] H H' → RowsAt CR H' p d r L n' → n' ≤ L.length → MeR v me → Q v H' := k
      refine iteT ?_
      refine ⟨_, rfl, p, d, _, rfl, R.at_, rfl, p, d, r, L, n, kRows, rfl, R, hn, ?_⟩
      cases he : exactly L n kRows with
      | false =>
        rw [he] at k
        exact iteF k
      | true =>
        rw [he] at k
        have k : ∀ H' v, But [p] H H' → RowsAt CR H' p d r L (n + 1) → n + 1 ≤ L.length → MeR v none → Q v H' := k
        exact iteT fun H1 b1 R1 => k H1 .non b1 R1 (exactly_lt he) rfl
    | true =>
      rw [hb] at k
      have k : match (match words L n kSum with
        | none => (.error n : Except Nat (Option Cn.T × Nat))
        | some ws => if ws.length == 1 && (t.cols.contains (ws.headD []) && !(optCols t).contains (ws.headD [])) then .ok (some (ws.headD []), n + 1) else .error n) with
        | .error e => ErrE CI p H E e
        | .ok (me, n') => ∀ H' v, But [p] H H' → RowsAt CR H' p d r L n' → n' ≤ L.length → MeR v me → Q v H' := k
      refine iteF ?_
      refine ⟨_, rfl, p, d, _, rfl, R.at_, rfl, p, d, r, L, n, kSum, rfl, R, hn, by decide, ?_⟩
      cases hw : words L n kSum with
      | none =>
        rw [hw] at k
        exact k
      | some ws =>
        rw [hw] at k
        have lt := words_lt hw
        have w0 : 0 < ws.length := List.length_pos_iff.mpr (words_len hw)
        have eh : ws.headD [] = ws.getD 0 [] := by cases ws <;> rfl
        have k : match (if ws.length == 1 && (t.cols.contains (ws.headD []) && !(optCols t).contains (ws.headD [])) then (.ok (some (ws.headD []), n + 1) : Except Nat (Option Cn.T × Nat)) else .error n) with
          | .error e => ErrE CI p H E e
          | .ok (me, n') => ∀ H' v, But [p] H H' → RowsAt CR H' p d r L n' → n' ≤ L.length → MeR v me → Q v H' := k
        rw [eh] at k
        intro H3 a b3 R3 ha0 ha
        have ht3 := ht.fix T.nT (R.fix b3)
        obtain ⟨tb', dx, ca, ua, ra, ks, rs, etb, htb, hca, _⟩ := id ht3
        cases etb
        have bad : (ws.length == 1 && (t.cols.contains (ws.getD 0 []) && !(optCols t).contains (ws.getD 0 []))) = false → ∀ {H'}, But [] H3 H' → ErrE CI p H' E n := fun e {H'} b => by
          rw [e] at k
          exact ErrE.later k (b3.trans (But.of b))
        refine sq_need (L := L) (n := n) (b := ws.length == 1 && t.cols.contains (ws.getD 0 [])) rfl R3 (fun Q' q => ?_) (fun hb H4 b4 => ?_) (fun hb H4 b4 => bad (by rw [← Bool.and_assoc, hb, Bool.false_and]) b4)
        · refine ⟨_, rfl, a, _, rfl, .inl (SqL.of ha), rfl, _, rfl, ?_⟩
          have e2 : decide (V.int (((svs ws).length : Nat) : Int) = V.int 1) = (ws.length == 1) := by rw [svs_len]; exact nat_eq ws.length 1
          rw [e2]
          cases h2 : (ws.length == 1) with
          | false =>
            rw [h2] at q
            exact iteF (q H3 But.refl)
          | true =>
            rw [h2, Bool.true_and] at q
            refine iteT ⟨_, rfl, a, _, 0, _, rfl, rfl, SqL.of ha, ati (j := 0) (by omega), _, rfl, tb, CT, dx, _, _, rfl, htb, T.clT, T.naT2, tf_columns, ca, svs t.cols, rfl, .inr (SqT.of hca), rfl, flat_svs _, ?_⟩
            rw [if_neg Bool.false_ne_true, inV_svs]
            exact q H3 But.refl
        · have ha4 := b4.at ha
          have ht4 := ht3.fix T.nT (b4.fix0 (CR := CR))
          refine sq_need (L := L) (n := n) (b := !(optCols t).contains (ws.getD 0 [])) rfl (R3.keep0 b4) (fun Q' q => ?_) (fun hb2 H5 b5 => ?_) (fun hb2 H5 b5 => bad (by rw [hb2, Bool.and_false, Bool.and_false]) (b4.trans b5))
          · refine ⟨_, rfl, a, _, 0, _, rfl, rfl, SqL.of ha4, ati (j := 0) (by omega), _, rfl, tb, t, rfl, ht4, wf.refs, fun r hr => (wf.ref r hr).1, fun H7 oc b7 hoc0 hoc => ?_⟩
            refine ⟨oc, svs (optCols t), rfl, .inl (SqL.of hoc), rfl, flat_svs _, ?_⟩
            rw [if_pos rfl, inV_svs]
            exact q H7 b7
          · have e : (ws.length == 1 && (t.cols.contains (ws.getD 0 []) && !(optCols t).contains (ws.getD 0 []))) = true := by
              rw [← Bool.and_assoc, hb, hb2]; rfl
            rw [e] at k
            have k : ∀ H' v, But [p] H H' → RowsAt CR H' p d r L (n + 1) → n + 1 ≤ L.length → MeR v (some (ws.getD 0 [])) → Q v H' := k
            exact ⟨_, rfl, a, _, 0, _, rfl, rfl, SqL.of (b5.at ha4), ati (j := 0) (by omega), k H5 _ (b3.trans (But.of (b4.trans b5))) ((R3.keep0 b4).keep0 b5) lt rfl⟩
end
end Cn
set_option Elab.async false
set_option linter.all false
set_option maxRecDepth 100000
set_option maxHeartbeats 4000000
/-! reports: their rows -/
namespace Cn
open PySem L2
def rpf (s : V) (n : Cn.T) (a l f g : Addr) (m : V) : List (Str × V) := [("schema", s), ("name", sv n), ("aliases", .ref a), ("links", .ref l), ("filters", .ref f), ("groups", .ref g), ("measure", m)]
structure WfR (r : Rep) : Prop where
  name : r.name.length ≤ 8
  al : r.aliases.length ≤ 4
  als : ∀ p ∈ r.aliases, p.1.length ≤ 8 ∧ p.2.length ≤ 8
  ls : r.links.length ≤ 20
  lss : ∀ x ∈ r.links, (x.1.1.length ≤ 8 ∧ x.1.2.length ≤ 8) ∧ x.2.1.length ≤ 8 ∧ x.2.2.length ≤ 8
  fs : r.filters.length ≤ 5
  fss : ∀ x ∈ r.filters, (x.1.1.length ≤ 8 ∧ x.1.2.length ≤ 8) ∧ x.2 ≤ 1000000000
  gs : r.groups.length ≤ 3
  gss : ∀ x ∈ r.groups, x.1.length ≤ 8 ∧ x.2.length ≤ 8
  me : ∀ m, r.measure = some m → m.length ≤ 8
structure PartsR (H : Hp) (a l f g : Addr) (m : V) (va vl vf vg : List V) (r : Rep) : Prop where
  ha : H a = some (.tup va)
  ea : Each (ColR H) va r.aliases
  hl : H l = some (.tup vl)
  el : Each (LinkR H) vl r.links
  hf : H f = some (.tup vf)
  ef : Each (FilR H) vf r.filters
  hg : H g = some (.tup vg)
  eg : Each (ColR H) vg r.groups
  em : MeR m r.measure
theorem PartsR.keep {CR : Addr} {H H' : Hp} {a l f g : Addr} {m : V} {va vl vf vg : List V} {r : Rep} (h : PartsR H a l f g m va vl vf vg r) (x : Fix CR H H') : PartsR H' a l f g m va vl vf vg r :=
  ⟨x a _ h.ha trivial, h.ea.mono fun _ _ z => z.fix x, x l _ h.hl trivial, h.el.mono fun _ _ z => z.fix x, x f _ h.hf trivial, h.ef.mono fun _ _ z => z.fix x, x g _ h.hg trivial, h.eg.mono fun _ _ z => z.fix x, h.em⟩
theorem aliasRows_snoc (p : Cn.T × Cn.T) : ∀ xs : List (Cn.T × Cn.T), aliasRows (xs ++ [p]) = aliasRows xs ++ [aliasRow xs.isEmpty p]
  | [] => rfl
  | x :: r => by
    show aliasRow true x :: (r ++ [p]).map (aliasRow false) = _
    rw [List.map_append]; rfl
theorem numL_short {n : Nat} (h : n ≤ 1000000000) : (TL.numL n).length ≤ 10 := by
  have e : (10 : Nat) ^ 10 = 10000000000 := by decide
  exact TL.numL_len (k := 10) (by decide) (by omega)
theorem take_snoc {α : Type} {xs : List α} {i : Nat} {x : α} (h : xs[i]? = some x) : xs.take (i + 1) = xs.take i ++ [x] := by rw [List.take_add_one, h]; rfl
theorem take_emp {α : Type} {xs : List α} {i : Nat} {x : α} (h : xs[i]? = some x) : (xs.take i).isEmpty = decide (i = 0) := by
  have := (List.getElem?_eq_some_iff.mp h).1
  cases xs with
  | nil => cases h
  | cons y r => cases i with
    | zero => rfl
    | succ i => rfl
theorem aliasRows_len (xs : List (Cn.T × Cn.T)) : (aliasRows xs).length = xs.length := by
  cases xs with
  | nil => rfl
  | cons x r => show (_ :: _ : List Cn.T).length = _; simp
theorem svs_snoc (A : List Cn.T) (m : Cn.T) : svs (A ++ [m]) = svs A ++ [sv m] := svs_app A [m]
theorem num_log {n : Nat} (h : n ≤ 1000000000) : (((n : Nat) : Int).natAbs).log2 < 1920 := by
  rw [Int.natAbs_natCast]
  cases n with
  | zero => decide
  | succ n =>
    have e : (2 : Nat) ^ 100 = 1267650600228229401496703205376 := by decide
    exact (Nat.log2_lt (by omega)).mpr (Nat.lt_of_lt_of_le (show n + 1 < 2 ^ 100 by omega) (Nat.pow_le_pow_right (by decide) (by decide)))
section
variable {P : Program} {w : World} {K : PySem.W.Frag} {mg : Str → Option Value} {base : Heap} {CR CT CS CP CI : Addr} {f : Addr} {fd : FuncData}
theorem sc_report_rows : FnScope ["report", "rows", "number", "alias", "table", "word", "column", "other", "value"] ["report"] (defScope s_report_rows) := ⟨rfl, rfl, rfl, by decide +kernel, rfl, by decide +kernel, by decide +kernel⟩
def sp_reprows (CP : Addr) : Sp := fun vs H Q _ => ∃ (x dx a l f g : Addr) (s m : V) (va vl vf vg : List V) (r : Rep), vs = [.ref x] ∧ H x = some (.ins CP dx (rpf s r.name a l f g m)) ∧ PartsR H a l f g m va vl vf vg r ∧ WfR r ∧
  ∀ H' q, But [] H H' → H q = none → H' q = some (.lst (svs (repRows r))) → Q (.ref q) H'
theorem ok_reprows (F : Fun K "report_rows" "report_rows" s_report_rows f fd) (T : TxR K mg CR CT CS CP) (c_column_word : Cal P w K mg base 1 "column_word" sp_colword) : FnOk P w K mg base (L2.CX P w) 2 f fd ["report"] (sp_reprows CP) := by
  refine F.okX sc_report_rows (fun vs H Q E h => ?_) (fun cdv A outer s H vs Q E hr h => ?_)
  · obtain ⟨_, _, _, _, _, _, _, _, _, _, _, _, _, rfl, _⟩ := h
    rfl
  · obtain ⟨x, dx, aa, la, fa, ga, sv0, mv, va, vl, vf, vg, r, rfl, hx, hp, wf, k⟩ := h
    refine ⟨_, (pss_cons (ps_set (i := 1) sc_report_rows.nd rfl (Or.inl rfl) (pe_lst (pa_cons (pe_joined (.cons pe_str (.cons (pe_fmt (pe_fldK K rfl (pv 0) rfl)) .nil))) pa_nil)))
  (pss_cons (ps_for (passes_of rfl) (by rfl) (pi_enumTK K rfl (by rfl) T.b_enumerate (pa_cons (pe_fldK K rfl (pv 0) rfl) pa_nil)) (pg_tup (by rfl) (pgs_cons (pg_name (i := 2) sc_report_rows.nd rfl (Or.inl rfl)) (pgs_cons (pg_tup (by rfl) (pgs_cons (pg_name (i := 3) sc_report_rows.nd rfl (Or.inl rfl)) (pgs_cons (pg_name (i := 4) sc_report_rows.nd rfl (Or.inl rfl)) pgs_nil))) pgs_nil)))
  (pss_cons (ps_set (i := 5) sc_report_rows.nd rfl (Or.inl rfl) (pe_ifExp (pt_cmpR op_gt (pv 2) pe_int (nomark _)) pe_str pe_str))
  (pss_one (ps_expr (pe_bm PySem.F.plainAttrs_list PySem.F.slot_list_append PySem.F.type_list_append mt_append (pv 1) (pa_cons (pe_joined (.cons pe_str (.cons (pe_fmt (pv 5)) (.cons pe_str (.cons (pe_fmt (pv 4)) (.cons pe_str (.cons (pe_fmt (pv 3)) .nil))))))) pa_nil))))))
  (pss_cons (ps_for (passes_of rfl) (by rfl) (pi_tupK K rfl (pe_fldK K rfl (pv 0) rfl)) (pg_tup (by rfl) (pgs_cons (pg_name (i := 6) sc_report_rows.nd rfl (Or.inl rfl)) (pgs_cons (pg_name (i := 7) sc_report_rows.nd rfl (Or.inl rfl)) pgs_nil)))
  (pss_one (ps_expr (pe_bm PySem.F.plainAttrs_list PySem.F.slot_list_append PySem.F.type_list_append mt_append (pv 1) (pa_cons (pe_joined (.cons pe_str (.cons (pe_fmt (p_call E c_column_word hr (by decide) (by rfl) (passX rfl rfl rfl (takes_of rfl rfl rfl rfl)) (pa_cons (pv 6) pa_nil))) (.cons pe_str (.cons (pe_fmt (p_call E c_column_word hr (by decide) (by rfl) (passX rfl rfl rfl (takes_of rfl rfl rfl rfl)) (pa_cons (pv 7) pa_nil))) .nil))))) pa_nil)))))
  (pss_cons (ps_for (passes_of rfl) (by rfl) (pi_tupK K rfl (pe_fldK K rfl (pv 0) rfl)) (pg_tup (by rfl) (pgs_cons (pg_name (i := 6) sc_report_rows.nd rfl (Or.inl rfl)) (pgs_cons (pg_name (i := 8) sc_report_rows.nd rfl (Or.inl rfl)) pgs_nil)))
  (pss_one (ps_expr (pe_bm PySem.F.plainAttrs_list PySem.F.slot_list_append PySem.F.type_list_append mt_append (pv 1) (pa_cons (pe_joined (.cons pe_str (.cons (pe_fmt (p_call E c_column_word hr (by decide) (by rfl) (passX rfl rfl rfl (takes_of rfl rfl rfl rfl)) (pa_cons (pv 6) pa_nil))) (.cons pe_str (.cons (pe_fmt (pv 8)) .nil))))) pa_nil)))))
  (pss_cons (ps_for (passes_of rfl) (by rfl) (pi_tupK K rfl (pe_fldK K rfl (pv 0) rfl)) (pg_name (i := 6) sc_report_rows.nd rfl (Or.inl rfl))
  (pss_one (ps_expr (pe_bm PySem.F.plainAttrs_list PySem.F.slot_list_append PySem.F.type_list_append mt_append (pv 1) (pa_cons (pe_joined (.cons pe_str (.cons (pe_fmt (p_call E c_column_word hr (by decide) (by rfl) (passX rfl rfl rfl (takes_of rfl rfl rfl rfl)) (pa_cons (pv 6) pa_nil))) .nil))) pa_nil)))))
  (pss_cons (ps_expr (pe_bm PySem.F.plainAttrs_list PySem.F.slot_list_append PySem.F.type_list_append mt_append (pv 1) (pa_cons (pe_ifExp (pt_cmpR op_isN (pe_fldK K rfl (pv 0) rfl) pe_non (nomark _)) pe_str (pe_joined (.cons pe_str (.cons (pe_fmt (pe_fldK K rfl (pv 0) rfl)) .nil)))) pa_nil)))
  (pss_cons (ps_expr (pe_bm PySem.F.plainAttrs_list PySem.F.slot_list_append PySem.F.type_list_append mt_append (pv 1) (pa_cons pe_str pa_nil)))
  (pss_one (ps_ret (pv 1)))))))))), ?_⟩
    have z8 := wf.name
    have sz : ∀ {m : Cn.T}, m.length ≤ 100 → (S m).length ≤ sizeLine := fun h => szl (by rw [S_len]; omega)
    refine ⟨S kReport, rfl, szl (by rw [empty_app, S_len]; decide), _, rfl, x, CP, dx, _, _, rfl, hx, T.clP, T.naP2, rfl, .inl ⟨S r.name, rfl, sz (by omega), S r.name, rfl, ?_, ?_⟩⟩
    · rw [empty_app, S_app]
      exact sz (by rw [List.length_append]; have : kReport.length = 7 := rfl; omega)
    rw [empty_app, S_app]
    refine ⟨szl (by simp), fun l hl => ?_⟩
    have bl : ∀ {H' : Hp} {o : HO}, But [] H H' → But [] H (upd H' l o) := fun b => b.put0 hl
    have nl : ∀ {a : Addr} {o : HO}, H a = some o → a ≠ l := fun e => ne_of_none e hl
    -- aliases
    refine ⟨_, rfl, x, CP, dx, _, _, rfl, (newB hl).at hx, T.clP, T.naP3, rfl, aa, va, rfl, SqT.of ((newB hl).at hp.ha), ?_⟩
    refine for_it (walk_enumT (K := K) (a := aa) (xs := va)) (fun i σ H' => ∃ v2 v3 v4 v5, σ = [some (.ref x), some (.ref l), v2, v3, v4, v5, none, none, none] ∧ But [] H H' ∧ H' l = some (.lst (svs ([kReport ++ r.name] ++ aliasRows (r.aliases.take i)))))
      ⟨_, _, _, _, rfl, newB hl, by rw [upd_same]; rfl⟩ (fun i σ H' _ ⟨_, _, _, _, _, b, _⟩ => SqT.of (b.at hp.ha)) (fun i y σ H1 H1' hi ⟨v2, v3, v4, v5, es, b, hl1⟩ yy => ?_) (fun σ H1 ⟨v2, v3, v4, v5, es, b, hl1⟩ => ?_)
    · obtain ⟨T0, x0, y0, rfl, hT, rfl, ex0, ey0⟩ := yy
      cases ex0
      obtain ⟨c, hc, q, rfl, hq⟩ := hp.ea.at ey0
      subst es
      obtain ⟨c8, c82⟩ := wf.als c (List.mem_of_getElem? hc)
      have hi4 : i < 4 := by have := (List.getElem?_eq_some_iff.mp hc).1; have := wf.al; omega
      have bT : But [] H1 (upd H1 T0 (.tup [.int (i : Nat), .ref q])) := newB hT
      have hqT := bT.at (b.at hq)
      have hlT := bT.at hl1
      refine ⟨T0, _, rfl, SqT.of upd_same, rfl, _, _, rfl, _, _, rfl, q, _, rfl, SqT.of hqT, rfl, _, _, rfl, _, _, rfl, rfl, rfl, ?_⟩
      refine ⟨_, rfl, _, _, rfl, rfl, _, rfl, str_go ?_⟩
      have ew : (if decide ((0 : Int) < (i : Nat)) = true then ("join" : Str) else ("from" : Str)) = S (if decide (i = 0) then [102, 114, 111, 109] else [106, 111, 105, 110]) := by
        cases i with
        | zero => rfl
        | succ i => have : decide ((0 : Int) < ((i + 1 : Nat) : Int)) = true := decide_eq_true (by omega)
                    rw [this]; rfl
      have er : aliasRow (decide (i = 0)) c = [32, 32] ++ ((if decide (i = 0) then [102, 114, 111, 109] else [106, 111, 105, 110]) ++ ([32] ++ (c.2 ++ ([32] ++ c.1)))) := by
        unfold aliasRow
        cases decide (i = 0) <;> rfl
      have wl : (if decide (i = 0) = true then ([102, 114, 111, 109] : Cn.T) else [106, 111, 105, 110]).length ≤ 8 := by cases decide (i = 0) <;> decide
      refine (show _ from ?_)
      rw [ew]
      generalize (if decide (i = 0) = true then ([102, 114, 111, 109] : Cn.T) else [106, 111, 105, 110]) = wd at wl er ⊢
      refine ⟨_, rfl, tyList hlT, S [32, 32], rfl, by rw [empty_app]; exact sz (by decide), ?_⟩
      rw [empty_app]
      refine ⟨_, rfl, .inl ⟨S wd, rfl, sz (by omega), S wd, rfl, by rw [S_app]; exact sz (by simp; omega), ?_⟩⟩
      rw [S_app]
      refine ⟨S [32], rfl, by rw [S_app]; exact sz (by simp; omega), ?_⟩
      rw [S_app]
      refine ⟨_, rfl, .inl ⟨S c.2, rfl, sz (by omega), S c.2, rfl, by rw [S_app]; exact sz (by simp; omega), ?_⟩⟩
      rw [S_app]
      refine ⟨S [32], rfl, by rw [S_app]; exact sz (by simp; omega), ?_⟩
      rw [S_app]
      refine ⟨_, rfl, .inl ⟨S c.1, rfl, sz (by omega), S c.1, rfl, by rw [S_app]; exact sz (by simp; omega), ?_⟩⟩
      rw [S_app]
      refine ⟨l, _, _, rfl, rfl, hlT, szt (by rw [svs_len]; simp [aliasRows_len]; omega), _, _, _, _, rfl, (b.trans bT).put0 hl, ?_⟩
      rw [upd_same]
      congr 2
      rw [take_snoc hc, aliasRows_snoc, take_emp hc, ← List.append_assoc, svs_snoc, er]
      simp only [List.append_assoc]
    subst es
    rw [hp.ea.1, List.take_length] at hl1
    -- links
    refine ⟨_, rfl, x, CP, dx, _, _, rfl, b.at hx, T.clP, T.naP4, rfl, la, rfl, ⟨_, SqT.of (b.at hp.hl)⟩, ?_⟩
    refine for_it (walk_tup (K := K) (a := la) (xs := vl)) (fun i σ H' => ∃ v2 v3 v4 v5 v6 v7 v8, σ = [some (.ref x), some (.ref l), v2, v3, v4, v5, v6, v7, v8] ∧ But [] H H' ∧ H' l = some (.lst (svs (([kReport ++ r.name] ++ aliasRows r.aliases) ++ (r.links.take i).map linkRow))))
      ⟨_, _, _, _, _, _, _, rfl, b, by rw [hl1]; simp⟩ (fun i σ H' _ ⟨_, _, _, _, _, _, _, _, b, _⟩ => SqT.of (b.at hp.hl)) (fun i y σ H2 H2' hi ⟨v2, v3, v4, v5, v6, v7, v8, es, b2, hl2⟩ yy => ?_) (fun σ H2 ⟨v2, v3, v4, v5, v6, v7, v8, es, b2, hl2⟩ => ?_)
    · obtain ⟨rfl, hy⟩ := yy
      obtain ⟨c, hc, q, u, v, rfl, hq, hu, hv⟩ := hp.el.at hy
      subst es
      obtain ⟨⟨c1, c2⟩, c3, c4⟩ := wf.lss c (List.mem_of_getElem? hc)
      have hi2 : i < 20 := by have := (List.getElem?_eq_some_iff.mp hc).1; have := wf.ls; omega
      have f2 := b2.fix0 (CR := CR)
      have l1 : (colW c.1).length ≤ 17 := by unfold colW; simp; omega
      have l2 : (colW c.2).length ≤ 17 := by unfold colW; simp; omega
      refine ⟨q, _, rfl, SqT.of (b2.at hq), rfl, _, _, rfl, _, _, rfl, rfl, ?_⟩
      refine ⟨_, rfl, tyList hl2, S kLink, rfl, by rw [empty_app]; exact sz (by decide), ?_⟩
      rw [empty_app]
      refine ⟨_, rfl, u, c.1, rfl, hu.fix f2, c1, c2, .inl ⟨S (colW c.1), rfl, sz (by omega), S (colW c.1), rfl, by rw [S_app]; exact sz (by have : kLink.length = 7 := rfl; simp; omega), ?_⟩⟩
      rw [S_app]
      refine ⟨S [32, 61, 32], rfl, by rw [S_app]; exact sz (by have : kLink.length = 7 := rfl; simp; omega), ?_⟩
      rw [S_app]
      refine ⟨_, rfl, v, c.2, rfl, hv.fix f2, c3, c4, .inl ⟨S (colW c.2), rfl, sz (by omega), S (colW c.2), rfl, by rw [S_app]; exact sz (by have : kLink.length = 7 := rfl; simp; omega), ?_⟩⟩
      rw [S_app]
      refine ⟨l, _, _, rfl, rfl, hl2, szt (by rw [svs_len]; simp [aliasRows_len]; have := wf.al; omega), _, _, _, _, _, _, _, rfl, b2.put0 hl, ?_⟩
      rw [upd_same]
      congr 2
      rw [take_snoc hc, List.map_append, ← List.append_assoc, ← svs_one]
      show _ ++ [sv _] = _ ++ [sv (kLink ++ (colW c.1 ++ ([32, 61, 32] ++ colW c.2)))]
      simp only [List.append_assoc]
    subst es
    rw [hp.el.1, List.take_length] at hl2
    -- filters
    refine ⟨_, rfl, x, CP, dx, _, _, rfl, b2.at hx, T.clP, T.naP5, rfl, fa, rfl, ⟨_, SqT.of (b2.at hp.hf)⟩, ?_⟩
    refine for_it (walk_tup (K := K) (a := fa) (xs := vf)) (fun i σ H' => ∃ v2 v3 v4 v5 v6 v7 v8, σ = [some (.ref x), some (.ref l), v2, v3, v4, v5, v6, v7, v8] ∧ But [] H H' ∧ H' l = some (.lst (svs ((([kReport ++ r.name] ++ aliasRows r.aliases) ++ r.links.map linkRow) ++ (r.filters.take i).map filterRow))))
      ⟨_, _, _, _, _, _, _, rfl, b2, by rw [hl2]; simp⟩ (fun i σ H' _ ⟨_, _, _, _, _, _, _, _, b, _⟩ => SqT.of (b.at hp.hf)) (fun i y σ H3 H3' hi ⟨v2, v3, v4, v5, v6, v7, v8, es, b3, hl3⟩ yy => ?_) (fun σ H3 ⟨v2, v3, v4, v5, v6, v7, v8, es, b3, hl3⟩ => ?_)
    · obtain ⟨rfl, hy⟩ := yy
      obtain ⟨c, hc, q, u, rfl, hq, hu⟩ := hp.ef.at hy
      subst es
      obtain ⟨⟨c1, c2⟩, c3⟩ := wf.fss c (List.mem_of_getElem? hc)
      have hi2 : i < 5 := by have := (List.getElem?_eq_some_iff.mp hc).1; have := wf.fs; omega
      have f3 := b3.fix0 (CR := CR)
      have l1 : (colW c.1).length ≤ 17 := by unfold colW; simp; omega
      have l2 := numL_short c3
      refine ⟨q, _, rfl, SqT.of (b3.at hq), rfl, _, _, rfl, _, _, rfl, rfl, ?_⟩
      refine ⟨_, rfl, tyList hl3, S kWhere, rfl, by rw [empty_app]; exact sz (by decide), ?_⟩
      rw [empty_app]
      refine ⟨_, rfl, u, c.1, rfl, hu.fix f3, c1, c2, .inl ⟨S (colW c.1), rfl, sz (by omega), S (colW c.1), rfl, by rw [S_app]; exact sz (by have : kWhere.length = 8 := rfl; simp; omega), ?_⟩⟩
      rw [S_app]
      refine ⟨S [32, 61, 32], rfl, by rw [S_app]; exact sz (by have : kWhere.length = 8 := rfl; simp; omega), ?_⟩
      rw [S_app]
      refine ⟨_, rfl, .inr ⟨_, rfl, num_log c3, _, rfl, ?_, ?_⟩⟩
      · rw [str_numL, S_app]; exact sz (by have : kWhere.length = 8 := rfl; simp; omega)
      rw [str_numL, S_app]
      refine ⟨l, _, _, rfl, rfl, hl3, szt (by rw [svs_len]; simp [aliasRows_len]; have := wf.al; have := wf.ls; omega), _, _, _, _, _, _, _, rfl, b3.put0 hl, ?_⟩
      rw [upd_same]
      congr 2
      rw [take_snoc hc, List.map_append, ← List.append_assoc, ← svs_one]
      show _ ++ [sv _] = _ ++ [sv (kWhere ++ (colW c.1 ++ ([32, 61, 32] ++ TL.numL c.2)))]
      simp only [List.append_assoc]
    subst es
    rw [hp.ef.1, List.take_length] at hl3
    -- groups
    refine ⟨_, rfl, x, CP, dx, _, _, rfl, b3.at hx, T.clP, T.naP6, rfl, ga, rfl, ⟨_, SqT.of (b3.at hp.hg)⟩, ?_⟩
    refine for_it (walk_tup (K := K) (a := ga) (xs := vg)) (fun i σ H' => ∃ v2 v3 v4 v5 v6 v7 v8, σ = [some (.ref x), some (.ref l), v2, v3, v4, v5, v6, v7, v8] ∧ But [] H H' ∧ H' l = some (.lst (svs (((([kReport ++ r.name] ++ aliasRows r.aliases) ++ r.links.map linkRow) ++ r.filters.map filterRow) ++ (r.groups.take i).map groupRow))))
      ⟨_, _, _, _, _, _, _, rfl, b3, by rw [hl3]; simp⟩ (fun i σ H' _ ⟨_, _, _, _, _, _, _, _, b, _⟩ => SqT.of (b.at hp.hg)) (fun i y σ H4 H4' hi ⟨v2, v3, v4, v5, v6, v7, v8, es, b4, hl4⟩ yy => ?_) (fun σ H4 ⟨v2, v3, v4, v5, v6, v7, v8, es, b4, hl4⟩ => ?_)
    · obtain ⟨rfl, hy⟩ := yy
      obtain ⟨c, hc, hu⟩ := hp.eg.at hy
      subst es
      obtain ⟨c1, c2⟩ := wf.gss c (List.mem_of_getElem? hc)
      have hi2 : i < 3 := by have := (List.getElem?_eq_some_iff.mp hc).1; have := wf.gs; omega
      have f4 := b4.fix0 (CR := CR)
      have l1 : (colW c).length ≤ 17 := by unfold colW; simp; omega
      refine ⟨_, rfl, tyList hl4, S kBy, rfl, by rw [empty_app]; exact sz (by decide), ?_⟩
      rw [empty_app]
      refine ⟨_, rfl, _, c, rfl, hu.fix f4, c1, c2, .inl ⟨S (colW c), rfl, sz (by omega), S (colW c), rfl, by rw [S_app]; exact sz (by have : kBy.length = 5 := rfl; simp; omega), ?_⟩⟩
      rw [S_app]
      refine ⟨l, _, _, rfl, rfl, hl4, szt (by rw [svs_len]; simp [aliasRows_len]; have := wf.al; have := wf.ls; have := wf.fs; omega), _, _, _, _, _, _, _, rfl, b4.put0 hl, ?_⟩
      rw [upd_same]
      congr 2
      rw [take_snoc hc, List.map_append, ← List.append_assoc, ← svs_one]
      rfl
    subst es
    rw [hp.eg.1, List.take_length] at hl4
    -- the measure
    have hz : ((((([kReport ++ r.name] ++ aliasRows r.aliases) ++ r.links.map linkRow) ++ r.filters.map filterRow) ++ r.groups.map groupRow) : List Cn.T).length ≤ 40 := by
      simp [aliasRows_len]; have := wf.al; have := wf.ls; have := wf.fs; have := wf.gs; omega
    have er : repRows r = ((((([kReport ++ r.name] ++ aliasRows r.aliases) ++ r.links.map linkRow) ++ r.filters.map filterRow) ++ r.groups.map groupRow) ++ [match r.measure with
      | none => kRows
      | some m => kSum ++ m]) ++ [kEnd] := by unfold repRows; cases r.measure <;> simp only [List.append_assoc]
    generalize ((((([kReport ++ r.name] ++ aliasRows r.aliases) ++ r.links.map linkRow) ++ r.filters.map filterRow) ++ r.groups.map groupRow) : List Cn.T) = A at hl4 hz er
    have hx4 := b4.at hx
    have em := hp.em
    refine ⟨_, rfl, tyList hl4, _, rfl, x, CP, dx, _, _, rfl, hx4, T.clP, T.naP7, rfl, rfl, _, rfl, ?_⟩
    cases hm : r.measure with
    | none =>
      rw [hm] at em er
      cases (show mv = .non from em)
      refine iteT ⟨l, _, _, rfl, rfl, hl4, szt (by rw [svs_len]; omega), ?_⟩
      refine ⟨_, rfl, tyList (H := upd H4 l (.lst (svs A ++ [sv kRows]))) upd_same, l, _, sv kEnd, rfl, rfl, upd_same, szt (by rw [List.length_append, svs_len]; simp; omega), _, rfl, k _ l ((b4.put0 hl).put0 hl) hl (by
        rw [upd_same, er, svs_snoc, svs_snoc] <;> rfl)⟩
    | some m =>
      rw [hm] at em er
      cases (show mv = sv m from em)
      have m8 := wf.me m hm
      refine iteF ⟨S kSum, rfl, by rw [empty_app]; exact sz (by decide), ?_⟩
      rw [empty_app]
      refine ⟨_, rfl, x, CP, dx, _, _, rfl, hx4, T.clP, T.naP7, rfl, .inl ⟨S m, rfl, sz (by omega), S m, rfl, by rw [S_app]; exact sz (by have : kSum.length = 6 := rfl; simp; omega), ?_⟩⟩
      rw [S_app]
      refine ⟨l, _, _, rfl, rfl, hl4, szt (by rw [svs_len]; omega), ?_⟩
      refine ⟨_, rfl, tyList (H := upd H4 l (.lst (svs A ++ [sv (kSum ++ m)]))) upd_same, l, _, sv kEnd, rfl, rfl, upd_same, szt (by rw [List.length_append, svs_len]; simp; omega), _, rfl, k _ l ((b4.put0 hl).put0 hl) hl (by
        rw [upd_same, er, svs_snoc, svs_snoc] <;> rfl)⟩
end
end Cn
set_option Elab.async false
set_option linter.all false
set_option maxRecDepth 100000
set_option maxHeartbeats 4000000
/-! reports: made and written; the end of rows; tables by name -/
namespace Cn
open PySem L2
structure UnkT (K : PySem.W.Frag) (CU : Addr) : Prop where
  ox : OexC K CU
  na : PySem.W.findIn K (.ref CU) "name" = some none
section
variable {P : Program} {w : World} {K : PySem.W.Frag} {mg : Str → Option Value} {base : Heap} {CR CT CS CP CI CU : Addr} {f : Addr} {fd : FuncData}
theorem sc_UnknownTable_init : FnScope ["self", "name"] ["self", "name"] (defScope s_UnknownTable_init) := ⟨rfl, rfl, rfl, by decide +kernel, rfl, by decide +kernel, by decide +kernel⟩
theorem sc_Schema_table : FnScope ["self", "name", "table"] ["self", "name"] (defScope s_Schema_table) := ⟨rfl, rfl, rfl, by decide +kernel, rfl, by decide +kernel, by decide +kernel⟩
theorem sc_Rows_finish : FnScope ["self"] ["self"] (defScope s_Rows_finish) := ⟨rfl, rfl, rfl, by decide +kernel, rfl, by decide +kernel, by decide +kernel⟩
theorem sc_Report_init : FnScope ["self", "schema", "name", "aliases", "links", "filters", "groups", "measure"] ["self", "schema", "name", "aliases", "links", "filters", "groups", "measure"] (defScope s_Report_init) := ⟨rfl, rfl, rfl, by decide +kernel, rfl, by decide +kernel, by decide +kernel⟩
theorem sc_Report_str : FnScope ["self"] ["self"] (defScope s_Report_str) := ⟨rfl, rfl, rfl, by decide +kernel, rfl, by decide +kernel, by decide +kernel⟩
def sp_finish (CR CI : Addr) : Sp := fun vs H Q E => ∃ p dx l L n, vs = [.ref p] ∧ RowsAt CR H p dx l L n ∧ if (n == L.length) = true then Q .non H else ErrE CI p H E n
theorem ok_finish (F : Fun K "finish" "Rows.finish" s_Rows_finish f fd) (T : TxR K mg CR CT CS CP) (c_Rows_all_read : Met P w K mg base 1 CR "all_read" (sp_all_read CR)) (x_InvalidText : Xn P w K mg base 1 "InvalidText" "row" CI) : FnOk P w K mg base (L2.CX P w) 3 f fd ["self"] (sp_finish CR CI) := by
  refine F.okX sc_Rows_finish (fun vs H Q E h => ?_) (fun cdv A outer s H vs Q E hr h => ?_)
  · obtain ⟨p, dx, l, L, n, rfl, _⟩ := h
    rfl
  · obtain ⟨p, dx, l, L, n, rfl, R, k⟩ := h
    obtain ⟨hp, hl, _⟩ := id R
    refine ⟨_, (pss_one (ps_if (pt_not (pt_val (p_meth0 E c_Rows_all_read hr (by decide) (passX rfl rfl rfl (takes_of rfl rfl rfl rfl)) (pv 0))))
  (pss_one (p_raise x_InvalidText hr (by decide) (takes_of rfl rfl rfl rfl) (by rfl) (pa_cons (pe_fldK K rfl (pv 0) rfl) pa_nil)))
  pss_nil)), ?_⟩
    refine ⟨_, rfl, p, dx, _, rfl, hp, rfl, p, dx, l, L, n, rfl, R, _, rfl, ?_⟩
    cases e : (n == L.length) with
    | true => rw [e] at k; exact iteF k
    | false =>
      rw [e] at k
      exact iteT ⟨_, rfl, p, CR, dx, _, _, rfl, hp, T.clR, T.naR2, rf_at, fun H' d b _ hd => k H' d (But.of b) hd⟩
theorem ok_UnknownTable_initR (F : Fun K "__init__" "UnknownTable.__init__" s_UnknownTable_init f fd) (ox : OexC K CU) (na : PySem.W.findIn K (.ref CU) "name" = some none) : FnOk P w K mg base (L2.CX P w) 1 f fd ["self", "name"] (sp_exinit CU "name") := by
  refine F.okX sc_UnknownTable_init (fun vs H Q E h => ?_) (fun cdv A outer s H vs Q E hr h => ?_)
  · obtain ⟨a, v, rfl, _⟩ := h
    rfl
  · obtain ⟨a, v, rfl, ha, k⟩ := h
    refine ⟨_, pss_one (ps_ost (pv 0) (pv 1)), ?_⟩
    exact ⟨_, rfl, _, rfl, a, CU, rfl, ox, na, .inl ⟨ha, k⟩⟩
def sp_tableR (CT CS CU : Addr) : Sp := fun vs H Q E => ∃ a ts n, vs = [.ref a, sv n] ∧ SchR CS CT H (.ref a) ts ∧ (∀ v t, tabOf ts n = some t → TblR CT H v t → Q v H) ∧ (n ∉ ts.map (·.name) → ∀ H' d, But [] H H' → H' d = some (.xd [("name", sv n)]) → E (.ref CU) (some d) H')
theorem tabOf_at {ts : List Tbl} {n : Cn.T} {i : Nat} {t : Tbl} (h : ts[i]? = some t) (hn : n ∉ (ts.take i).map (·.name)) (e : t.name = n) : tabOf ts n = some t := by
  have hs : ts = ts.take i ++ t :: ts.drop (i + 1) := by
    have h1 := (List.getElem?_eq_some_iff.mp h)
    obtain ⟨h1, h2⟩ := h1
    rw [← h2, List.getElem_cons_drop, List.take_append_drop]
  rw [hs]
  unfold tabOf
  rw [List.find?_append]
  have : (ts.take i).find? (fun t => t.name == n) = none := by
    rw [List.find?_eq_none]
    intro x hx hb
    exact hn (List.mem_map.mpr ⟨x, hx, eq_of_beq hb⟩)
  rw [this]
  simp [e]
theorem ok_tableR (F : Fun K "table" "Schema.table" s_Schema_table f fd) (T : TxR K mg CR CT CS CP) (x_UnknownTable : Xn P w K mg base 1 "UnknownTable" "name" CU) : FnOk P w K mg base (L2.CX P w) 3 f fd ["self", "name"] (sp_tableR CT CS CU) := by
  refine F.okX sc_Schema_table (fun vs H Q E h => ?_) (fun cdv A outer s H vs Q E hr h => ?_)
  · obtain ⟨a, ts, n, rfl, _⟩ := h
    rfl
  · obtain ⟨a, ts, n, rfl, ⟨a', dx, tt, vt, e, ha, htt, hvt⟩, k1, k2⟩ := h
    cases e
    refine ⟨_, (pss_cons (ps_for (passes_of rfl) (by rfl) (pi_tupK K rfl (pe_fldK K rfl (pv 0) rfl)) (pg_name (i := 2) sc_Schema_table.nd rfl (Or.inl rfl))
  (pss_one (ps_if (pt_cmpR op_eq (pe_fldK K rfl (pv 2) rfl) (pv 1) (nomark _))
  (pss_one (ps_ret (pv 2)))
  pss_nil)))
  (pss_one (p_raise x_UnknownTable hr (by decide) (takes_of rfl rfl rfl rfl) (by rfl) (pa_cons (pv 1) pa_nil)))), ?_⟩
    refine ⟨_, rfl, a, CS, dx, _, _, rfl, ha, T.clS, T.naS1, sf_tables, tt, rfl, ⟨_, SqT.of htt⟩, ?_⟩
    refine for_it (walk_tup (K := K) (a := tt) (xs := vt)) (fun i σ H' => (∃ v2, σ = [some (.ref a), some (sv n), v2]) ∧ H' = H ∧ n ∉ (ts.take i).map (·.name)) ⟨⟨_, rfl⟩, rfl, by simp⟩ (fun i σ H' _ e => by rw [e.2.1]; exact SqT.of htt) (fun i v σ H1 H1' hi ⟨⟨v2, es⟩, eh, hn⟩ y => ?_) (fun σ H1 ⟨⟨v2, es⟩, eh, hn⟩ => ?_)
    · obtain ⟨rfl, hv⟩ := y
      subst es eh
      obtain ⟨t, ht, htr⟩ := hvt.at hv
      obtain ⟨b, dx2, ca, ua, ra, ks, rs, rfl, hb, _⟩ := id htr
      refine ⟨_, rfl, b, CT, dx2, _, _, rfl, hb, T.clT, T.naT1, tf_name, _, rfl, ?_⟩
      refine ⟨rfl, _, rfl, ?_⟩
      rw [sv_eq]
      refine ite2 (fun hd => ?_) (fun hd => ?_)
      · exact ⟨_, rfl, k1 _ t (tabOf_at ht hn (eq_of_beq hd)) htr⟩
      · refine ⟨⟨_, rfl⟩, rfl, fun hm => ?_⟩
        have st : ts.take (i + 1) = ts.take i ++ [t] := by rw [List.take_add_one, ht]; rfl
        rw [st, List.map_append, List.mem_append] at hm
        rcases hm with z | z
        · exact hn z
        · rw [List.map_singleton, List.mem_singleton] at z
          exact hd (by rw [z]; exact beq_self_eq_true _)
    · subst es eh
      rw [hvt.1, List.take_length] at hn
      exact ⟨_, rfl, fun H' d b _ hd => k2 hn H' d b hd⟩
/-! ### tuples stay -/
def Tk (H H' : Hp) : Prop := ∀ a vs, H a = some (.tup vs) → H' a = some (.tup vs)
theorem Tk.of {H H' : Hp} {x C d : Addr} {fs : List (Str × V)} (b : But [x] H H') (hx : H x = some (.ins C d fs)) : Tk H H' := fun a vs h => b a _ (by
  rw [List.mem_singleton]
  intro z
  rw [z, hx] at h
  cases h) h
theorem Tk.but {H H' : Hp} (b : But [] H H') : Tk H H' := fun a vs h => b.at h
theorem ColR.tk {H H' : Hp} (f : Tk H H') {v : V} {c : Col} (h : ColR H v c) : ColR H' v c := let ⟨a, e, z⟩ := h; ⟨a, e, f a _ z⟩
theorem LinkR.tk {H H' : Hp} (f : Tk H H') {v : V} {x : Col × Col} (h : LinkR H v x) : LinkR H' v x := let ⟨a, u, w, e, z, h1, h2⟩ := h; ⟨a, u, w, e, f a _ z, h1.tk f, h2.tk f⟩
theorem FilR.tk {H H' : Hp} (f : Tk H H') {v : V} {x : Col × Nat} (h : FilR H v x) : FilR H' v x := let ⟨a, u, e, z, h1⟩ := h; ⟨a, u, e, f a _ z, h1.tk f⟩
theorem PartsR.tk {H H' : Hp} {a l f g : Addr} {m : V} {va vl vf vg : List V} {r : Rep} (h : PartsR H a l f g m va vl vf vg r) (x : Tk H H') : PartsR H' a l f g m va vl vf vg r :=
  ⟨x a _ h.ha, h.ea.mono fun _ _ z => z.tk x, x l _ h.hl, h.el.mono fun _ _ z => z.tk x, x f _ h.hf, h.ef.mono fun _ _ z => z.tk x, x g _ h.hg, h.eg.mono fun _ _ z => z.tk x, h.em⟩
theorem fldPut {H H1 : Hp} {x C d : Addr} {fs : List (Str × V)} (b : But [x] H H1) (nm : Str) (v : V) : But [x] H (upd H1 x (.ins C d (putF nm v fs))) ∧ (upd H1 x (.ins C d (putF nm v fs))) x = some (.ins C d (putF nm v fs)) := ⟨b.put (by simp), upd_same⟩
theorem tupPut {H H1 : Hp} {x C d a : Addr} {fs : List (Str × V)} {ys : List V} (b : But [x] H H1) (hx : H1 x = some (.ins C d fs)) (ha : H1 a = none) (nm : Str) (v : V) : (upd H1 a (.tup ys)) x = some (.ins C d fs) ∧
    But [x] H (upd (upd H1 a (.tup ys)) x (.ins C d (putF nm v fs))) ∧ But [x] H1 (upd (upd H1 a (.tup ys)) x (.ins C d (putF nm v fs))) ∧ (upd (upd H1 a (.tup ys)) x (.ins C d (putF nm v fs))) x = some (.ins C d (putF nm v fs)) ∧ (upd (upd H1 a (.tup ys)) x (.ins C d (putF nm v fs))) a = some (.tup ys) := by
  have ne : a ≠ x := fun z => by rw [z, hx] at ha; cases ha
  refine ⟨by rw [upd_ne ne.symm]; exact hx, (b.new ha).put (by simp), ((newB ha).of).put (by simp), upd_same, by rw [upd_ne ne, upd_same]⟩
/-! ### Report.__init__ -/
def rpt (s : V) (n : Cn.T) (a l f g : Addr) (m : V) (x : Cn.T) : List (Str × V) := rpf s n a l f g m ++ [(("_text" : Str), sv x)]
def RepR (CP CS CT : Addr) (H : Hp) (v : V) (ts : List Tbl) (r : Rep) : Prop := ∃ x dx s a l f g m va vl vf vg, v = .ref x ∧ H x = some (.ins CP dx (rpt s r.name a l f g m (repText r))) ∧ SchR CS CT H s ts ∧ PartsR H a l f g m va vl vf vg r
def sp_Report_init (CP : Addr) : Sp := fun vs H Q _ => ∃ (x dx la ll lf lg : Addr) (s m : V) (va vl vf vg : List V) (r : Rep), vs = [.ref x, s, sv r.name, .ref la, .ref ll, .ref lf, .ref lg, m] ∧ H x = some (.ins CP dx []) ∧
  H la = some (.lst va) ∧ Each (ColR H) va r.aliases ∧ H ll = some (.lst vl) ∧ Each (LinkR H) vl r.links ∧ H lf = some (.lst vf) ∧ Each (FilR H) vf r.filters ∧ H lg = some (.lst vg) ∧ Each (ColR H) vg r.groups ∧ MeR m r.measure ∧ WfR r ∧
  ∀ H' a l f g, But [x] H H' → H' x = some (.ins CP dx (rpt s r.name a l f g m (repText r))) → PartsR H' a l f g m va vl vf vg r → Q .non H'
theorem rows_len {r : Rep} (wf : WfR r) : (repRows r).length ≤ 40 ∧ ∀ x ∈ repRows r, x.length ≤ 100 := by
  have h1 := wf.name; have h2 := wf.al; have h3 := wf.ls; have h4 := wf.fs; have h5 := wf.gs
  have cw : ∀ c : Col, c.1.length ≤ 8 → c.2.length ≤ 8 → (colW c).length ≤ 17 := fun c a b => by unfold colW; simp; omega
  have k1 : kReport.length = 7 := rfl
  have k2 : kFrom.length = 7 := rfl
  have k3 : kJoin.length = 7 := rfl
  have k4 : kLink.length = 7 := rfl
  have k5 : kWhere.length = 8 := rfl
  have k6 : kBy.length = 5 := rfl
  have k7 : kSum.length = 6 := rfl
  refine ⟨by unfold repRows; simp [aliasRows_len]; omega, fun x hx => ?_⟩
  have ar : ∀ (b : Bool) (p : Cn.T × Cn.T), p ∈ r.aliases → (aliasRow b p).length ≤ 100 := fun b p hp => by
    obtain ⟨a, c⟩ := wf.als p hp
    unfold aliasRow
    cases b <;> simp <;> omega
  unfold repRows at hx
  simp only [List.mem_append, List.mem_singleton, List.mem_map] at hx
  rcases hx with rfl | h | ⟨c, hc, rfl⟩ | ⟨c, hc, rfl⟩ | (⟨c, hc, rfl⟩ | hx6) | rfl
  · rw [List.length_append]; omega
  · cases ea : r.aliases with
    | nil => rw [ea] at h; cases h
    | cons p q =>
      rw [ea] at h
      rcases List.mem_cons.mp h with rfl | h
      · exact ar true p (by rw [ea]; exact List.mem_cons_self)
      · obtain ⟨c, hc, rfl⟩ := List.mem_map.mp h
        exact ar false c (by rw [ea]; exact List.mem_cons_of_mem _ hc)
  · obtain ⟨⟨a, b⟩, c1, d⟩ := wf.lss c hc
    have := cw _ a b
    have := cw _ c1 d
    unfold linkRow
    simp
    omega
  · obtain ⟨⟨a, b⟩, c1⟩ := wf.fss c hc
    have := cw _ a b
    have := numL_short c1
    unfold filterRow
    simp
    omega
  · obtain ⟨a, b⟩ := wf.gss c hc
    have := cw _ a b
    unfold groupRow
    simp
    omega
  · cases hm : r.measure with
    | none =>
      rw [hm] at hx6
      rw [hx6]; decide
    | some m =>
      have := wf.me m hm
      rw [hm] at hx6
      rw [hx6]
      show (kSum ++ m).length ≤ _
      rw [List.length_append]; omega
  · decide
theorem rep_room {r : Rep} (wf : WfR r) : (((repRows r).map S).map (·.length)).sum + ((repRows r).map S).length * (S [10]).length ≤ 16777216 :=
  join_room2 (m := 100) (n := 40) (rows_len wf).2 (rows_len wf).1 (by decide)
theorem ok_Report_init (F : Fun K "__init__" "Report.__init__" s_Report_init f fd) (T : TxR K mg CR CT CS CP) (c_report_rows : Cal P w K mg base 2 "report_rows" (sp_reprows CP)) : FnOk P w K mg base (L2.CX P w) 3 f fd ["self", "schema", "name", "aliases", "links", "filters", "groups", "measure"] (sp_Report_init CP) := by
  refine F.okX sc_Report_init (fun vs H Q E h => ?_) (fun cdv A outer s H vs Q E hr h => ?_)
  · obtain ⟨_, _, _, _, _, _, _, _, _, _, _, _, _, rfl, _⟩ := h
    rfl
  · obtain ⟨x, dx, la, ll, lf, lg, sv0, m, va, vl, vf, vg, r, rfl, hx, hla, ea, hll, el, hlf, ef, hlg, eg, em, wf, k⟩ := h
    refine ⟨_, (pss_cons (ps_fldK K rfl (pv 0) (pv 1) rfl)
  (pss_cons (ps_fldK K rfl (pv 0) (pv 2) rfl)
  (pss_cons (ps_fldK K rfl (pv 0) (pe_callTy (call_tuple_ofK K rfl) (by rfl) T.b_tuple (by decide +kernel) (pa_cons (pv 3) pa_nil)) rfl)
  (pss_cons (ps_fldK K rfl (pv 0) (pe_callTy (call_tuple_ofK K rfl) (by rfl) T.b_tuple (by decide +kernel) (pa_cons (pv 4) pa_nil)) rfl)
  (pss_cons (ps_fldK K rfl (pv 0) (pe_callTy (call_tuple_ofK K rfl) (by rfl) T.b_tuple (by decide +kernel) (pa_cons (pv 5) pa_nil)) rfl)
  (pss_cons (ps_fldK K rfl (pv 0) (pe_callTy (call_tuple_ofK K rfl) (by rfl) T.b_tuple (by decide +kernel) (pa_cons (pv 6) pa_nil)) rfl)
  (pss_cons (ps_fldK K rfl (pv 0) (pv 7) rfl)
  (pss_one (ps_fldK K rfl (pv 0) (pe_joinK K rfl pe_str (p_call E c_report_rows hr (by decide) (by rfl) (passX rfl rfl rfl (takes_of rfl rfl rfl rfl)) (pa_cons (pv 0) pa_nil))) rfl))))))))), ?_⟩
    have ne : ∀ {y : Addr} {xs : List V}, H y = some (.lst xs) → y ≠ x := fun {y xs} e => ne_of e hx (by intro z; cases z)
    refine ⟨_, rfl, _, rfl, x, CP, dx, _, rfl, hx, T.clP, T.naP1, (by show 0 < 1000; decide), ?_⟩
    obtain ⟨b1, hx1⟩ := fldPut (C := CP) (d := dx) (fs := []) (But.refl (l := [x]) (H := H)) "schema" sv0
    generalize upd H x (.ins CP dx (putF "schema" sv0 [])) = H1 at b1 hx1
    refine ⟨_, rfl, _, rfl, x, CP, dx, _, rfl, hx1, T.clP, T.naP2, (by show 1 < 1000; decide), ?_⟩
    obtain ⟨b2, hx2⟩ := fldPut (C := CP) (d := dx) (fs := putF "schema" sv0 []) b1 "name" (sv r.name)
    generalize upd H1 x (.ins CP dx (putF "name" (sv r.name) _)) = H2 at b2 hx2
    refine ⟨_, rfl, la, va, rfl, .inl ⟨SqL.of (b2.at1 hla (ne hla)), fun a3 ha3 => ?_⟩⟩
    obtain ⟨hq3, b3, c3, hx3, t3⟩ := tupPut (C := CP) (d := dx) (ys := va) b2 hx2 ha3 "aliases" (.ref a3)
    refine ⟨_, rfl, x, CP, dx, _, rfl, hq3, T.clP, T.naP3, (by show 2 < 1000; decide), ?_⟩
    generalize upd (upd H2 a3 (.tup va)) x (.ins CP dx (putF "aliases" (.ref a3) _)) = H3 at b3 c3 hx3 t3
    refine ⟨_, rfl, ll, vl, rfl, .inl ⟨SqL.of (b3.at1 hll (ne hll)), fun a4 ha4 => ?_⟩⟩
    obtain ⟨hq4, b4, c4, hx4, t4⟩ := tupPut (C := CP) (d := dx) (ys := vl) b3 hx3 ha4 "links" (.ref a4)
    refine ⟨_, rfl, x, CP, dx, _, rfl, hq4, T.clP, T.naP4, (by show 3 < 1000; decide), ?_⟩
    generalize upd (upd H3 a4 (.tup vl)) x (.ins CP dx (putF "links" (.ref a4) _)) = H4 at b4 c4 hx4 t4
    refine ⟨_, rfl, lf, vf, rfl, .inl ⟨SqL.of (b4.at1 hlf (ne hlf)), fun a5 ha5 => ?_⟩⟩
    obtain ⟨hq5, b5, c5, hx5, t5⟩ := tupPut (C := CP) (d := dx) (ys := vf) b4 hx4 ha5 "filters" (.ref a5)
    refine ⟨_, rfl, x, CP, dx, _, rfl, hq5, T.clP, T.naP5, (by show 4 < 1000; decide), ?_⟩
    generalize upd (upd H4 a5 (.tup vf)) x (.ins CP dx (putF "filters" (.ref a5) _)) = H5 at b5 c5 hx5 t5
    refine ⟨_, rfl, lg, vg, rfl, .inl ⟨SqL.of (b5.at1 hlg (ne hlg)), fun a6 ha6 => ?_⟩⟩
    obtain ⟨hq6, b6, c6, hx6, t6⟩ := tupPut (C := CP) (d := dx) (ys := vg) b5 hx5 ha6 "groups" (.ref a6)
    refine ⟨_, rfl, x, CP, dx, _, rfl, hq6, T.clP, T.naP6, (by show 5 < 1000; decide), ?_⟩
    generalize upd (upd H5 a6 (.tup vg)) x (.ins CP dx (putF "groups" (.ref a6) _)) = H6 at b6 c6 hx6 t6
    refine ⟨_, rfl, _, rfl, x, CP, dx, _, rfl, hx6, T.clP, T.naP7, (by show 6 < 1000; decide), ?_⟩
    obtain ⟨b7, hx7⟩ := fldPut (C := CP) (d := dx) (fs := putF "groups" (.ref a6) (putF "filters" (.ref a5) (putF "links" (.ref a4) (putF "aliases" (.ref a3) (putF "name" (sv r.name) (putF "schema" sv0 [])))))) b6 "measure" m
    obtain ⟨c7, _⟩ := fldPut (C := CP) (d := dx) (fs := putF "groups" (.ref a6) (putF "filters" (.ref a5) (putF "links" (.ref a4) (putF "aliases" (.ref a3) (putF "name" (sv r.name) (putF "schema" sv0 [])))))) (But.refl (l := [x]) (H := H6)) "measure" m
    generalize upd H6 x (.ins CP dx (putF "measure" m _)) = H7 at b7 hx7 c7
    have hx7 : H7 x = some (.ins CP dx (rpf sv0 r.name a3 a4 a5 a6 m)) := hx7
    have k6 : Tk H6 H7 := .of c7 hx6
    have k5 : Tk H5 H7 := fun a vs h => k6 a vs (Tk.of c6 hx5 a vs h)
    have k4 : Tk H4 H7 := fun a vs h => k5 a vs (Tk.of c5 hx4 a vs h)
    have k3 : Tk H3 H7 := fun a vs h => k4 a vs (Tk.of c4 hx3 a vs h)
    have k0 : Tk H H7 := .of b7 hx
    have pr : PartsR H7 a3 a4 a5 a6 m va vl vf vg r := ⟨k3 _ _ t3, ea.mono fun _ _ z => z.tk k0, k4 _ _ t4, el.mono fun _ _ z => z.tk k0, k5 _ _ t5, ef.mono fun _ _ z => z.tk k0, k6 _ _ t6, eg.mono fun _ _ z => z.tk k0, em⟩
    refine ⟨⟨_, rfl⟩, _, rfl, x, dx, a3, a4, a5, a6, sv0, m, va, vl, vf, vg, r, rfl, hx7, pr, wf, fun H8 q b8 hq0 hq => ?_⟩
    refine ⟨S [10], q, (repRows r).map S, rfl, rfl, .inl (by rw [← svs_str]; exact SqL.of hq), rep_room wf, ?_⟩
    rw [join_S]
    refine ⟨_, rfl, x, CP, dx, _, rfl, b8.at hx7, T.clP, T.naP8, (by show 7 < 1000; decide), ?_⟩
    refine k _ a3 a4 a5 a6 ((b7.trans b8.of).put (by simp)) (by rw [upd_same]; rfl) (pr.tk fun a vs h => ?_)
    rw [upd_ne fun z => by rw [z, hx7] at h; cases h]
    exact b8.at h
def sp_Rstr (CP : Addr) : Sp := fun vs H Q _ => ∃ (x dx a l f g : Addr) (s m : V) (r : Rep), vs = [.ref x] ∧ H x = some (.ins CP dx (rpt s r.name a l f g m (repText r))) ∧ Q (sv (repText r)) H
theorem ok_Report_str (F : Fun K "__str__" "Report.__str__" s_Report_str f fd) (T : TxR K mg CR CT CS CP) : FnOk P w K mg base (L2.CX P w) 1 f fd ["self"] (sp_Rstr CP) := by
  refine F.okX sc_Report_str (fun vs H Q E h => ?_) (fun cdv A outer s H vs Q E hr h => ?_)
  · obtain ⟨_, _, _, _, _, _, _, _, _, rfl, _⟩ := h
    rfl
  · obtain ⟨x, dx, a, l, f, g, s0, m, r, rfl, hx, k⟩ := h
    refine ⟨_, (pss_one (ps_ret (pe_callTy SkE.call_str_str (by rfl) T.b_str (by decide +kernel) (pa_cons (pe_fldK K rfl (pv 0) rfl) pa_nil)))), ?_⟩
    exact ⟨_, rfl, x, CP, dx, _, _, rfl, hx, T.clP, T.naP8, rfl, _, rfl, k⟩
end
end Cn
set_option Elab.async false
set_option linter.all false
set_option maxRecDepth 100000
set_option maxHeartbeats 4000000
/-! reports: what a read report keeps -/
namespace Cn
open PySem L2
section
variable {L : List Cn.T} {ts : List Tbl}
structure AlOk (ts : List Tbl) (al : List (Cn.T × Cn.T)) : Prop where
  nm : ∀ p ∈ al, isName p.1 = true ∧ p.2 ∈ ts.map (·.name)
  nd : (al.map (·.1)).Nodup
  le : al.length ≤ 4
theorem aliasLoop_ok : ∀ (f n : Nat) (al al' : List (Cn.T × Cn.T)) (n' : Nat), AlOk ts al → (0 < f ∨ al ≠ []) → aliasLoop L ts f n al = .ok (al', n') → AlOk ts al' ∧ al' ≠ []
  | 0, n, al, al', n', h, h0, e => by
    cases e
    exact ⟨h, by rcases h0 with z | z; exact absurd z (by omega); exact z⟩
  | f + 1, n, al, al', n', h, h0, e => by
    unfold aliasLoop at e
    split at e
    · split at e
      · cases e
      · rename_i ws hw
        split at e
        · rename_i c1
          split at e
          · rename_i c2
            split at e
            · rename_i c3
              rw [Bool.and_eq_true] at c1 c2
              refine aliasLoop_ok f _ _ _ _ ⟨fun p hp => ?_, ?_, by simpa using c3⟩ (.inr (by simp)) e
              · rcases List.mem_append.mp hp with z | z
                · exact h.nm p z
                · rw [List.mem_singleton.mp z]
                  exact ⟨c2.1, List.contains_iff_mem.mp c1.2⟩
              · rw [List.map_append, List.nodup_append]
                refine ⟨h.nd, by simp, fun a ha b hb => ?_⟩
                rw [List.map_singleton, List.mem_singleton] at hb
                intro z
                have c2 := c2.2
                rw [Bool.not_eq_true'] at c2
                rw [z, hb] at ha
                rw [List.contains_iff_mem.mpr ha] at c2
                cases c2
            · cases e
          · cases e
        · cases e
    · rename_i c
      cases e
      refine ⟨h, fun z => c (by rw [z]; rfl)⟩
variable {al : List (Cn.T × Cn.T)}
def ShC (c : Col) : Prop := c.1.length ≤ 8 ∧ c.2.length ≤ 8
theorem colOf_sh (no : NmOk ts al) {w : Cn.T} {c : Col} (h : colOf ts al w = some c) : ShC c := ⟨isName_len (colOf_names no h).1, isName_len (colOf_names no h).2⟩
theorem linkLoop_ok (no : NmOk ts al) : ∀ (f n : Nat) (ls ls' : List (Col × Col)) (n' : Nat), (∀ x ∈ ls, ShC x.1 ∧ ShC x.2) → ls.length ≤ 20 → linkLoop L ts al f n ls = .ok (ls', n') → (∀ x ∈ ls', ShC x.1 ∧ ShC x.2) ∧ ls'.length ≤ 20
  | 0, n, ls, ls', n', h, h0, e => by cases e; exact ⟨h, h0⟩
  | f + 1, n, ls, ls', n', h, h0, e => by
    unfold linkLoop at e
    split at e
    · split at e
      · cases e
      · split at e
        · split at e
          · rename_i a b ea eb
            split at e
            · rename_i c3
              refine linkLoop_ok no f _ _ _ _ (fun x hx => ?_) (by simpa using c3) e
              rcases List.mem_append.mp hx with z | z
              · exact h x z
              · rw [List.mem_singleton.mp z]; exact ⟨colOf_sh no ea, colOf_sh no eb⟩
            · cases e
          · cases e
        · cases e
    · cases e; exact ⟨h, h0⟩
theorem filterLoop_ok (no : NmOk ts al) : ∀ (f n : Nat) (ls ls' : List (Col × Nat)) (n' : Nat), (∀ x ∈ ls, ShC x.1 ∧ x.2 ≤ 1000000000) → ls.length ≤ 5 → filterLoop L ts al f n ls = .ok (ls', n') → (∀ x ∈ ls', ShC x.1 ∧ x.2 ≤ 1000000000) ∧ ls'.length ≤ 5
  | 0, n, ls, ls', n', h, h0, e => by cases e; exact ⟨h, h0⟩
  | f + 1, n, ls, ls', n', h, h0, e => by
    unfold filterLoop at e
    split at e
    · split at e
      · cases e
      · rename_i ws hw
        split at e
        · rename_i c1
          split at e
          · rename_i a ea
            split at e
            · rename_i c3
              refine filterLoop_ok no f _ _ _ _ (fun x hx => ?_) (by simpa using c3) e
              rcases List.mem_append.mp hx with z | z
              · exact h x z
              · rw [List.mem_singleton.mp z]
                refine ⟨colOf_sh no ea, ?_⟩
                rw [Bool.and_eq_true, Bool.and_eq_true] at c1
                have := c1.2.2
                unfold isNumber at this
                simp only [Bool.and_eq_true, decide_eq_true_eq] at this
                exact this.2.2.2.2
            · cases e
          · cases e
        · cases e
    · cases e; exact ⟨h, h0⟩
theorem groupLoop_ok (no : NmOk ts al) : ∀ (f n : Nat) (ls ls' : List Col) (n' : Nat), (∀ x ∈ ls, ShC x) → ls.length ≤ 3 → groupLoop L ts al f n ls = .ok (ls', n') → (∀ x ∈ ls', ShC x) ∧ ls'.length ≤ 3
  | 0, n, ls, ls', n', h, h0, e => by cases e; exact ⟨h, h0⟩
  | f + 1, n, ls, ls', n', h, h0, e => by
    unfold groupLoop at e
    split at e
    · split at e
      · cases e
      · split at e
        · rename_i a ea
          split at e
          · split at e
            · split at e
              · rename_i c3
                refine groupLoop_ok no f _ _ _ _ (fun x hx => ?_) (by simpa using c3) e
                rcases List.mem_append.mp hx with z | z
                · exact h x z
                · rw [List.mem_singleton.mp z]; exact colOf_sh no ea
              · cases e
            · cases e
          · cases e
        · cases e
    · cases e; exact ⟨h, h0⟩
theorem readMeasure_ok {n n' : Nat} {t : Tbl} {me : Option Cn.T} (hc : ∀ c ∈ t.cols, isName c = true) (e : readMeasure L n t = .ok (me, n')) : ∀ m, me = some m → m.length ≤ 8 := by
  unfold readMeasure at e
  intro m hm
  split at e
  · split at e
    · cases e
    · split at e
      · rename_i c
        cases e
        cases hm
        rw [Bool.and_eq_true, Bool.and_eq_true] at c
        exact isName_len (hc _ (List.contains_iff_mem.mp c.2.1))
      · cases e
  · split at e
    · cases e; cases hm
    · cases e
theorem tabOf_some {n : Cn.T} (h : n ∈ ts.map (·.name)) : ∃ t, tabOf ts n = some t ∧ t ∈ ts := by
  obtain ⟨t, ht, e⟩ := List.mem_map.mp h
  cases hf : tabOf ts n with
  | none =>
    unfold tabOf at hf
    rw [List.find?_eq_none] at hf
    exact absurd (by rw [e]; exact beq_self_eq_true _) (hf t ht)
  | some u => exact ⟨u, rfl, List.mem_of_find?_eq_some hf⟩
end
end Cn
set_option Elab.async false
set_option linter.all false
set_option maxRecDepth 100000
set_option maxHeartbeats 2000000
/-! Cn.B26: name = {k: v for ..} on one line, the name a local. -/
namespace Cn
open PySem L2 PySem.Spec PyProof.Rows
theorem sw_trueD {kx vx : Expr} {gs : List Comprehension} {scope : Scope} {pos py : Pos} {y : Str} {l : Nat} {env : Env} (hk : env.scope.kind = .function) (hy : env.scope.names.lookup y = some .local) (hl : (py.line == pos.line) = true)
    (ha : (scope.names.any fun (n, k) => n == y && (k == .local || k == .cell)) = false) : swapsWith (.DictComp kx vx gs scope pos) (some (.Name y py)) l env = pure true := by
  have ky : env.kindOf y = some .local := hy
  have hb : env.blockKind = .function := by unfold Env.blockKind; rw [hk]; rfl
  unfold swapsWith
  simp only [hb, ky, ha, Expr.pos, hl]
  rfl
section
variable {X : Cx}
theorem ps_setDc {i : Nat} {y : Str} {py : Pos} {kx vx tg iter : Expr} {ifs : List Expr} {scope : Scope} {own : List (Str × Nat)} {pos spos : Pos} {wi : TI} {g : TG} {tt : TT} {tk tv : TE} (hc : X.calm = true) (hN : X.N.Nodup) (hy : X.N[i]? = some y) (hyl : X.env.scope.names.lookup y = some .local)
    (hsw : swapsWith (.DictComp kx vx [⟨tg, iter, ifs, 0⟩] scope pos) (some (.Name y py)) spos.line X.env = pure true) (hi : PI X tg iter wi) (ok : BlkOk X.N X.env.scope scope own)
    (hg : ∀ (s : Shared) (H : Hp) (C : Addr) (cl : List (Str × Addr)) (fp : List Addr), PG (X.blk s H scope (compEnvC scope cl C X.env) fp) tg g) (ht : ∀ (s : Shared) (H : Hp) (C : Addr) (cl : List (Str × Addr)) (fp : List Addr), PTs (X.blk s H scope (compEnvC scope cl C X.env) fp) ifs tt)
    (hk : ∀ (s : Shared) (H : Hp) (C : Addr) (cl : List (Str × Addr)) (fp : List Addr), PE (X.blk s H scope (compEnvC scope cl C X.env) fp) kx tk)
    (he : ∀ (s : Shared) (H : Hp) (C : Addr) (cl : List (Str × Addr)) (fp : List Addr), PE (X.blk s H scope (compEnvC scope cl C X.env) fp) vx tv) (hs : ∀ x, foldedSetIterable iter X.env x = pure x := by intro _; rfl) :
    PS X (.Assign [.Name y py] (.DictComp kx vx [⟨tg, iter, ifs, 0⟩] scope pos) spos) (tAsg (tDc wi g tt tk tv (own.map (·.2))) (gName i)) := by
  refine ⟨fun pins s σ H D I h => ?_⟩
  rw [exec_Assign_Name_used _ _ _ _ hsw]
  refine wpAny_bind (wpAny_standAt (wpAny_bind ?_))
  show wpAny _ X.A (do let _ ← comprehension (.DictComp kx vx [⟨tg, iter, ifs, 0⟩] scope pos) scope X.env (firstIterPos [⟨tg, iter, ifs, 0⟩] pos) newDict false (eval iter X.env) (some (assign (.Name y py) X.env))) _ _ s
  have h : tDc wi g tt tk tv (own.map (·.2)) σ H (fun x H1 => gName i x σ H1 D.nx) := h
  refine wpAny_bind (thn (dc_core (Qf := fun _ s' => SP X pins D .next s') hc hN I hi ok hg ht hk he hs h fun L C s' m H' I' q hn f => ?_) fun _ s' hq => wpAny_pure (wpAny_pure hq))
  show wpAny _ _ (assign (.Name y py) X.env (.ref L)) _ _ _
  refine wpAny_assign_Name (store_ok2 (v := V.ref L) I' hN hy (.inl hyl) rfl (fun s2 I2 ⟨a, sb, ha⟩ => ?_) (.inr hyl))
  obtain ⟨f0, f1, f2, f3, f4, f5⟩ := f
  have haC : C ≠ a := by
    rcases ha with z | z
    · rw [z]; exact f1
    · exact fun e => f4 y a z e.symm
  refine ⟨m, hn.sameBut sb haC, fun h3 sb3 => ?_⟩
  exact ⟨_, H', I2.turned (t' := s2.toks) (fun b o hb e => (sb3.2 b hb).trans e) f0 f1 f3 f4 f5, q⟩
end
end Cn
set_option Elab.async false
set_option linter.all false
set_option maxRecDepth 100000
set_option maxHeartbeats 4000000
/-! Report.parse -/
namespace Cn
open PySem L2
theorem SchR.fixR {CR CS CT : Addr} {H H' : Hp} {v : V} {ts : List Tbl} (n : CT ≠ CR) (nS : CS ≠ CR) (f : Fix CR H H') (h : SchR CS CT H v ts) : SchR CS CT H' v ts := by
  obtain ⟨a, dx, tt, vt, e, h1, h2, h3⟩ := h
  exact ⟨a, dx, tt, vt, e, f a _ h1 nS, f tt _ h2 trivial, h3.mono fun _ _ z => z.fix n f⟩
theorem dkA_put {al : List (Cn.T × Cn.T)} {vs : List V} {p : Cn.T × Cn.T} {v : V} (hl : vs.length = al.length) (hn : p.1 ∉ al.map (·.1)) : putK (dkA al vs) (.inr (S p.1)) v = dkA (al ++ [p]) (vs ++ [v]) := by
  have e : (dkA al vs).any (fun kv => decide (kv.1 = (Sum.inr (S p.1) : Key))) = false := by
    rw [List.any_eq_false]
    intro x hx
    unfold dkA at hx
    rw [List.mem_iff_getElem?] at hx
    obtain ⟨i, hi⟩ := hx
    rw [List.getElem?_zipWith] at hi
    cases ha : al[i]? with
    | none => rw [ha] at hi; cases hi
    | some q =>
      cases hv : vs[i]? with
      | none => rw [ha, hv] at hi; cases hi
      | some u =>
        rw [ha, hv] at hi
        cases hi
        intro z
        have z := of_decide_eq_true z
        injection z with z
        exact hn (List.mem_map.mpr ⟨q, List.mem_of_getElem? ha, S_inj z⟩)
  unfold putK
  rw [e]
  unfold dkA
  rw [if_neg Bool.false_ne_true, List.zipWith_append hl.symm]
  rfl
structure WfS (ts : List Tbl) : Prop where
  len : ts.length ≤ 5
  wf : ∀ t ∈ ts, WfT t
  cols : ∀ t ∈ ts, ∀ c ∈ t.cols, isName c = true
section
variable {P : Program} {w : World} {K : PySem.W.Frag} {mg : Str → Option Value} {base : Heap} {CR CT CS CP CI CU : Addr} {f : Addr} {fd : FuncData}
theorem sc_Report_parse : FnScope ["cls", "schema", "text", "rows", "name", "aliases", "tables", "links", "filters", "groups", "measure", "alias", "table"] ["cls", "schema", "text"] (defScope s_Report_parse) := ⟨rfl, rfl, rfl, by decide +kernel, rfl, by decide +kernel, by decide +kernel⟩
theorem ErrE.end {CI p : Addr} {H H0 : Hp} {E : XK} {n : Nat} (hp : H0 p = none) (b : But [p] H0 H) (k : ∀ H' d, But [] H0 H' → H' d = some (.xd [("row", .int (n : Nat))]) → E (.ref CI) (some d) H') : ErrE CI p H E n :=
  fun H' d b' hd => k H' d ((b.trans b').drop hp) hd
def sp_Rparse (CT CS CP CI : Addr) : Sp := fun vs H Q E => ∃ (sa : Addr) (t : Cn.T) (ts : List Tbl), vs = [.ref CP, .ref sa, sv t] ∧ t.length ≤ 900000 ∧ SchR CS CT H (.ref sa) ts ∧ WfS ts ∧ match parseRep (splitC 10 t) ts with
  | .error e => ∀ H' d, But [] H H' → H' d = some (.xd [("row", .int (e : Nat))]) → E (.ref CI) (some d) H'
  | .ok r => ∀ H' v, But [] H H' → RepR CP CS CT H' v ts r → Q v H'
theorem ok_Rparse (F : Fun K "parse" "Report.parse" s_Report_parse f fd) (T : TxR K mg CR CT CS CP) (m_Rows : Mak P w K mg base 1 "Rows" CR (sp_Rows_init CR)) (m_Report : Mak P w K mg base 3 "Report" CP (sp_Report_init CP))
    (c_Rows_new_name : Met P w K mg base 4 CR "new_name" (sp_new_name K CR CI)) (c_Rows_exactly : Met P w K mg base 3 CR "exactly" (sp_exactly CR CI)) (c_Rows_finish : Met P w K mg base 3 CR "finish" (sp_finish CR CI)) (c_Schema_table : Met P w K mg base 3 CS "table" (sp_tableR CT CS CU))
    (c_read_aliases : Cal P w K mg base 4 "read_aliases" (sp_readal CR CT CS CI)) (c_read_links : Cal P w K mg base 4 "read_links" (sp_readlinks CR CT CI)) (c_read_filters : Cal P w K mg base 4 "read_filters" (sp_readfil CR CT CI))
    (c_read_groups : Cal P w K mg base 4 "read_groups" (sp_readgrp CR CT CI)) (c_read_measure : Cal P w K mg base 4 "read_measure" (sp_readmea CR CT CI)) : FnOk P w K mg base (L2.CX P w) 5 f fd ["cls", "schema", "text"] (sp_Rparse CT CS CP CI) := by
  refine F.okX sc_Report_parse (fun vs H Q E h => ?_) (fun cdv A outer s H vs Q E hr h => ?_)
  · obtain ⟨_, _, _, rfl, _⟩ := h
    rfl
  · obtain ⟨sa, t, ts, rfl, hz, hsa, wf, k⟩ := h
    refine ⟨_, (pss_cons (ps_set (i := 3) sc_Report_parse.nd rfl (Or.inl rfl) (p_make E m_Rows hr (by decide) (by rfl) (passX rfl rfl rfl (takes_of rfl rfl rfl rfl)) (pa_cons (pv 2) pa_nil)))
  (pss_cons (ps_set (i := 4) sc_Report_parse.nd rfl (Or.inl rfl) (p_meth E c_Rows_new_name hr (by decide) (passX rfl rfl rfl (takes_of rfl rfl rfl rfl)) (pv 3) (pa_cons pe_str (pa_cons (pe_lst pa_nil) pa_nil))))
  (pss_cons (ps_set (i := 5) sc_Report_parse.nd rfl (Or.inl rfl) (p_call E c_read_aliases hr (by decide) (by rfl) (passX rfl rfl rfl (takes_of rfl rfl rfl rfl)) (pa_cons (pv 3) (pa_cons (pv 1) pa_nil))))
  (pss_cons (ps_setDc (i := 6) (own := [("alias", 11), ("table", 12)]) (tt := tYes) (by rfl) sc_Report_parse.nd rfl rfl (sw_trueD rfl rfl rfl (by decide +kernel)) (pi_listK K rfl (pv 5)) (blkOk_by (own := [("alias", 11), ("table", 12)]) (N := ["cls", "schema", "text", "rows", "name", "aliases", "tables", "links", "filters", "groups", "measure", "alias", "table"]) (sc := (defScope s_Report_parse)) (by decide +kernel)) (fun _ _ _ _ _ => (pg_tupQ K rfl (n := 2) (by rfl) (pgs_cons (pg_name (i := 11) sc_Report_parse.nd rfl (Or.inl rfl)) (pgs_cons (pg_name (i := 12) sc_Report_parse.nd rfl (Or.inl rfl)) pgs_nil)))) (fun _ _ _ _ _ => pts_nil) (fun _ _ _ _ _ => (pv 11)) (fun _ _ _ _ _ => (p_meth E0 c_Schema_table hr (by decide) passL (pv 1) (pa_cons (pv 12) pa_nil))))
  (pss_cons (ps_set (i := 7) sc_Report_parse.nd rfl (Or.inl rfl) (p_call E c_read_links hr (by decide) (by rfl) (passX rfl rfl rfl (takes_of rfl rfl rfl rfl)) (pa_cons (pv 3) (pa_cons (pv 6) pa_nil))))
  (pss_cons (ps_set (i := 8) sc_Report_parse.nd rfl (Or.inl rfl) (p_call E c_read_filters hr (by decide) (by rfl) (passX rfl rfl rfl (takes_of rfl rfl rfl rfl)) (pa_cons (pv 3) (pa_cons (pv 6) pa_nil))))
  (pss_cons (ps_set (i := 9) sc_Report_parse.nd rfl (Or.inl rfl) (p_call E c_read_groups hr (by decide) (by rfl) (passX rfl rfl rfl (takes_of rfl rfl rfl rfl)) (pa_cons (pv 3) (pa_cons (pv 6) pa_nil))))
  (pss_cons (ps_set (i := 10) sc_Report_parse.nd rfl (Or.inl rfl) (p_call E c_read_measure hr (by decide) (by rfl) (passX rfl rfl rfl (takes_of rfl rfl rfl rfl)) (pa_cons (pv 3) (pa_cons (p_meth E c_Schema_table hr (by decide) (passX rfl rfl rfl (takes_of rfl rfl rfl rfl)) (pv 1) (pa_cons (pe_ix (ix_tupK K rfl) (pe_ix (ix_listK K rfl) (pv 5) pe_int (fun _ _ => rfl)) pe_int (fun _ _ => rfl)) pa_nil)) pa_nil))))
  (pss_cons (ps_expr (p_meth E c_Rows_exactly hr (by decide) (passX rfl rfl rfl (takes_of rfl rfl rfl rfl)) (pv 3) (pa_cons pe_str pa_nil)))
  (pss_cons (ps_expr (p_meth0 E c_Rows_finish hr (by decide) (passX rfl rfl rfl (takes_of rfl rfl rfl rfl)) (pv 3)))
  (pss_one (ps_ret (p_cls E m_Report hr (by decide) (i := 0) (passX rfl rfl rfl (takes_of rfl rfl rfl rfl)) (pa_cons (pv 1) (pa_cons (pv 4) (pa_cons (pv 5) (pa_cons (pv 7) (pa_cons (pv 8) (pa_cons (pv 9) (pa_cons (pv 10) pa_nil)))))))))))))))))))), ?_⟩
    refine ⟨_, rfl, fun p dx hp hdx ndx => ?_⟩
    refine ⟨p, dx, t, rfl, upd_same, hz, fun H1 b1 hR => ⟨rfl, ?_⟩⟩
    obtain ⟨r, R⟩ := hR
    have b0 : But [] H H1 := (((But.refl (l := [p])).new hdx).put (by simp) |>.trans b1).drop hp
    have hsa1 := hsa.fixR T.nT T.nS (b0.fix0 (CR := CR))
    unfold parseRep at k
    have db : ∀ {H'}, But [p] H1 H' → But [] H H' := fun b => ((But.of b0).trans b).drop hp
    refine ⟨_, rfl, p, dx, _, rfl, R.at_, rfl, Nat.zero_le _, fun t0 ht0 => ?_⟩
    have bt : But [] H1 (upd H1 t0 (.lst [])) := newB ht0
    have et : (upd H1 t0 (.lst [])) t0 = some (.lst (svs [])) := upd_same
    generalize upd H1 t0 (.lst []) = H2 at bt et
    refine ⟨p, dx, r, t0, _, 0, kReport, [], rfl, R.keep0 bt, Nat.zero_le _, by decide, et, ?_⟩
    cases hnm : newName (splitC 10 t) 0 kReport [] with
    | error e =>
      rw [hnm] at k
      exact fun H' d b hd => k H' d (db ((But.of bt).trans b)) hd
    | ok nm =>
      rw [hnm] at k
      dsimp only at k
      have nmo := isName_len (newName_ok hnm).1
      have lt0 := newName_lt hnm
      intro H3 b3 R3
      have b13 : But [p] H1 H3 := (But.of bt).trans b3
      have hsa3 := hsa1.fixR T.nT T.nS (R.fix b13)
      refine ⟨_, rfl, _, rfl, p, dx, r, sa, _, 1, ts, rfl, R3, lt0, hsa3, by have := wf.len; omega, ?_⟩
      cases hal : aliasLoop (splitC 10 t) ts 5 1 [] with
      | error e =>
        rw [hal] at k
        exact fun H' d b hd => k H' d (db (b13.trans b)) hd
      | ok aln =>
        obtain ⟨al, n1⟩ := aln
        rw [hal] at k
        dsimp only at k
        obtain ⟨ao, ane⟩ := aliasLoop_ok 5 1 [] al n1 ⟨(by intro p hp; cases hp), List.nodup_nil, (by decide)⟩ (.inl (by decide)) hal
        intro H4 la va b4 R4 hn1 hla0 hla ea
        have b14 : But [p] H1 H4 := b13.trans b4
        have hsa4 := hsa1.fixR T.nT T.nS (R.fix b14)
        obtain ⟨sa', dxs, tt, vt, e, hs0, htt, hvt⟩ := id hsa4
        cases e
        refine ⟨_, rfl, la, rfl, ⟨_, SqL.of hla⟩, fun D hD => ?_⟩
        have al4 := ao.le
        refine turns (walk_list (K := K) (a := la) (xs := va)) (fun i H' => ∃ vs, H' = upd H4 D (.dK (dkA (al.take i) vs)) ∧ Each (fun v p => ∃ t, tabOf ts p.2 = some t ∧ TblR CT H' v t) vs (al.take i)) ⟨[], rfl, Each.nil⟩ (fun i H' _ ⟨vs, e, _⟩ => by rw [e]; exact SqL.of ((newB hD).at hla)) (fun i x H5 H5' hi ⟨vs, e, he⟩ y => ?_) (fun H' ⟨vs, e, he⟩ => ?_)
        · obtain ⟨rfl, hx⟩ := y
          obtain ⟨c, hc, q, rfl, hq⟩ := ea.at hx
          subst e
          have bD : But [] H4 (upd H4 D (.dK (dkA (al.take i) vs))) := newB hD
          refine ⟨q, _, rfl, SqT.of (bD.at hq), rfl, _, _, rfl, _, _, rfl, rfl, rfl, ?_⟩
          obtain ⟨t0', ht0', _⟩ := tabOf_some (ts := ts) (ao.nm c (List.mem_of_getElem? hc)).2
          refine ⟨_, rfl, _, rfl, sa, dxs, _, rfl, bD.at hs0, rfl, _, rfl, sa, ts, c.2, rfl, hsa4.fixR T.nT T.nS (bD.fix0 (CR := CR)), fun v t1 ht1 htr => ?_, fun hno => absurd (ao.nm c (List.mem_of_getElem? hc)).2 hno⟩
          have lv := he.1
          have ff : Fix CR (upd H4 D (.dK (dkA (al.take i) vs))) (upd (upd H4 D (.dK (dkA (al.take i) vs))) D (.dK (putK (dkA (al.take i) vs) (.inr (S c.1)) v))) := fun a o h im => by
            by_cases z : a = D
            · rw [z, upd_same] at h; cases h; exact im.elim
            · rw [upd_ne z]; exact h
          refine ⟨_, .inr (S c.1), rfl, upd_same, szt ?_, vs ++ [v], ?_, ?_⟩
          · show (List.zipWith _ _ _).length < _
            rw [List.length_zipWith, List.length_take]; omega
          · have nin : c.1 ∉ (al.take i).map (·.1) := fun hm => by
              have hnd := ao.nd
              have hs : al = al.take i ++ c :: al.drop (i + 1) := by
                obtain ⟨h1, h2⟩ := List.getElem?_eq_some_iff.mp hc
                rw [← h2, List.getElem_cons_drop, List.take_append_drop]
              rw [hs, List.map_append, List.nodup_append] at hnd
              exact hnd.2.2 _ hm c.1 (by simp) rfl
            rw [upd_upd, dkA_put lv nin, take_snoc hc]
          · rw [take_snoc hc]
            exact (he.mono fun _ _ ⟨t, q, z⟩ => ⟨t, q, z.fix T.nT ff⟩).snoc ⟨t1, ht1, htr.fix T.nT ff⟩
        · have hlen : va.length = al.length := ea.1
          rw [hlen, List.take_length] at e he
          have b45 : But [] H4 H' := by rw [e]; exact newB hD
          have hd5 : DictT CT H' D ts al := ⟨vs, by rw [e, upd_same], he⟩
          clear e
          have no : NmOk ts al := ⟨fun p hp => (ao.nm p hp).1, wf.cols⟩
          have bD0 : H' D ≠ none := by obtain ⟨_, z, _⟩ := hd5; rw [z]; simp
          have b15 : But [p] H1 H' := b14.trans (But.of b45)
          have R5 := R4.keep0 b45
          have nDp : D ≠ p := fun z => by rw [z, R4.at_] at hD; cases hD
          -- links
          refine ⟨_, rfl, _, rfl, p, dx, r, D, _, n1, ts, al, rfl, R5, hn1, hd5, no, ?_⟩
          cases hlk : linkLoop (splitC 10 t) ts al 21 n1 [] with
          | error e =>
            rw [hlk] at k
            exact fun H' d b hd => k H' d (db (b15.trans b)) hd
          | ok lsn =>
            obtain ⟨ls, n2⟩ := lsn
            rw [hlk] at k
            dsimp only at k
            obtain ⟨lo1, lo2⟩ := linkLoop_ok no 21 n1 [] ls n2 (by intro x hx; cases hx) (by decide) hlk
            intro H6 ll vl b6 R6 hn2 hll0 hll el
            have b16 := b15.trans b6
            have hd6 : DictT CT H6 D ts al := hd5.keep T.nT b6 (by simpa using nDp) (R5.fix b6)
            refine ⟨_, rfl, _, rfl, p, dx, r, D, _, n2, ts, al, rfl, R6, hn2, hd6, ?_⟩
            cases hfl : filterLoop (splitC 10 t) ts al 6 n2 [] with
            | error e =>
              rw [hfl] at k
              exact fun H' d b hd => k H' d (db (b16.trans b)) hd
            | ok fsn =>
              obtain ⟨fs, n3⟩ := fsn
              rw [hfl] at k
              dsimp only at k
              obtain ⟨fo1, fo2⟩ := filterLoop_ok no 6 n2 [] fs n3 (by intro x hx; cases hx) (by decide) hfl
              intro H7 lf vf b7 R7 hn3 hlf0 hlf ef
              have b17 := b16.trans b7
              have hd7 : DictT CT H7 D ts al := hd6.keep T.nT b7 (by simpa using nDp) (R6.fix b7)
              refine ⟨_, rfl, _, rfl, p, dx, r, D, _, n3, ts, al, rfl, R7, hn3, hd7, no, wf.wf, ?_⟩
              cases hgl : groupLoop (splitC 10 t) ts al 4 n3 [] with
              | error e =>
                rw [hgl] at k
                exact fun H' d b hd => k H' d (db (b17.trans b)) hd
              | ok gsn =>
                obtain ⟨gs, n4⟩ := gsn
                rw [hgl] at k
                dsimp only at k
                obtain ⟨go1, go2⟩ := groupLoop_ok no 4 n3 [] gs n4 (by intro x hx; cases hx) (by decide) hgl
                intro H8 lg vg b8 R8 hn4 hlg0 hlg eg
                have b18 := b17.trans b8
                have b48 : But [p] H4 H8 := (But.of b45).trans ((b6.trans b7).trans b8)
                have nlp : la ≠ p := fun z => by rw [z, R3.at_] at hla0; cases hla0
                have f48 : Fix CR H4 H8 := R4.fix b48
                have hla8 := b48.at1 hla nlp
                have hs8 := f48 sa _ hs0 T.nS
                have hsa8 := hsa4.fixR T.nT T.nS f48
                obtain ⟨c0, alr, eal⟩ : ∃ c0 alr, al = c0 :: alr := by
                  cases al with
                  | nil => exact absurd rfl ane
                  | cons x y => exact ⟨x, y, rfl⟩
                obtain ⟨v0, hv0, q0, rfl, hq0⟩ : ∃ v0, va[0]? = some v0 ∧ ColR H4 v0 c0 := by
                  have l0 : 0 < va.length := by have := ea.1; rw [eal] at this; simp at this; omega
                  have h0 : va[0]? = some va[0] := List.getElem?_eq_getElem _
                  obtain ⟨c, hc, z⟩ := ea.at h0
                  rw [eal] at hc
                  cases hc
                  exact ⟨_, h0, z⟩
                obtain ⟨t0', et0, htm⟩ := tabOf_some (ts := ts) (ao.nm c0 (by rw [eal]; exact List.mem_cons_self)).2
                have eh : (al.map (·.2)).headD [] = c0.2 := by rw [eal]; rfl
                rw [eh, et0] at k
                dsimp only at k
                refine ⟨_, rfl, _, rfl, sa, dxs, _, rfl, hs8, rfl, _, rfl, la, va, 0, _, rfl, rfl, SqL.of hla8, atI_nat (j := 0) hv0, q0, _, 1, _, rfl, rfl, SqT.of (f48 q0 _ hq0 trivial), rfl, sa, ts, c0.2, rfl, hsa8, fun v t1 ht1 htr => ?_, fun hno => absurd (ao.nm c0 (by rw [eal]; exact List.mem_cons_self)).2 hno⟩
                rw [et0] at ht1
                cases ht1
                obtain ⟨tb, _, _, _, _, _, _, rfl, _⟩ := id htr
                refine ⟨p, dx, r, tb, _, n4, _, rfl, R8, hn4, htr, wf.wf _ htm, ?_⟩
                cases hme : readMeasure (splitC 10 t) n4 t0' with
                | error e =>
                  rw [hme] at k
                  exact fun H' d b hd => k H' d (db (b18.trans b)) hd
                | ok men =>
                  obtain ⟨me, n5⟩ := men
                  rw [hme] at k
                  dsimp only at k
                  have mo := readMeasure_ok (wf.cols _ htm) hme
                  intro H9 mv b9 R9 hn5 hmr
                  have b19 := b18.trans b9
                  refine ⟨_, rfl, p, dx, _, rfl, R9.at_, rfl, p, dx, r, _, n5, kEnd, rfl, R9, hn5, ?_⟩
                  cases hex : exactly (splitC 10 t) n5 kEnd with
                  | false =>
                    rw [hex] at k
                    exact iteF fun H' d b hd => k H' d (db (b19.trans b)) hd
                  | true =>
                    rw [hex, if_pos rfl] at k
                    refine iteT fun H10 b10 R10 => ?_
                    have b110 := b19.trans b10
                    refine ⟨_, rfl, p, dx, _, rfl, R10.at_, rfl, p, dx, r, _, n5 + 1, rfl, R10, ?_⟩
                    cases hfi : (n5 + 1 == (splitC 10 t).length) with
                    | false =>
                      rw [hfi] at k
                      exact iteF fun H' d b hd => k H' d (db (b110.trans b)) hd
                    | true =>
                      rw [hfi, if_pos rfl] at k
                      refine iteT ?_
                      have b410 := (b48.trans b9).trans b10
                      have f410 : Fix CR H4 H10 := R4.fix b410
                      have f610 : Fix CR H6 H10 := R6.fix (((b7.trans b8).trans b9).trans b10)
                      have f710 : Fix CR H7 H10 := R7.fix ((b8.trans b9).trans b10)
                      have f810 : Fix CR H8 H10 := R8.fix (b9.trans b10)
                      have nlk : ll ≠ p := fun z => by rw [z, R5.at_] at hll0; cases hll0
                      have nfp : lf ≠ p := fun z => by rw [z, R6.at_] at hlf0; cases hlf0
                      have ngp : lg ≠ p := fun z => by rw [z, R7.at_] at hlg0; cases hlg0
                      have la10 := b410.at1 hla nlp
                      have ll10 := (((b7.trans b8).trans b9).trans b10).at1 hll nlk
                      have lf10 := ((b8.trans b9).trans b10).at1 hlf nfp
                      have lg10 := (b9.trans b10).at1 hlg ngp
                      refine ⟨rfl, _, rfl, _, rfl, _, rfl, _, rfl, _, rfl, _, rfl, _, rfl, fun x dx2 hx hdx2 ndx2 => ?_⟩
                      have bx : But [] H10 (upd (upd H10 dx2 (.own x)) x (.ins CP dx2 [])) := fun y o _ e => by
                        rw [upd_ne (ne_of_none e hx), upd_ne (ne_of_none e hdx2)]; exact e
                      have fx : Fix CR H10 (upd (upd H10 dx2 (.own x)) x (.ins CP dx2 [])) := bx.fix0
                      refine ⟨x, dx2, la, ll, lf, lg, .ref sa, mv, va, vl, vf, vg, ⟨nm, al, ls, fs, gs, me⟩, rfl, upd_same, bx.at la10, ea.mono fun _ _ z => (z.fix f410).fix fx, bx.at ll10, el.mono fun _ _ z => (z.fix f610).fix fx, bx.at lf10, ef.mono fun _ _ z => (z.fix f710).fix fx, bx.at lg10, eg.mono fun _ _ z => (z.fix f810).fix fx, hmr,
                        ⟨nmo, al4, fun q hq => ⟨isName_len (ao.nm q hq).1, ?_⟩, lo2, lo1, fo2, fo1, go2, go1, mo⟩, fun H11 a1 a2 a3 a4 b11 hx11 pr => ⟨rfl, ?_⟩⟩
                      · obtain ⟨t9, ht9, e9⟩ := List.mem_map.mp (ao.nm q hq).2
                        rw [← e9]; exact (wf.wf t9 ht9).name
                      · have bf : But [] H10 H11 := ((But.of bx).trans b11).drop hx
                        refine k H11 _ (db (b110.trans (But.of bf))) ⟨x, dx2, .ref sa, a1, a2, a3, a4, mv, va, vl, vf, vg, rfl, hx11, hsa4.fixR T.nT T.nS (f410.trans (bf.fix0 (CR := CR))), pr⟩
end
end Cn
set_option Elab.async false
set_option linter.all false
set_option maxRecDepth 100000
set_option maxHeartbeats 2000000
/-! Cn.B11: a text some times, none too; pairs of locals. -/
namespace Cn
open PySem L2
section
variable {X : Cx}
theorem op_repZ : OpR X (binaryOp .Mult) (fun x y H Q => ∃ (a : T) (n : Nat), x = sv a ∧ y = .int (n : Int) ∧ n ≤ 100000 ∧ a.length ≤ 100 ∧ a ≠ [] ∧ Q (sv (repT n a)) H) := by
  intro pins s σ H x y v u Q I rx ry h
  obtain ⟨a, n, rfl, rfl, h2, h3, h4, q⟩ := h
  by_cases h1 : 1 ≤ n
  · exact op_repS pins s σ H _ _ v u Q I rx ry ⟨a, n, rfl, rfl, h1, h2, h3, h4, q⟩
  · obtain rfl : n = 0 := by omega
    obtain ⟨t, rfl⟩ := rx
    obtain ⟨t', rfl⟩ := ry
    refine PySem.P.mul_str_none (by decide) (by decide) ?_
    have e : repT 0 a = [] := rfl
    rw [e] at q
    exact ⟨sv [], H, I.tok _, ⟨_, rfl⟩, q⟩
end
end Cn
namespace Cn
open PySem L2
def PvI (tb : TE) (σ : L2.St) (n : Nat) : Prop := ∀ (H : Hp) (Q : VK), Q (.int (n : Nat)) H → tb σ H Q
abbrev repZ : R2 := fun x y H Q => ∃ (a : T) (n : Nat), x = sv a ∧ y = V.int (n : Int) ∧ n ≤ 100000 ∧ a.length ≤ 100 ∧ a ≠ [] ∧ Q (sv (repT n a)) H
section
variable {K : PySem.W.Frag} {σ : L2.St} {H : Hp} {ta tb te tl : TE} {u : TS} {l : T} {ls : List T} {n m i j k : Nat} {D : Ends}
theorem Pt.repk (h : Pt te σ l k) (hv : PvI tb σ n) (hn : n ≤ m) (hm : m ≤ 100000 := by decide) (hk : k ≤ 100 := by decide) (h4 : l ≠ [] := by decide) : Pt (tOp repZ te tb) σ (repT n l) (m * k) :=
  ⟨by rw [repT_len]; exact Nat.mul_le_mul hn h.1, fun H Q q => h.2 H _ (hv H _ ⟨l, n, rfl, rfl, by omega, by have := h.1; omega, h4, q⟩)⟩
theorem svs_atI {L : List T} {n : Nat} {r : T} (h : L[n]? = some r) : atI (svs L) (n : Int) = some (sv r) := atI_nat (svs_at h)
theorem sq_ixl (h : MkL tl σ H ls) (hv : σ[j]? = some (some (.int (n : Nat)))) (hx : ls[n]? = some l) (k : ∀ H', But [] H H' → u D (σ.set i (some (sv l))) H') : tSeq (tAsg (tOp (rIxL K) tl (tVar j)) (gName i)) u D σ H :=
  h _ fun H1 a b na e => ⟨_, hv, a, svs ls, (n : Nat), _, rfl, rfl, SqL.of e, svs_atI hx, k H1 b⟩
end
end Cn
set_option Elab.async false
set_option linter.all false
set_option maxRecDepth 100000
set_option maxHeartbeats 4000000
/-! draws of the laws of reports -/
namespace Cn
open PySem L2
structure LTR (K : PySem.W.Frag) (mg : Str → Option Value) (CR CT CS CP CI : Addr) : Prop extends TxR K mg CR CT CS CP where
  b_max : mg "max" = none
  b_min : mg "min" = none
  b_abs : mg "abs" = none
  b_range : mg "range" = none
section
variable {P : Program} {w : World} {K : PySem.W.Frag} {mg : Str → Option Value} {base : Heap} {CR CT CS CP CI : Addr} {f : Addr} {fd : FuncData}
theorem sc__law_feed : FnScope ["script", "k", "seed", "digits"] ["script", "k"] (defScope s__law_feed) := ⟨rfl, rfl, rfl, by decide +kernel, rfl, by decide +kernel, by decide +kernel⟩
theorem sc__law_take : FnScope ["feed", "size", "number"] ["feed", "size"] (defScope s__law_take) := ⟨rfl, rfl, rfl, by decide +kernel, rfl, by decide +kernel, by decide +kernel⟩
theorem sc__law_pick : FnScope ["feed", "choices"] ["feed", "choices"] (defScope s__law_pick) := ⟨rfl, rfl, rfl, by decide +kernel, rfl, by decide +kernel, by decide +kernel⟩
def FeedR (H : Hp) (a : Addr) : Prop := ∃ d s : Int, H a = some (.lst [.int d, .int s])
def sp_take : Sp := fun vs H Q _ => ∃ a many, vs = [.ref a, .int (many : Nat)] ∧ 1 ≤ many ∧ many ≤ 100000 ∧ FeedR H a ∧ ∀ H' (r : Nat), But [a] H H' → FeedR H' a → r < many → Q (.int (r : Nat)) H'
theorem ok_take (F : Fun K "_law_take" "_law_take" s__law_take f fd) (T : LTR K mg CR CT CS CP CI) : FnOk P w K mg base (L2.CX P w) 1 f fd ["feed", "size"] sp_take := by
  refine F.okX sc__law_take (fun vs H Q E h => ?_) (fun cdv A outer s H vs Q E hr h => ?_)
  · obtain ⟨a, many, rfl, _⟩ := h
    rfl
  · obtain ⟨a, many, rfl, h1, h2, ⟨d, s', ha⟩, k⟩ := h
    refine ⟨_, (pss_cons (ps_if (pt_cmpR op_gt (pe_ix (ix_listK K rfl) (pv 0) pe_int (fun _ _ => rfl)) pe_int (nomark _))
  (pss_cons (ps_set (i := 2) sc__law_take.nd rfl (Or.inl rfl) (pe_op op_mod (pe_ix (ix_listK K rfl) (pv 0) pe_int (fun _ _ => rfl)) (pv 1)))
  (pss_cons (ps_asg (pe_op op_fdiv (pe_ix (ix_listK K rfl) (pv 0) pe_int (fun _ _ => rfl)) (pv 1)) (pg_sub (pv 0) pe_int set_list))
  (pss_one (ps_ret (pv 2)))))
  pss_nil)
  (pss_cons (ps_asg (pe_op op_mod (pe_op op_add (pe_op op_mul (pe_ix (ix_listK K rfl) (pv 0) pe_int (fun _ _ => rfl)) pe_int) pe_int) pe_int) (pg_sub (pv 0) pe_int set_list))
  (pss_one (ps_ret (pe_op op_mod (pe_op op_fdiv (pe_ix (ix_listK K rfl) (pv 0) pe_int (fun _ _ => rfl)) pe_int) (pv 1)))))), ?_⟩
    have pos : (0 : Int) < (many : Nat) := by omega
    have lt : ((many : Nat) : Int) < 1073741824 := by omega
    have md : ∀ z : Int, ∃ r : Nat, r < many ∧ z % ((many : Nat) : Int) = (r : Nat) := fun z => by
      have h3 := Int.emod_nonneg z (b := ((many : Nat) : Int)) (by omega)
      have h4 := Int.emod_lt_of_pos z pos
      exact ⟨(z % ((many : Nat) : Int)).toNat, by omega, by omega⟩
    refine ⟨_, rfl, a, _, 0, _, rfl, rfl, SqL.of ha, rfl, _, _, rfl, rfl, _, rfl, ?_⟩
    refine ite2 (fun hd => ?_) (fun hd => ?_)
    · refine ⟨_, rfl, a, _, 0, _, rfl, rfl, SqL.of ha, rfl, _, rfl, _, _, rfl, rfl, pos, ?_⟩
      refine ⟨_, rfl, a, _, 0, _, rfl, rfl, SqL.of ha, rfl, _, rfl, _, _, rfl, rfl, ⟨pos, lt⟩, ?_⟩
      refine ⟨_, rfl, a, _, 0, 0, rfl, rfl, ha, rfl, ?_⟩
      obtain ⟨r, r1, r2⟩ := md d
      refine ⟨_, rfl, ?_⟩
      show Q (.int (d % ((many : Nat) : Int))) _
      rw [r2]
      exact k _ r (But.refl.put (by simp)) ⟨_, _, upd_same⟩ r1
    · refine ⟨_, rfl, a, _, 1, _, rfl, rfl, SqL.of ha, rfl, _, _, rfl, rfl, .inr (by constructor <;> decide), _, _, rfl, rfl, _, _, rfl, rfl, (by show (0 : Int) < 4294967311; decide), ?_⟩
      refine ⟨_, rfl, a, _, 1, 1, rfl, rfl, ha, rfl, ?_⟩
      refine ⟨_, rfl, a, _, 1, _, rfl, rfl, SqL.of upd_same, rfl, _, _, rfl, rfl, by constructor <;> decide, _, rfl, _, _, rfl, rfl, pos, ?_⟩
      obtain ⟨r, r1, r2⟩ := md ((s' * 69069 + 12345) % 4294967311 / 65536)
      show Q (.int ((s' * 69069 + 12345) % 4294967311 / 65536 % ((many : Nat) : Int))) _
      rw [r2]
      exact k _ r (But.refl.put (by simp)) ⟨_, _, upd_same⟩ r1
def sp_feed (K : PySem.W.Frag) : Sp := fun vs H Q _ => ∃ (sc : Addr) (ns : List Int) (j : Nat), vs = [.ref sc, .int (j : Nat)] ∧ j ≤ 20 ∧ SqL K H sc (ns.map V.int) ∧ ∀ H' a, But [] H H' → H a = none → FeedR H' a → Q (.ref a) H'
theorem ok_feed (F : Fun K "_law_feed" "_law_feed" s__law_feed f fd) (T : LTR K mg CR CT CS CP CI) : FnOk P w K mg base (L2.CX P w) 1 f fd ["script", "k"] (sp_feed K) := by
  refine F.okX sc__law_feed (fun vs H Q E h => ?_) (fun cdv A outer s H vs Q E hr h => ?_)
  · obtain ⟨a, many, _, rfl, _⟩ := h
    rfl
  · obtain ⟨sc, ns, j, rfl, hj, hs, k⟩ := h
    refine ⟨_, (pss_cons (ps_set (i := 2) sc__law_feed.nd rfl (Or.inl rfl) (pe_ix (ix_listK K rfl) (pe_op op_cat (pe_callTy (call_list_ofK K rfl) (by rfl) T.b_list (by decide +kernel) (pa_cons (pe_slice (sl_listK K rfl) (pv 0) (po_some (pv 1)) (po_some (pe_op op_add (pv 1) pe_int))) pa_nil)) (pe_lst (pa_cons (pe_op op_add (pe_op op_mul pe_int (pv 1)) pe_int) pa_nil))) pe_int (fun _ _ => rfl)))
  (pss_cons (ps_set (i := 3) sc__law_feed.nd rfl (Or.inl rfl) (pe_callB (call_max2 (by rfl)) (by rfl) T.b_max (by decide +kernel) (pa_cons pe_int (pa_cons (pe_op op_sub (pe_callB call_abs (by rfl) T.b_abs (by decide +kernel) (pa_cons (pv 2) pa_nil)) (pe_op op_pow pe_int pe_int)) pa_nil))))
  (pss_one (ps_ret (pe_lst (pa_cons (pv 3) (pa_cons (pe_op op_mod (pe_op op_add (pe_op op_add (pe_op op_mul (pe_op op_mod (pe_callB call_abs (by rfl) T.b_abs (by decide +kernel) (pa_cons (pv 2) pa_nil)) pe_int) pe_int) (pe_op op_mul pe_int (pv 1))) pe_int) pe_int) pa_nil))))))), ?_⟩
    have c71 : ∀ i : Int, CMul 71 i := fun i => .inl (by constructor <;> decide)
    have cl : (cutV (ns.map V.int) (some ((j : Nat) : Int)) (some (((j : Nat) : Int) + 1))).length ≤ 21 := by
      unfold cutV
      rw [List.length_take]
      have e : HT.sIx (ns.map V.int).length (ns.map V.int).length (some (((j : Nat) : Int) + 1)) ≤ 21 := by
        have q : ((j : Nat) : Int) + 1 = ((j + 1 : Nat) : Int) := by omega
        rw [q, HT.sIx_nat]; omega
      omega
    have ci : ∀ x ∈ cutV (ns.map V.int) (some ((j : Nat) : Int)) (some (((j : Nat) : Int) + 1)), ∃ z, x = .int z := fun x hx => by
      unfold cutV at hx
      obtain ⟨z, _, e⟩ := List.mem_map.mp (List.mem_of_mem_drop (List.mem_of_mem_take hx))
      exact ⟨z, e.symm⟩
    refine ⟨_, rfl, _, rfl, _, rfl, _, rfl, _, _, rfl, rfl, _, rfl, sc, _, rfl, hs, fun a1 ha1 => ⟨a1, _, rfl, .inl (SqL.of upd_same), fun a2 ha2 => ?_⟩⟩
    generalize cutV (ns.map V.int) (some ((j : Nat) : Int)) (some (((j : Nat) : Int) + 1)) = cut at cl ci ha2 ⊢
    refine ⟨_, rfl, _, _, rfl, rfl, c71 _, _, _, rfl, rfl, szl (by simp), fun a3 ha3 => ?_⟩
    have n23 : a2 ≠ a3 := fun z => by rw [← z, upd_same] at ha3; cases ha3
    refine ⟨a2, a3, cut, _, rfl, rfl, by rw [upd_ne n23, upd_same], upd_same, szl (by simp; omega), fun a4 ha4 => ?_⟩
    have b4 : But [] H (upd (upd (upd (upd H a1 (.lst cut)) a2 (.lst cut)) a3 (.lst [.int (71 * (j : Nat) + 23)])) a4 (.lst (cut ++ [.int (71 * (j : Nat) + 23)]))) := (((newB ha1).new ha2).new ha3).new ha4
    obtain ⟨z, hz⟩ : ∃ z, atI (cut ++ [V.int (71 * (j : Nat) + 23)]) 0 = some (.int z) := by
      cases cut with
      | nil => exact ⟨_, rfl⟩
      | cons x r =>
        obtain ⟨z, e⟩ := ci x List.mem_cons_self
        exact ⟨z, by rw [e]; exact atI_nat (j := 0) rfl⟩
    refine ⟨a4, _, 0, _, rfl, rfl, SqL.of upd_same, hz, ?_⟩
    generalize upd (upd (upd (upd H a1 (.lst cut)) a2 (.lst cut)) a3 (.lst [.int (71 * (j : Nat) + 23)])) a4 (.lst (cut ++ [.int (71 * (j : Nat) + 23)])) = H4 at b4
    refine ⟨_, rfl, _, rfl, _, _, rfl, rfl, by refine ⟨by decide, by decide, by decide⟩, _, _, rfl, rfl, _, _, rfl, ?_⟩
    refine ⟨_, rfl, _, rfl, _, rfl, _, _, rfl, rfl, (by show (0 : Int) < 1000003; decide), _, _, rfl, rfl, .inr (by constructor <;> decide), _, rfl, _, _, rfl, rfl, .inl (by constructor <;> decide), _, _, rfl, rfl, _, _, rfl, rfl, _, _, rfl, rfl, (by show (0 : Int) < 1000033; decide), szl (by simp), fun a ha => ?_⟩
    exact k _ a (b4.new ha) (b4.free ha (by simp)) ⟨_, _, upd_same⟩
def sp_pick : Sp := fun vs H Q _ => ∃ (a : Addr) (l : Cn.T), vs = [.ref a, sv l] ∧ 1 ≤ l.length ∧ l.length ≤ 1000 ∧ FeedR H a ∧ ∀ H' c, But [a] H H' → FeedR H' a → c ∈ l → Q (sv [c]) H'
theorem ok_pick (F : Fun K "_law_pick" "_law_pick" s__law_pick f fd) (T : LTR K mg CR CT CS CP CI) (c__law_take : Cal P w K mg base 1 "_law_take" sp_take) : FnOk P w K mg base (L2.CX P w) 2 f fd ["feed", "choices"] sp_pick := by
  refine F.okX sc__law_pick (fun vs H Q E h => ?_) (fun cdv A outer s H vs Q E hr h => ?_)
  · obtain ⟨a, l, rfl, _⟩ := h
    rfl
  · obtain ⟨a, l, rfl, h1, h2, hf, k⟩ := h
    refine ⟨_, (pss_one (ps_ret (pe_ix ix_str (pv 1) (p_call E c__law_take hr (by decide) (by rfl) (passX rfl rfl rfl (takes_of rfl rfl rfl rfl)) (pa_cons (pv 0) (pa_cons (pe_callB call_len_str (by rfl) T.b_len (by decide +kernel) (pa_cons (pv 1) pa_nil)) pa_nil))) (fun _ _ => rfl)))), ?_⟩
    refine ⟨_, rfl, _, rfl, _, rfl, S l, rfl, szl (by rw [S_len]; omega), ?_⟩
    refine ⟨a, l.length, by rw [S_len]; rfl, h1, by omega, hf, fun H' r b fr hr' => ?_⟩
    have e : l[r]? = some (l[r]'hr') := List.getElem?_eq_getElem hr'
    exact ⟨S l, r, _, rfl, rfl, szl (by rw [S_len]; omega), atI_nat e, k H' _ b fr (List.getElem_mem hr')⟩
end
end Cn
set_option Elab.async false
set_option linter.all false
set_option maxRecDepth 100000
set_option maxHeartbeats 400000
/-! texts cut at a sign and joined again -/
namespace Cn
open PySem L2
theorem splitC_cons (c : Nat) : ∀ (p r : T), c ∉ p → splitC c (p ++ c :: r) = p :: splitC c r
  | [], r, _ => by simp [splitC]
  | x :: p, r, h => by
    have hx : ¬ (x == c) = true := fun z => h (by rw [eq_of_beq z]; simp)
    have ih := splitC_cons c p r fun z => h (List.mem_cons_of_mem _ z)
    rw [List.cons_append]
    show (if (x == c) = true then [] :: splitC c (p ++ c :: r) else match splitC c (p ++ c :: r) with
      | [] => [[x]]
      | h :: t => (x :: h) :: t) = _
    rw [if_neg hx, ih]
theorem splitC_one (c : Nat) : ∀ p : T, c ∉ p → splitC c p = [p]
  | [], _ => by simp [splitC]
  | x :: p, h => by
    have hx : ¬ (x == c) = true := fun z => h (by rw [eq_of_beq z]; simp)
    have ih := splitC_one c p fun z => h (List.mem_cons_of_mem _ z)
    unfold splitC
    rw [if_neg hx, ih]
theorem split_join (c : Nat) : ∀ rows : List T, rows ≠ [] → (∀ r ∈ rows, c ∉ r) → splitC c (joinT [c] rows) = rows
  | [], h, _ => absurd rfl h
  | [p], _, h => by
    show splitC c p = [p]
    exact splitC_one c p (h p (by simp))
  | p :: q :: r, _, h => by
    show splitC c (p ++ ([c] ++ joinT [c] (q :: r))) = _
    rw [List.singleton_append, splitC_cons c p _ (h p (by simp)), split_join c (q :: r) (by simp) fun x hx => h x (List.mem_cons_of_mem _ hx)]
end Cn
set_option Elab.async false
set_option linter.all false
set_option maxRecDepth 100000
set_option maxHeartbeats 1000000
/-! the round trip: the rows of tables that keep the rules are read back -/
namespace Cn
theorem drop_at {L rest : List T} {n : Nat} {r : T} (h : L.drop n = r :: rest) : L[n]? = some r ∧ L.drop (n + 1) = rest := by
  refine ⟨?_, ?_⟩
  · have : (L.drop n)[0]? = some r := by rw [h]; rfl
    rwa [List.getElem?_drop, Nat.add_zero] at this
  · rw [← List.drop_drop, h]; rfl
theorem drop_head {L post : List T} {n : Nat} (h : L.drop n = post) : L[n]? = post.head? := by
  have : (L.drop n)[0]? = post.head? := by rw [h]; cases post <;> rfl
  rwa [List.getElem?_drop, Nat.add_zero] at this
/-- the next row does not begin so -/
def NotB (st : T) (post : List T) : Prop := ∀ r, post.head? = some r → isPre st r = false
theorem begins_no {L post : List T} {n : Nat} {st : T} (h : L.drop n = post) (nb : NotB st post) : begins L n st = false := by
  unfold begins
  rw [drop_head h]
  cases q : post.head? with
  | none => rfl
  | some r => exact nb r q
theorem isPre_app (a b : T) : isPre a (a ++ b) = true := by rw [isPre_take]; simp
theorem begins_yes {L rest : List T} {n : Nat} {st w : T} (h : L.drop n = (st ++ w) :: rest) : begins L n st = true := by
  unfold begins
  rw [(drop_at h).1]; exact isPre_app st w
theorem words_at {L rest : List T} {n : Nat} {st w : T} (h : L.drop n = (st ++ w) :: rest) : words L n st = some (splitC 32 w) := by
  unfold words
  rw [(drop_at h).1]
  show (if isPre st (st ++ w) = true then some (splitC 32 ((st ++ w).drop st.length)) else none) = _
  rw [if_pos (isPre_app st w), List.drop_left]
theorem name_signs {w : T} (h : isName w = true) : 32 ∉ w ∧ w ≠ [] ∧ 10 ∉ w := by
  unfold isName at h
  simp only [Bool.and_eq_true, decide_eq_true_eq, List.all_eq_true] at h
  obtain ⟨h1, h2, h3⟩ := h
  refine ⟨fun z => ?_, fun z => by rw [z] at h1; simp at h1, fun z => ?_⟩
  · have := h3 _ z; omega
  · have := h3 _ z; omega
theorem name_at {L rest : List T} {n : Nat} {st w : T} {taken : List T} (h : L.drop n = (st ++ w) :: rest) (hw : isName w = true) (hn : w ∉ taken) : newName L n st taken = .ok w := by
  unfold newName
  rw [words_at h, splitC_one 32 w (name_signs hw).1]
  have e : taken.contains w = false := by
    cases q : taken.contains w with
    | false => rfl
    | true => exact absurd (List.contains_iff_mem.mp q) hn
  show (if (([w] : List T).length == 1 && (isName w && !taken.contains w)) = true then (.ok w : Except Nat T) else .error n) = _
  rw [hw, e]; rfl
theorem cols_rt {L post : List T} : ∀ (rest : List T) (f n : Nat) (acc : List T), L.drop n = rest.map (fun c => kColumn ++ c) ++ post → NotB kColumn post → (∀ c ∈ rest, isName c = true) → (acc ++ rest).Nodup → (acc ++ rest).length ≤ 5 → acc ++ rest ≠ [] → f + acc.length = 6 →
    colsLoop L f n acc = .ok (acc ++ rest, n + rest.length)
  | [], f, n, acc, hL, nb, _, _, h5, h0, hf => by
    rw [List.append_nil] at h5 h0 ⊢
    obtain ⟨f, rfl⟩ : ∃ g, f = g + 1 := ⟨f - 1, by omega⟩
    unfold colsLoop
    have e1 : acc.isEmpty = false := by cases acc with
      | nil => exact absurd rfl h0
      | cons _ _ => rfl
    rw [e1, begins_no (by simpa using hL) nb]; rfl
  | c :: rest, f, n, acc, hL, nb, hn, hd, h5, h0, hf => by
    have l5 : acc.length + 1 ≤ 5 := by simp at h5; omega
    obtain ⟨f, rfl⟩ : ∃ g, f = g + 1 := ⟨f - 1, by omega⟩
    have hL2 : L.drop n = (kColumn ++ c) :: (rest.map (fun c => kColumn ++ c) ++ post) := hL
    have hc : c ∉ acc := fun z => (List.nodup_append.mp hd).2.2 c z c List.mem_cons_self rfl
    have e2 : acc ++ [c] ++ rest = acc ++ c :: rest := by simp
    have ih := cols_rt rest f (n + 1) (acc ++ [c]) (drop_at hL2).2 nb (fun x hx => hn x (List.mem_cons_of_mem _ hx)) (by rw [e2]; exact hd) (by rw [e2]; exact h5) (by rw [e2]; exact h0) (by simp; omega)
    unfold colsLoop
    rw [begins_yes hL2, Bool.or_true, if_pos rfl, name_at hL2 (hn c List.mem_cons_self) hc]
    show (if acc.length + 1 ≤ 5 then colsLoop L f (n + 1) (acc ++ [c]) else _) = _
    rw [if_pos l5, ih, e2, List.length_cons]
    congr 2
    omega
theorem split_words (ks : List T) (h : ks ≠ []) (hn : ∀ c ∈ ks, 32 ∉ c) : splitC 32 (joinT [32] ks) = ks := split_join 32 ks h hn
theorem keys_rt {L post cols : List T} (hcols : ∀ c ∈ cols, isName c = true) : ∀ (rest : List (List T)) (f n : Nat) (acc : List (List T)), L.drop n = rest.map (fun k => kKey ++ joinT [32] k) ++ post → NotB kKey post → (∀ k ∈ rest, k ≠ [] ∧ k.length ≤ 3 ∧ areDiff k cols = true) →
    (acc ++ rest).Pairwise (fun o k => hasAll k o = false ∧ hasAll o k = false) → (acc ++ rest).length ≤ 3 → acc ++ rest ≠ [] → f + acc.length = 4 → keysLoop L cols f n acc = .ok (acc ++ rest, n + rest.length)
  | [], f, n, acc, hL, nb, _, _, h5, h0, hf => by
    rw [List.append_nil] at h5 h0 ⊢
    obtain ⟨f, rfl⟩ : ∃ g, f = g + 1 := ⟨f - 1, by omega⟩
    unfold keysLoop
    have e1 : acc.isEmpty = false := by cases acc with
      | nil => exact absurd rfl h0
      | cons _ _ => rfl
    rw [e1, begins_no (by simpa using hL) nb]; rfl
  | k :: rest, f, n, acc, hL, nb, hk, hp, h5, h0, hf => by
    have l5 : acc.length + 1 ≤ 3 := by simp at h5; omega
    obtain ⟨f, rfl⟩ : ∃ g, f = g + 1 := ⟨f - 1, by omega⟩
    have hL2 : L.drop n = (kKey ++ joinT [32] k) :: (rest.map (fun k => kKey ++ joinT [32] k) ++ post) := hL
    obtain ⟨k0, k3, kd⟩ := hk k List.mem_cons_self
    have kin : ∀ c ∈ k, c ∈ cols := fun c hc => by
      unfold areDiff hasAll at kd
      exact List.contains_iff_mem.mp (List.all_eq_true.mp (Bool.and_eq_true_iff.mp kd).2 c hc)
    have no : (acc.any fun o => hasAll k o || hasAll o k) = false := by
      cases q : acc.any fun o => hasAll k o || hasAll o k with
      | false => rfl
      | true =>
        obtain ⟨o, ho, e⟩ := List.any_eq_true.mp q
        have := (List.pairwise_append.mp hp).2.2 o ho k List.mem_cons_self
        rw [this.1, this.2] at e
        cases e
    have e2 : acc ++ [k] ++ rest = acc ++ k :: rest := by simp
    have ih := keys_rt hcols rest f (n + 1) (acc ++ [k]) (drop_at hL2).2 nb (fun x hx => hk x (List.mem_cons_of_mem _ hx)) (by rw [e2]; exact hp) (by rw [e2]; exact h5) (by rw [e2]; exact h0) (by simp; omega)
    have ew : words L n kKey = some k := by rw [words_at hL2, split_words k k0 fun c hc => (name_signs (hcols c (kin c hc))).1]
    unfold keysLoop
    rw [begins_yes hL2, Bool.or_true, if_pos rfl, ew]
    show (if (decide (k.length ≤ 3) && areDiff k cols) = true then (if (acc.any fun o => hasAll k o || hasAll o k) = true then _ else if acc.length + 1 ≤ 3 then keysLoop L cols f (n + 1) (acc ++ [k]) else _) else _) = _
    rw [kd, decide_eq_true k3, Bool.and_self, if_pos rfl, no, if_neg Bool.false_ne_true, if_pos l5, ih, e2, List.length_cons]
    congr 2
    omega
end Cn
set_option Elab.async false
set_option linter.all false
set_option maxRecDepth 100000
set_option maxHeartbeats 1000000
/-! the round trip: references, tables, schemas -/
namespace Cn
theorem joinT_two (s a b : T) : ∀ ks : List T, ks ≠ [] → joinT s (ks ++ [a, b]) = joinT s ks ++ (s ++ (a ++ (s ++ b)))
  | [], h => absurd rfl h
  | [p], _ => by simp [joinT]
  | p :: q :: r, _ => by
    have ih := joinT_two s a b (q :: r) (by simp)
    show p ++ (s ++ joinT s (q :: r ++ [a, b])) = (p ++ (s ++ joinT s (q :: r))) ++ _
    rw [ih]
    simp only [List.append_assoc]
theorem refRow_eq (r : List T × T × Bool) (h : r.1 ≠ []) : refRow r = refStart r.2.2 ++ joinT [32] (r.1 ++ [kArrow, r.2.1]) := by
  rw [joinT_two _ _ _ _ h]
  obtain ⟨cs, tg, b⟩ := r
  cases b <;> simp [refRow, refStart, kRef, kOpt, kArrow]
/-- a reference that the rules allow -/
structure OkR (t : Tbl) (above : List Tbl) (r : List T × T × Bool) : Prop where
  ne : r.1 ≠ []
  names : isName r.2.1 = true
  fit : fits (foundIn r.2.2 t above r.2.1) r.1 = true
  diff : areDiff r.1 t.cols = true
  free : barred r.2.2 t r.1 = false
theorem opt_no (w : T) : isPre kRef (kOpt ++ w) = false := by rfl
theorem ref_no (w : T) : isPre kOpt (kRef ++ w) = false := by rfl
theorem getD_two {ks : List T} {a b : T} : (ks ++ [a, b]).getD ((ks ++ [a, b]).length - 2) [] = a ∧ (ks ++ [a, b]).getD ((ks ++ [a, b]).length - 1) [] = b ∧ (ks ++ [a, b]).take ((ks ++ [a, b]).length - 2) = ks := by
  have l : (ks ++ [a, b]).length = ks.length + 2 := by simp
  refine ⟨?_, ?_, ?_⟩
  · rw [l, Nat.add_sub_cancel, List.getD_eq_getElem?_getD, List.getElem?_append_right (Nat.le_refl _), Nat.sub_self]; rfl
  · rw [l, show ks.length + 2 - 1 = ks.length + 1 by omega, List.getD_eq_getElem?_getD, List.getElem?_append_right (by omega), show ks.length + 1 - ks.length = 1 by omega]; rfl
  · rw [l, Nat.add_sub_cancel, List.take_left]
theorem ref_at {L rest : List T} {n : Nat} {t : Tbl} {above : List Tbl} {r : List T × T × Bool} (hcols : ∀ c ∈ t.cols, isName c = true) (h : L.drop n = refRow r :: rest) (ok : OkR t above r) :
    (begins L n kRef || begins L n kOpt) = true ∧ readRef L n t above = .ok r := by
  rw [refRow_eq r ok.ne] at h
  have eb : begins L n kRef = r.2.2 := by
    unfold begins
    rw [(drop_at h).1]
    cases q : r.2.2 with
    | true => exact isPre_app kRef _
    | false => exact opt_no _
  have ew : words L n (refStart r.2.2) = some (r.1 ++ [kArrow, r.2.1]) := by
    rw [words_at h, split_words _ (by simp) fun c hc => ?_]
    rcases List.mem_append.mp hc with z | z
    · have hin : c ∈ t.cols := by
        have kd := ok.diff
        unfold areDiff hasAll at kd
        exact List.contains_iff_mem.mp (List.all_eq_true.mp (Bool.and_eq_true_iff.mp kd).2 c z)
      exact (name_signs (hcols c hin)).1
    · rcases List.mem_cons.mp z with z | z
      · rw [z]; decide
      · rw [List.mem_singleton.mp z]; exact (name_signs ok.names).1
  refine ⟨?_, ?_⟩
  · cases q : r.2.2 with
    | true => rw [eb, q]; rfl
    | false =>
      have e : begins L n kOpt = true := begins_yes (w := joinT [32] (r.1 ++ [kArrow, r.2.1])) (by rw [h, q]; rfl)
      rw [e, Bool.or_true]
  · unfold readRef
    rw [eb, ew]
    obtain ⟨g1, g2, g3⟩ := getD_two (ks := r.1) (a := kArrow) (b := r.2.1)
    have l3 : 3 ≤ (r.1 ++ [kArrow, r.2.1]).length := by
      have : 0 < r.1.length := List.length_pos_iff.mpr ok.ne
      simp; omega
    simp only [g1, g2, g3, decide_eq_true l3, beq_self_eq_true, Bool.and_self, if_true, ok.fit, ok.diff, ok.free, Bool.false_eq_true, if_false]
theorem refs_rt {L post : List T} {t : Tbl} {above : List Tbl} (hcols : ∀ c ∈ t.cols, isName c = true) : ∀ (rest : List (List T × T × Bool)) (f n : Nat) (acc : List (List T × T × Bool)), L.drop n = rest.map refRow ++ post → NotB kRef post → NotB kOpt post → (∀ r ∈ rest, OkR t above r) →
    (acc ++ rest).Pairwise (fun a b => ∀ c ∈ b.1, c ∉ a.1) → (acc ++ rest).length ≤ 2 → f + acc.length = 3 → refsLoop L t above f n acc = .ok (acc ++ rest, n + rest.length)
  | [], f, n, acc, hL, nb, nb2, _, _, h5, hf => by
    rw [List.append_nil] at h5 ⊢
    obtain ⟨f, rfl⟩ : ∃ g, f = g + 1 := ⟨f - 1, by omega⟩
    have hL : L.drop n = post := by simpa using hL
    unfold refsLoop
    rw [begins_no hL nb, begins_no hL nb2]; rfl
  | r :: rest, f, n, acc, hL, nb, nb2, hk, hp, h5, hf => by
    have l5 : acc.length + 1 ≤ 2 := by simp at h5; omega
    obtain ⟨f, rfl⟩ : ∃ g, f = g + 1 := ⟨f - 1, by omega⟩
    have hL2 : L.drop n = refRow r :: (rest.map refRow ++ post) := hL
    obtain ⟨eb, er⟩ := ref_at hcols hL2 (hk r List.mem_cons_self)
    have no : (r.1.any fun c => (acc.flatMap (·.1)).contains c) = false := by
      cases q : r.1.any fun c => (acc.flatMap (·.1)).contains c with
      | false => rfl
      | true =>
        obtain ⟨c, hc, e⟩ := List.any_eq_true.mp q
        obtain ⟨a, ha, hca⟩ := List.mem_flatMap.mp (List.contains_iff_mem.mp e)
        exact absurd hca ((List.pairwise_append.mp hp).2.2 a ha r List.mem_cons_self c hc)
    have e2 : acc ++ [r] ++ rest = acc ++ r :: rest := by simp
    have ih := refs_rt hcols rest f (n + 1) (acc ++ [r]) (drop_at hL2).2 nb nb2 (fun x hx => hk x (List.mem_cons_of_mem _ hx)) (by rw [e2]; exact hp) (by rw [e2]; exact h5) (by simp; omega)
    unfold refsLoop
    rw [eb, if_pos rfl, er]
    show (if (r.1.any fun c => (acc.flatMap (·.1)).contains c) = true then _ else if acc.length + 1 ≤ 2 then refsLoop L t above f (n + 1) (acc ++ [r]) else _) = _
    rw [no, if_neg Bool.false_ne_true, if_pos l5, ih, e2, List.length_cons]
    congr 2
    omega
/-- a table that the rules allow below the tables above it -/
structure OkT (above : List Tbl) (t : Tbl) : Prop where
  name : isName t.name = true
  new : t.name ∉ above.map (·.name)
  room : above.length < 5
  cols0 : t.cols ≠ []
  cols5 : t.cols.length ≤ 5
  colsN : ∀ c ∈ t.cols, isName c = true
  colsD : t.cols.Nodup
  keys0 : t.keys ≠ []
  keys3 : t.keys.length ≤ 3
  keysK : ∀ k ∈ t.keys, k ≠ [] ∧ k.length ≤ 3 ∧ areDiff k t.cols = true
  keysP : t.keys.Pairwise (fun o k => hasAll k o = false ∧ hasAll o k = false)
  refs2 : t.refs.length ≤ 2
  refsR : ∀ r ∈ t.refs, OkR ⟨t.name, t.cols, t.keys, []⟩ above r
  refsP : t.refs.Pairwise (fun a b => ∀ c ∈ b.1, c ∉ a.1)
theorem refRow_head (r : List T × T × Bool) (h : r.1 ≠ []) : isPre kColumn (refRow r) = false ∧ isPre kKey (refRow r) = false := by
  rw [refRow_eq r h]
  cases r.2.2 <;> exact ⟨rfl, rfl⟩
theorem head_refs {refs : List (List T × T × Bool)} {post : List T} (h : ∀ r ∈ refs, r.1 ≠ []) : ∀ x, (refs.map refRow ++ kEnd :: post).head? = some x → isPre kColumn x = false ∧ isPre kKey x = false := fun x hx => by
  cases refs with
  | nil => cases hx; exact ⟨by decide, by decide⟩
  | cons r rest => cases hx; exact refRow_head r (h r List.mem_cons_self)
theorem table_rt {L post : List T} {n : Nat} {above : List Tbl} {t : Tbl} (ok : OkT above t) (h : L.drop n = tableRows t ++ post) : readTable L n above = .ok (t, n + (tableRows t).length) ∧ L.drop (n + (tableRows t).length) = post := by
  have e0 : L.drop n = (kTable ++ t.name) :: (t.cols.map (fun c => kColumn ++ c) ++ (t.keys.map (fun k => kKey ++ joinT [32] k) ++ (t.refs.map refRow ++ kEnd :: post))) := by
    rw [h]; unfold tableRows; simp
  have e1 := (drop_at e0).2
  have hr : ∀ r ∈ t.refs, r.1 ≠ [] := fun r hr => (ok.refsR r hr).ne
  obtain ⟨k0, ks, hks⟩ : ∃ k0 ks, t.keys = k0 :: ks := by
    cases q : t.keys with
    | nil => exact absurd q ok.keys0
    | cons a b => exact ⟨a, b, rfl⟩
  have c := cols_rt (L := L) (post := t.keys.map (fun k => kKey ++ joinT [32] k) ++ (t.refs.map refRow ++ kEnd :: post)) t.cols 6 (n + 1) [] e1 (fun x hx => by
    rw [hks] at hx
    cases hx
    rfl) ok.colsN (by simpa using ok.colsD) (by simpa using ok.cols5) (by simpa using ok.cols0) rfl
  have e2 : L.drop (n + 1 + t.cols.length) = t.keys.map (fun k => kKey ++ joinT [32] k) ++ (t.refs.map refRow ++ kEnd :: post) := by
    rw [← List.drop_drop, e1]
    rw [show t.cols.length = (t.cols.map (fun c => kColumn ++ c)).length by simp, List.drop_left]
  have k := keys_rt (L := L) (post := t.refs.map refRow ++ kEnd :: post) ok.colsN t.keys 4 (n + 1 + t.cols.length) [] e2 (fun x hx => (head_refs hr x hx).2) ok.keysK (by simpa using ok.keysP) (by simpa using ok.keys3) (by simpa using ok.keys0) rfl
  have e3 : L.drop (n + 1 + t.cols.length + t.keys.length) = t.refs.map refRow ++ kEnd :: post := by
    rw [← List.drop_drop, e2]
    rw [show t.keys.length = (t.keys.map (fun k => kKey ++ joinT [32] k)).length by simp, List.drop_left]
  have r := refs_rt (L := L) (post := kEnd :: post) (t := ⟨t.name, t.cols, t.keys, []⟩) (above := above) ok.colsN t.refs 3 (n + 1 + t.cols.length + t.keys.length) [] e3 (fun x hx => by cases hx; decide) (fun x hx => by cases hx; decide) ok.refsR (by simpa using ok.refsP) (by simpa using ok.refs2) rfl
  have e4 : L.drop (n + 1 + t.cols.length + t.keys.length + t.refs.length) = kEnd :: post := by
    rw [← List.drop_drop, e3]
    rw [show t.refs.length = (t.refs.map refRow).length by simp, List.drop_left]
  have ex : exactly L (n + 1 + t.cols.length + t.keys.length + t.refs.length) kEnd = true := by
    unfold exactly
    rw [(drop_at e4).1]; exact beq_self_eq_true _
  have en := name_at e0 ok.name ok.new
  have ln : n + (tableRows t).length = n + 1 + t.cols.length + t.keys.length + t.refs.length + 1 := by unfold tableRows; simp; omega
  refine ⟨?_, by rw [ln]; exact (drop_at e4).2⟩
  rw [List.nil_append] at c k r
  unfold readTable
  simp only [en, ok.room, if_true, c, k, r, ex, ln]
/-- tables that the rules allow, one below the other -/
inductive OkTs : List Tbl → List Tbl → Prop
  | nil {above : List Tbl} : OkTs above []
  | cons {above : List Tbl} {t : Tbl} {ts : List Tbl} : OkT above t → OkTs (above ++ [t]) ts → OkTs above (t :: ts)
theorem tables_rt {L : List T} : ∀ (ts : List Tbl) (f n : Nat) (acc : List Tbl), OkTs acc ts → L.drop n = ts.flatMap tableRows → n ≤ L.length → acc ++ ts ≠ [] → ts.length < f → tablesLoop L f n acc = .ok (acc ++ ts, L.length)
  | [], f, n, acc, ok, hL, hn, h0, hf => by
    obtain ⟨f, rfl⟩ : ∃ g, f = g + 1 := ⟨f - 1, by omega⟩
    rw [List.append_nil] at h0 ⊢
    have e : n = L.length := by
      have : (L.drop n).length = 0 := by rw [hL]; rfl
      rw [List.length_drop] at this
      omega
    have e1 : acc.isEmpty = false := by cases acc with
      | nil => exact absurd rfl h0
      | cons _ _ => rfl
    unfold tablesLoop
    rw [e, e1, beq_self_eq_true]; rfl
  | t :: ts, f, n, acc, ok, hL, hn, h0, hf => by
    obtain ⟨f, rfl⟩ : ∃ g, f = g + 1 := ⟨f - 1, by omega⟩
    cases ok with
    | cons o1 o2 =>
      have hL2 : L.drop n = tableRows t ++ ts.flatMap tableRows := by rw [hL, List.flatMap_cons]
      obtain ⟨r1, r2⟩ := table_rt o1 hL2
      have ne : n ≠ L.length := fun z => by
        have : (L.drop n).length = 0 := by rw [List.length_drop]; omega
        rw [hL2] at this
        unfold tableRows at this
        simp at this
      have nl : n + (tableRows t).length ≤ L.length := by
        have : (L.drop n).length = (tableRows t).length + (ts.flatMap tableRows).length := by rw [hL2, List.length_append]
        rw [List.length_drop] at this
        omega
      have e2 : acc ++ [t] ++ ts = acc ++ t :: ts := by simp
      have ih := tables_rt ts f _ (acc ++ [t]) o2 r2 nl (by simp) (by simp at hf; omega)
      have eb : (acc.isEmpty || !(n == L.length)) = true := by rw [beq_eq_false_iff_ne.mpr ne]; simp
      unfold tablesLoop
      rw [eb, if_pos rfl, r1]
      show tablesLoop L f (n + (tableRows t).length) (acc ++ [t]) = _
      rw [ih, e2]
/-- the rows of allowed tables are read back -/
theorem parse_rt {ts : List Tbl} (ok : OkTs [] ts) (h0 : ts ≠ []) (h5 : ts.length ≤ 5) : parseRows (ts.flatMap tableRows) = .ok ts := by
  unfold parseRows
  rw [tables_rt ts 6 0 [] ok (by simp) (Nat.zero_le _) (by simpa using h0) (by omega)]
  simp
end Cn
set_option Elab.async false
set_option linter.all false
set_option maxRecDepth 100000
set_option maxHeartbeats 1000000
/-! drawn names: different ones, and names -/
namespace Cn
def signN (first k : Nat) : Nat := 97 + (first + 5 * k) % 26
def wordN (way first : Nat) (tail : T) (k : Nat) : T := if way = 0 then [signN first k] ++ tail else if way = 1 then tail ++ [signN first k] else List.replicate (1 + k / 6) 113 ++ [signN first k]
def oddT : List T := [[116, 97, 98, 108, 101], [99, 111, 108, 117, 109, 110], [107, 101, 121], [101, 110, 100], [114, 101, 102], [111, 112, 116, 105, 111, 110, 97, 108], [119, 97], [119, 98], [119, 99], [119, 100], [119, 101], [119, 102]]
theorem sign_inj {first j k : Nat} (hj : j < 12) (hk : k < 12) (h : signN first j = signN first k) : j = k := by unfold signN at h; omega
theorem word_sign {way first : Nat} {tail : T} {j k : Nat} (h : wordN way first tail j = wordN way first tail k) : signN first j = signN first k := by
  unfold wordN at h
  split at h
  · exact (List.cons.inj h).1
  · split at h
    · have := List.append_cancel_left h
      exact (List.cons.inj this).1
    · have := congrArg List.getLast? h
      simp at this
      exact this
theorem name_ok {w : T} (h0 : w ≠ []) (h8 : w.length ≤ 8) (h : ∀ c ∈ w, 97 ≤ c ∧ c ≤ 122) : isName w = true := by
  unfold isName
  have : 1 ≤ w.length := List.length_pos_iff.mpr h0
  simp only [Bool.and_eq_true, decide_eq_true_eq, List.all_eq_true]
  exact ⟨this, h8, fun c hc => h c hc⟩
theorem word_name {way first : Nat} {tail : T} {k : Nat} (ht : tail.length ≤ 7) (hc : ∀ c ∈ tail, 97 ≤ c ∧ c ≤ 122) (hk : k < 12) : isName (wordN way first tail k) = true := by
  have hs : 97 ≤ signN first k ∧ signN first k ≤ 122 := by unfold signN; omega
  unfold wordN
  split
  · refine name_ok (by simp) (by simp; omega) fun c h => ?_
    rcases List.mem_append.mp h with z | z
    · rw [List.mem_singleton.mp z]; exact hs
    · exact hc c z
  · split
    · refine name_ok (by simp) (by simp; omega) fun c h => ?_
      rcases List.mem_append.mp h with z | z
      · exact hc c z
      · rw [List.mem_singleton.mp z]; exact hs
    · refine name_ok (by simp) (by simp; omega) fun c h => ?_
      rcases List.mem_append.mp h with z | z
      · rw [(List.mem_replicate.mp z).2]; omega
      · rw [List.mem_singleton.mp z]; exact hs
/-- twelve different names -/
structure Names (ws : List T) : Prop where
  len : ws.length = 12
  nd : ws.Nodup
  nm : ∀ w ∈ ws, isName w = true
  noY : ∀ w ∈ ws, w ≠ [121, 122, 121, 122]
theorem word_noY {way first : Nat} {tail : T} {k : Nat} (he : ∃ c, ∀ x ∈ tail, x = c) : wordN way first tail k ≠ [121, 122, 121, 122] := by
  obtain ⟨c, he⟩ := he
  intro z
  unfold wordN at z
  split at z
  · obtain ⟨_, z⟩ := List.cons.inj z
    have z2 : tail = [122, 121, 122] := by simpa using z
    have h1 := he 122 (by rw [z2]; simp)
    have h2 := he 121 (by rw [z2]; simp)
    omega
  · split at z
    · have z1 : tail ++ [signN first k] = [121, 122, 121] ++ [122] := z
      obtain ⟨z2, _⟩ := List.append_inj' z1 rfl
      have h1 := he 122 (by rw [z2]; simp)
      have h2 := he 121 (by rw [z2]; simp)
      omega
    · rw [Nat.add_comm, List.replicate_succ, List.cons_append] at z
      have := (List.cons.inj z).1
      omega
theorem words_ok {way first : Nat} {tail : T} (ht : tail.length ≤ 7) (hc : ∀ c ∈ tail, 97 ≤ c ∧ c ≤ 122) (he : ∃ c, ∀ x ∈ tail, x = c) : Names ((List.range 12).map (wordN way first tail)) := by
  refine ⟨by simp, ?_, fun w hw => ?_, fun w hw => ?_⟩
  · unfold List.Nodup
    rw [List.pairwise_map]
    refine (List.nodup_range (n := 12)).imp_of_mem fun {a b} ha hb ne e => ?_
    exact ne (sign_inj (List.mem_range.mp ha) (List.mem_range.mp hb) (word_sign e))
  · obtain ⟨k, hk, rfl⟩ := List.mem_map.mp hw
    exact word_name ht hc (List.mem_range.mp hk)
  · obtain ⟨k, hk, rfl⟩ := List.mem_map.mp hw
    exact word_noY he
theorem odd_ok : Names oddT := ⟨rfl, by decide, by decide, by decide⟩
end Cn
set_option Elab.async false
set_option linter.all false
set_option maxRecDepth 100000
set_option maxHeartbeats 1000000
/-! drawn keys: the mathematics -/
namespace Cn
open PySem L2
theorem sub_perm {ks ls : List T} {n : Nat} (pm : ks.Perm ls) (hd : ls.Nodup) : (ks.take n).Nodup ∧ ∀ c ∈ ks.take n, c ∈ ls :=
  ⟨(List.take_sublist n ks).nodup (pm.symm.nodup hd), fun c hc => pm.mem_iff.mp ((List.take_sublist n ks).subset hc)⟩
theorem areDiff_of {k cols : List T} (hd : k.Nodup) (hs : ∀ c ∈ k, c ∈ cols) : areDiff k cols = true := by
  unfold areDiff hasAll
  rw [decide_eq_true hd, Bool.true_and]
  exact List.all_eq_true.mpr fun c hc => List.contains_iff_mem.mpr (hs c hc)
theorem areDiff_nd {k cols : List T} (h : areDiff k cols = true) : k.Nodup := by
  unfold areDiff at h
  exact of_decide_eq_true (Bool.and_eq_true_iff.mp h).1
theorem hasAll_iff {a b : List T} : hasAll a b = true ↔ ∀ c ∈ b, c ∈ a := by
  unfold hasAll
  rw [List.all_eq_true]
  exact ⟨fun h c hc => List.contains_iff_mem.mp (h c hc), fun h c hc => List.contains_iff_mem.mpr (h c hc)⟩
theorem filter_len {o k : List T} (ho : o.Nodup) (hk : k.Nodup) : (o.filter fun c => k.contains c).length = (k.filter fun c => o.contains c).length := by
  refine List.Perm.length_eq ((List.perm_ext_iff_of_nodup (List.filter_sublist.nodup ho) (List.filter_sublist.nodup hk)).mpr fun c => ?_)
  rw [List.mem_filter, List.mem_filter, List.contains_iff_mem, List.contains_iff_mem]
  exact ⟨fun h => ⟨h.2, h.1⟩, fun h => ⟨h.2, h.1⟩⟩
theorem filter_full {o k : List T} : (o.filter fun c => k.contains c).length = o.length ↔ hasAll k o = true := by
  rw [List.length_filter_eq_length_iff, hasAll_iff]
  exact ⟨fun h c hc => List.contains_iff_mem.mp (h c hc), fun h c hc => List.contains_iff_mem.mpr (h c hc)⟩
/-- the law's test of two keys -/
theorem shares {o k : List T} (ho : o.Nodup) (hk : k.Nodup) : ((o.filter fun c => k.contains c).length == k.length || (o.filter fun c => k.contains c).length == o.length) = !(!(hasAll k o) && !(hasAll o k)) := by
  have h1 : ((o.filter fun c => k.contains c).length == k.length) = hasAll o k := by
    rw [filter_len ho hk]
    rw [Bool.eq_iff_iff, beq_iff_eq]
    exact filter_full
  have h2 : ((o.filter fun c => k.contains c).length == o.length) = hasAll k o := by
    rw [Bool.eq_iff_iff, beq_iff_eq]
    exact filter_full
  rw [h1, h2]
  cases hasAll o k <;> cases hasAll k o <;> rfl
theorem cutV_to (xs : List V) (n : Nat) : cutV xs none (some (n : Int)) = xs.take n := by
  unfold cutV
  have e1 : HT.sIx xs.length 0 none = 0 := rfl
  rw [e1, HT.sIx_nat, List.drop_zero, Nat.sub_zero]
  by_cases h : n ≤ xs.length
  · rw [Nat.min_eq_left h]
  · rw [Nat.min_eq_right (by omega), List.take_of_length_le (Nat.le_refl _), List.take_of_length_le (by omega)]
theorem inV_two (n x y : Nat) : inV (.int (n : Int)) [.int (x : Int), .int (y : Int)] = (n == x || n == y) := by
  have e : ∀ z : Nat, eqV (.int (z : Int)) (.int (n : Int)) = (n == z) := fun z => by
    show ((z : Int) == (n : Int)) = (n == z)
    by_cases h : n = z
    · subst h; simp
    · rw [beq_eq_false_iff_ne.mpr h]
      exact beq_eq_false_iff_ne.mpr fun q => h (by omega)
  unfold inV
  rw [List.any_cons, List.any_cons, List.any_nil, Bool.or_false, e, e]
end Cn
set_option Elab.async false
set_option linter.all false
set_option maxRecDepth 100000
set_option maxHeartbeats 1000000
/-! drawn references and schemas: the mathematics -/
namespace Cn
open PySem L2
structure RefsOk (t : Tbl) (above : List Tbl) (rs : List (List T × T × Bool)) : Prop where
  len : rs.length ≤ 2
  each : ∀ r ∈ rs, OkR t above r
  apart : rs.Pairwise (fun a b => ∀ c ∈ b.1, c ∉ a.1)
theorem found_one {ts : List Tbl} {tb : Tbl} (hd : (ts.map (·.name)).Nodup) (hm : tb ∈ ts) : (ts.filter fun a => a.name == tb.name) = [tb] := by
  induction ts with
  | nil => cases hm
  | cons x r ih =>
    rw [List.map_cons, List.nodup_cons] at hd
    rcases List.mem_cons.mp hm with z | z
    · subst z
      have e : (r.filter fun a => a.name == tb.name) = [] := by
        rw [List.filter_eq_nil_iff]
        intro a ha q
        exact hd.1 (List.mem_map.mpr ⟨a, ha, eq_of_beq q⟩)
      rw [List.filter_cons, beq_self_eq_true, if_pos rfl, e]
    · have ne : (x.name == tb.name) = false := beq_eq_false_iff_ne.mpr fun q => hd.1 (List.mem_map.mpr ⟨tb, z, q.symm⟩)
      rw [List.filter_cons, ne, if_neg Bool.false_ne_true]
      exact ih hd.2 z
/-- one reference more -/
theorem ref_more {t : Tbl} {above : List Tbl} {rs : List (List T × T × Bool)} {free : List T} {tb : Tbl} {req : Bool} (ok : RefsOk t above rs) (h2 : rs.length < 2) (hd : ((targets req t above).map (·.name)).Nodup) (hm : tb ∈ targets req t above) (hn : isName tb.name = true)
    (hk : (tb.keys.headD []).length ≤ free.length) (h0 : 0 < (tb.keys.headD []).length) (fd : free.Nodup) (fs : ∀ c ∈ free, c ∈ t.cols) (ft : ∀ c ∈ free, c ∉ rs.flatMap (·.1)) (fk : req = false → ∀ c ∈ free, ∀ k ∈ t.keys, c ∉ k) :
    RefsOk t above (rs ++ [(free.take (tb.keys.headD []).length, tb.name, req)]) := by
  have pl : (free.take (tb.keys.headD []).length).length = (tb.keys.headD []).length := by rw [List.length_take]; omega
  have ps : ∀ c ∈ free.take (tb.keys.headD []).length, c ∈ free := fun c hc => List.mem_of_mem_take hc
  refine ⟨by simp; omega, fun r hr => ?_, ?_⟩
  · rcases List.mem_append.mp hr with z | z
    · exact ok.each r z
    · rw [List.mem_singleton.mp z]
      refine ⟨fun q => ?_, hn, ?_, ?_, ?_⟩
      · have q : free.take (tb.keys.headD []).length = [] := q
        rw [q] at pl
        rw [← pl] at h0
        simp at h0
      · show fits ((targets req t above).filter fun a => a.name == tb.name) (free.take (tb.keys.headD []).length) = true
        rw [found_one hd hm]
        show ((tb.keys.headD []).length == (free.take (tb.keys.headD []).length).length) = true
        rw [pl]; exact beq_self_eq_true _
      · exact areDiff_of ((List.take_sublist _ free).nodup fd) fun c hc => fs c (ps c hc)
      · show (!req && t.keys.any (fun k => (free.take (tb.keys.headD []).length).any fun c => k.contains c)) = false
        cases req with
        | true => rfl
        | false =>
          rw [Bool.not_false, Bool.true_and]
          cases q : t.keys.any (fun k => (free.take (tb.keys.headD []).length).any fun c => k.contains c) with
          | false => rfl
          | true =>
            obtain ⟨k, hkk, q⟩ := List.any_eq_true.mp q
            obtain ⟨c, hc, q⟩ := List.any_eq_true.mp q
            exact absurd (List.contains_iff_mem.mp q) (fk rfl c (ps c hc) k hkk)
  · refine List.pairwise_append.mpr ⟨ok.apart, by simp, fun a ha b hb c hc q => ?_⟩
    rw [List.mem_singleton.mp hb] at hc
    exact ft c (ps c hc) (List.mem_flatMap.mpr ⟨a, ha, q⟩)
theorem OkTs.snoc {above ts : List Tbl} {t : Tbl} (h : OkTs above ts) (o : OkT (above ++ ts) t) : OkTs above (ts ++ [t]) := by
  induction h with
  | nil => exact .cons (by simpa using o) .nil
  | cons o1 _ ih => exact .cons o1 (ih (by simpa using o))
/-- a drawn table is allowed -/
theorem table_of {above : List Tbl} {name : T} {cols : List T} {keys : List (List T)} {refs : List (List T × T × Bool)} (hn : isName name = true) (new : name ∉ above.map (·.name)) (room : above.length < 5) (c0 : cols ≠ []) (c5 : cols.length ≤ 5) (cn : ∀ c ∈ cols, isName c = true) (cd : cols.Nodup)
    (k0 : keys ≠ []) (kl : keys.length ≤ 3) (ke : ∀ k ∈ keys, k ≠ [] ∧ k.length ≤ 3 ∧ areDiff k cols = true) (kp : keys.Pairwise (fun o k => hasAll k o = false ∧ hasAll o k = false)) (rs : RefsOk ⟨name, cols, keys, []⟩ above refs) : OkT above ⟨name, cols, keys, refs⟩ :=
  ⟨hn, new, room, c0, c5, cn, cd, k0, kl, ke, kp, rs.len, rs.each, rs.apart⟩
/-- allowed tables keep the bounds -/
theorem wf_all {ts : List Tbl} (ok : OkTs [] ts) (h0 : ts ≠ []) (h5 : ts.length ≤ 5) : ∀ t ∈ ts, WfT t := (parseRows_ok (parse_rt ok h0 h5)).2.2
end Cn
set_option Elab.async false
set_option linter.all false
set_option maxRecDepth 100000
set_option maxHeartbeats 2000000
/-! Cn.M8: the text of allowed tables is read back. -/
namespace Cn
open PySem L2
theorem join_no (c : Nat) (sep : T) (hs : c ∉ sep) : ∀ ps : List T, (∀ p ∈ ps, c ∉ p) → c ∉ joinT sep ps
  | [], _ => by simp [joinT]
  | [p], h => h p (by simp)
  | p :: q :: r, h => by
    have ih := join_no c sep hs (q :: r) fun x hx => h x (List.mem_cons_of_mem _ hx)
    show c ∉ p ++ (sep ++ joinT sep (q :: r))
    intro z
    rcases List.mem_append.mp z with z | z
    · exact h p (by simp) z
    · rcases List.mem_append.mp z with z | z
      · exact hs z
      · exact ih z
theorem diff_sub {k cols : List T} (h : areDiff k cols = true) : ∀ c ∈ k, c ∈ cols := by
  unfold areDiff at h
  simp only [Bool.and_eq_true] at h
  intro c hc
  have h2 := h.2
  unfold hasAll at h2
  have := List.all_eq_true.mp h2 c hc
  exact List.contains_iff_mem.mp this
theorem rows_no {above : List Tbl} {t : Tbl} (ok : OkT above t) : ∀ r ∈ tableRows t, 10 ∉ r := by
  have nn : ∀ c ∈ t.cols, 10 ∉ c := fun c hc => (name_signs (ok.colsN c hc)).2.2
  intro r hr
  unfold tableRows at hr
  simp only [List.mem_append, List.mem_cons, List.not_mem_nil, or_false, List.mem_map] at hr
  rcases hr with rfl | ⟨c, hc, rfl⟩ | ⟨k, hk, rfl⟩ | ⟨q, hq, rfl⟩ | rfl
  · intro z
    rcases List.mem_append.mp z with z | z
    · revert z; decide
    · exact (name_signs ok.name).2.2 z
  · intro z
    rcases List.mem_append.mp z with z | z
    · revert z; decide
    · exact nn c hc z
  · intro z
    rcases List.mem_append.mp z with z | z
    · revert z; decide
    · exact join_no 10 [32] (by decide) k (fun c hc => nn c (diff_sub (ok.keysK k hk).2.2 c hc)) z
  · have rr := ok.refsR q hq
    have h1 := join_no 10 [32] (by decide) q.1 (fun c hc => nn c (diff_sub rr.diff c hc))
    have h2 := (name_signs rr.names).2.2
    have h3 : 10 ∉ (if q.2.2 then ([114, 101, 102] : T) else [111, 112, 116, 105, 111, 110, 97, 108]) := by cases q.2.2 <;> decide
    unfold refRow
    simp only [List.mem_append, not_or]
    exact ⟨by decide, h3, by decide, h1, by decide, h2⟩
  · decide
theorem okTs_all : ∀ {above ts : List Tbl}, OkTs above ts → ∀ t ∈ ts, ∀ r ∈ tableRows t, 10 ∉ r := fun {above ts} h => by
  induction h with
  | nil => intro t ht; cases ht
  | cons o _ ih =>
    intro t ht
    rcases List.mem_cons.mp ht with z | z
    · rw [z]; exact rows_no o
    · exact ih t z
theorem text_rows {ts : List Tbl} (ok : OkTs [] ts) (h0 : ts ≠ []) : splitC 10 (schemaText ts) = ts.flatMap tableRows := by
  refine split_join 10 _ ?_ fun r hr => ?_
  · cases ts with
    | nil => exact absurd rfl h0
    | cons t r => rw [List.flatMap_cons]; unfold tableRows; simp
  · obtain ⟨t, ht, h⟩ := List.mem_flatMap.mp hr
    exact okTs_all ok t ht r h
theorem text_read {ts : List Tbl} (ok : OkTs [] ts) (h0 : ts ≠ []) (h5 : ts.length ≤ 5) : parseRows (splitC 10 (schemaText ts)) = .ok ts := by
  rw [text_rows ok h0]
  exact parse_rt ok h0 h5
end Cn
set_option Elab.async false
set_option linter.all false
set_option maxRecDepth 100000
set_option maxHeartbeats 4000000
/-! the fixed schema; what is told of rows -/
namespace Cn
open PySem L2
structure LT12 (K : PySem.W.Frag) (mg : Str → Option Value) (CR CT CS CP CI : Addr) : Prop extends LTR K mg CR CT CS CP CI where
  g_InvalidText : mg "InvalidText" = some (.ref CI)
  xf_row : XfC K CI
  no_row : PySem.W.findIn K (.ref CI) "row" = some none
  exm : PySem.W.exmOne K (.ref CI) (.ref CI) = some true
def toldR (L : List Cn.T) (ts : List Tbl) : V := match parseRep (splitC 10 (joinT [10] L)) ts with
  | .error e => .int (e : Nat)
  | .ok r => if (repText r == joinT [10] L) = true then .non else sv [111, 116, 104, 101, 114]
theorem sumS (ps : List Cn.T) : ((ps.map S).map (·.length)).sum = (ps.map List.length).sum := by
  rw [List.map_map]
  congr 1
theorem joinLen (c : Nat) : ∀ ps : List Cn.T, (joinT [c] ps).length ≤ (ps.map List.length).sum + ps.length
  | [] => by simp [joinT]
  | [p] => by simp [joinT]
  | p :: q :: r => by
    have ih := joinLen c (q :: r)
    simp only [joinT, List.length_append, List.map_cons, List.sum_cons, List.length_cons, List.length_nil] at ih ⊢
    omega
theorem rep_one (n : Nat) (r : Cn.T) : (List.replicate n [sv r]).flatten = svs (List.replicate n r) := by
  induction n with
  | zero => rfl
  | succ n ih =>
    rw [List.replicate_succ, List.flatten_cons, ih]; rfl
section
variable {P : Program} {w : World} {K : PySem.W.Frag} {mg : Str → Option Value} {base : Heap} {CR CT CS CP CI : Addr} {f : Addr} {fd : FuncData}
theorem sc__law_told : FnScope ["schema", "rows", "caught", "found", "error"] ["schema", "rows"] (defScope s__law_told) := ⟨rfl, rfl, rfl, by decide +kernel, rfl, by decide +kernel, by decide +kernel⟩
theorem sc__law_many : FnScope ["size", "row"] ["size", "row"] (defScope s__law_many) := ⟨rfl, rfl, rfl, by decide +kernel, rfl, by decide +kernel, by decide +kernel⟩
theorem sc__law_schema : FnScope ["rows"] [] (defScope s__law_schema) := ⟨rfl, rfl, rfl, by decide +kernel, rfl, by decide +kernel, by decide +kernel⟩
def sp_toldR (CT CS : Addr) : Sp := fun vs H Q _ => ∃ (sa rl : Addr) (ts : List Tbl) (L : List Cn.T), vs = [.ref sa, .ref rl] ∧ SchR CS CT H (.ref sa) ts ∧ WfS ts ∧ H rl = some (.lst (svs L)) ∧ (L.map List.length).sum + L.length ≤ 900000 ∧ ∀ H', But [] H H' → Q (toldR L ts) H'
theorem ok_toldR (F : Fun K "_law_told" "_law_told" s__law_told f fd) (T : LT12 K mg CR CT CS CP CI) (k_Report_parse : CMt P w K mg base 5 CP "parse" (sp_Rparse CT CS CP CI)) (c_Report_str : Met P w K mg base 1 CP "__str__" (sp_Rstr CP)) : FnOk P w K mg base (L2.CX P w) 6 f fd ["schema", "rows"] (sp_toldR CT CS) := by
  refine F.okX sc__law_told (fun vs H Q E h => ?_) (fun cdv A outer s H vs Q E hr h => ?_)
  · obtain ⟨_, _, _, _, rfl, _⟩ := h
    rfl
  · obtain ⟨sa, rl, ts, L, rfl, hsa, wf, hrl, hz, k⟩ := h
    refine ⟨_, (pss_cons (ps_asg (pe_tup (pa_cons pe_non (pa_cons pe_non pa_nil))) (pg_tup (by rfl) (pgs_cons (pg_name (i := 2) sc__law_told.nd rfl (Or.inl rfl)) (pgs_cons (pg_name (i := 3) sc__law_told.nd rfl (Or.inl rfl)) pgs_nil))))
  (pss_cons (ps_try_keep (i := 4) rfl rfl rfl sc__law_told.nd rfl rfl ⟨(by rfl), (by decide), .inl T.g_InvalidText⟩ (takes_of rfl rfl rfl rfl) (fun W pn xe tk po => (pss_one (ps_set (i := 3) sc__law_told.nd rfl (Or.inl rfl) (p_cmt (E := WE W) (pe_glob (v := .ref CP) rfl T.g_Report rfl) k_Report_parse hr (by decide) (fun σ => passAt tk σ) (pa_cons (pv 0) (pa_cons (pe_joinK K rfl pe_str (pv 1)) pa_nil)))))) (fun a oe cls d pn hz hd => (pss_one (ps_set (i := 2) sc__law_told.nd rfl (Or.inl rfl) (pe_xf T.xf_row T.no_row hz hd (pv 4))))))
  (pss_cons (ps_if (pt_cmpR op_isN (pv 2) pe_non (nomark _))
  (pss_one (ps_ret (pe_ifExp (pt_cmpR op_eq (pe_callTy (call_str_own E c_Report_str hr (by decide) (passX rfl rfl rfl (takes_of rfl rfl rfl rfl))) (by rfl) T.b_str (by decide +kernel) (pa_cons (pv 3) pa_nil)) (pe_joinK K rfl pe_str (pv 1)) (nomark _)) pe_non pe_str)))
  pss_nil)
  (pss_one (ps_ret (pv 2)))))), ?_⟩
    have room : ((L.map S).map (·.length)).sum + (L.map S).length * (S [10]).length ≤ 16777216 := by
      rw [sumS, List.length_map, S_len]
      simp
      omega
    have jl := joinLen 10 L
    refine ⟨szl (by decide), fun q hq => ?_⟩
    refine ⟨q, _, rfl, SqT.of upd_same, rfl, _, _, rfl, _, _, rfl, rfl, ?_⟩
    have b1 : But [] H (upd H q (.tup [V.non, V.non])) := newB hq
    generalize upd H q (.tup [V.non, V.non]) = H1 at b1
    have hsa1 := hsa.fixR T.nT T.nS (b1.fix0 (CR := CR))
    refine ⟨rfl, _, rfl, ⟨_, rfl⟩, _, rfl, S [10], rl, L.map S, rfl, rfl, .inl (by rw [← svs_str]; exact SqL.of (b1.at hrl)), room, ?_⟩
    rw [join_S]
    refine ⟨sa, joinT [10] L, ts, rfl, by omega, hsa1, wf, ?_⟩
    unfold toldR at k
    cases hp : parseRep (splitC 10 (joinT [10] L)) ts with
    | error e =>
      rw [hp] at k
      intro H3 d b3 hd
      refine ⟨true, T.exm, fun _ x hx => ?_, fun z => by cases z⟩
      refine ⟨_, rfl, rfl, rfl, d, _, _, rfl, hd, rfl, ?_⟩
      refine ⟨_, rfl, rfl, _, rfl, ?_⟩
      refine iteF ?_
      exact ⟨_, rfl, k _ ((b1.trans b3).new hx)⟩
    | ok r =>
      rw [hp] at k
      intro H3 v b3 hv
      obtain ⟨x, dx, s0, a, l, ff, g, m, va, vl, vf, vg, rfl, hx, _, _⟩ := id hv
      have b13 := b1.trans b3
      refine ⟨_, rfl, rfl, _, rfl, ?_⟩
      refine iteT ?_
      refine ⟨_, rfl, x, dx, _, rfl, hx, x, dx, a, l, ff, g, s0, m, r, rfl, hx, ⟨_, rfl⟩, ⟨_, rfl⟩, _, rfl, S [10], rl, L.map S, rfl, rfl, .inl (by rw [← svs_str]; exact SqL.of (b13.at hrl)), room, ?_⟩
      rw [join_S]
      refine ⟨rfl, _, rfl, ?_⟩
      rw [sv_eq]
      have k : ∀ H', But [] H H' → Q (if (repText r == joinT [10] L) = true then .non else sv [111, 116, 104, 101, 114]) H' := k
      cases hq : (repText r == joinT [10] L) with
      | true =>
        rw [hq] at k
        exact iteT (k _ b13)
      | false =>
        rw [hq] at k
        exact iteF (k _ b13)
def sp_many : Sp := fun vs H Q _ => ∃ (n : Nat) (r : Cn.T), vs = [.int (n : Nat), sv r] ∧ n ≤ 100 ∧ ∀ H' l, But [] H H' → H l = none → H' l = some (.lst (svs (List.replicate n r))) → Q (.ref l) H'
theorem ok_many (F : Fun K "_law_many" "_law_many" s__law_many f fd) (T : LT12 K mg CR CT CS CP CI) : FnOk P w K mg base (L2.CX P w) 1 f fd ["size", "row"] sp_many := by
  refine F.okX sc__law_many (fun vs H Q E h => ?_) (fun cdv A outer s H vs Q E hr h => ?_)
  · obtain ⟨_, _, rfl, _⟩ := h
    rfl
  · obtain ⟨n, r, rfl, hn, k⟩ := h
    refine ⟨_, (pss_one (ps_ret (pe_op op_rep (pe_lst (pa_cons (pv 1) pa_nil)) (pv 0)))), ?_⟩
    refine ⟨_, rfl, szl (by simp), fun a ha => ⟨_, rfl, a, _, _, rfl, rfl, upd_same, by omega, by omega, szl (by simp; omega), fun p hp => ?_⟩⟩
    have e : (List.replicate ((n : Nat) : Int).toNat [sv r]).flatten = svs (List.replicate n r) := by
      rw [Int.toNat_natCast]
      exact rep_one n r
    rw [e]
    exact k _ p ((newB ha).new hp) ((newB ha).free hp (by simp)) upd_same
/-! ### the schema -/
def ts12 : List Tbl := [⟨[111, 110, 101], [[97], [98], [99], [100]], [[[97]]], []⟩, ⟨[116, 119, 111], [[97], [98], [99]], [[[97]]], [([[98]], [111, 110, 101], false), ([[99]], [116, 119, 111], false)]⟩]
def okIs (e : Except Nat (List Tbl)) (ts : List Tbl) : Bool := match e with
  | .ok t => t == ts
  | .error _ => false
theorem okIs_eq {e : Except Nat (List Tbl)} {ts : List Tbl} (h : okIs e ts = true) : e = .ok ts := by
  cases e with
  | ok t => rw [eq_of_beq (show (t == ts) = true from h)]
  | error n => cases h
theorem parse12 : parseRows (splitC 10 (schemaText ts12)) = .ok ts12 := okIs_eq (by decide +kernel)
theorem wf12 : WfS ts12 := by
  have h := parseRows_ok parse12
  exact ⟨by decide, h.2.2, by decide⟩
def sp_schema12 (CT CS : Addr) : Sp := fun vs H Q _ => vs = [] ∧ ∀ H' v, But [] H H' → SchR CS CT H' v ts12 → Q v H'
theorem ok_schema12 (F : Fun K "_law_schema" "_law_schema" s__law_schema f fd) (T : LT12 K mg CR CT CS CP CI) (k_Schema_parse : CMt P w K mg base 8 CS "parse" (sp_parse CT CS CI)) : FnOk P w K mg base (L2.CX P w) 9 f fd [] (sp_schema12 CT CS) := by
  refine F.okX sc__law_schema (fun vs H Q E h => ?_) (fun cdv A outer s H vs Q E hr h => ?_)
  · obtain ⟨rfl, _⟩ := h
    rfl
  · obtain ⟨rfl, k⟩ := h
    refine ⟨_, (pss_cons (ps_set (i := 0) sc__law_schema.nd rfl (Or.inl rfl) (pe_lst (pa_cons pe_str (pa_cons pe_str (pa_cons pe_str (pa_cons pe_str (pa_cons pe_str (pa_cons pe_str (pa_cons pe_str (pa_cons pe_str pa_nil))))))))))
  (pss_cons (ps_set (i := 0) sc__law_schema.nd rfl (Or.inl rfl) (pe_op op_cat (pv 0) (pe_lst (pa_cons pe_str (pa_cons pe_str (pa_cons pe_str (pa_cons pe_str (pa_cons pe_str pa_nil))))))))
  (pss_one (ps_ret (p_cmt (E := fun _ => E) (pe_glob (v := .ref CS) rfl T.g_Schema rfl) k_Schema_parse hr (by decide) (fun σ => passE (passX rfl rfl rfl (takes_of rfl rfl rfl rfl)) σ) (pa_cons (pe_joinK K rfl pe_str (pe_op op_cat (pv 0) (pe_lst (pa_cons pe_str (pa_cons pe_str pa_nil))))) pa_nil)))))), ?_⟩
    refine ⟨szl (by decide), fun a ha => ?_⟩
    refine ⟨_, rfl, szl (by decide), fun b hb => ?_⟩
    have nab : a ≠ b := fun z => by rw [← z, upd_same] at hb; cases hb
    refine ⟨a, b, _, _, rfl, rfl, by rw [upd_ne nab, upd_same], upd_same, szl (by decide), fun c hc => ?_⟩
    refine ⟨rfl, ⟨_, rfl⟩, _, rfl, szl (by decide), fun d hd => ?_⟩
    have ncd : c ≠ d := fun z => by rw [← z, upd_same] at hd; cases hd
    refine ⟨c, d, _, _, rfl, rfl, by rw [upd_ne ncd, upd_same], upd_same, szl (by decide), fun e he => ?_⟩
    refine ⟨S [10], e, (ts12.flatMap tableRows).map S, rfl, rfl, .inl (SqL.of upd_same), by decide, ?_⟩
    rw [join_S]
    refine ⟨schemaText ts12, rfl, by decide +kernel, ?_⟩
    rw [parse12]
    intro H6 v b6 hv
    refine k H6 v (But.trans ?_ b6) hv
    exact ((((newB ha).new hb).new hc).new hd).new he
end
end Cn
set_option Elab.async false
set_option linter.all false
set_option maxRecDepth 100000
set_option maxHeartbeats 2000000
/-! Cn.B27: lists of rows, and lists of pairs of a list of rows and a number or None, made by sums of lists. -/
namespace Cn
open PySem L2 Evl
theorem ex_but {H H' : Hp} (b : But [] H H') : Ex H H' := fun a o h => b.at h
theorem but_ex {H H' : Hp} (b : Ex H H') : But [] H H' := fun a o _ h => b a o h
/-- an old or a new list of texts; H0: what is known -/
def EvS (te : TE) (σ : L2.St) (H0 : Hp) (L : List T) : Prop := ∀ H1, Ex H0 H1 → ∀ Q : VK, (∀ p H2, (H0 p ≠ none ∨ H1 p = none) → Ex H1 H2 → H2 p = some (.lst (svs L)) → Q (.ref p) H2) → te σ H1 Q
def EvN (te : TE) (σ : L2.St) (H0 : Hp) (L : List T) : Prop := ∀ H1, Ex H0 H1 → ∀ Q : VK, (∀ p H2, H1 p = none → Ex H1 H2 → H2 p = some (.lst (svs L)) → Q (.ref p) H2) → te σ H1 Q
section
variable {K : PySem.W.Frag} {σ : L2.St} {H0 H : Hp} {ta tb te : TE}
theorem EvN.s {L : List T} (h : EvN te σ H0 L) : EvS te σ H0 L := fun H1 e Q q => h H1 e Q fun p H2 hp e2 h2 => q p H2 (.inr hp) e2 h2
theorem es_var {i : Nat} {a : Addr} {L : List T} (h : σ[i]? = some (some (.ref a))) (ha : H0 a = some (.lst (svs L))) : EvS (tVar i) σ H0 L := fun H1 e Q q =>
  ⟨_, h, q a H1 (.inl (by rw [ha]; simp)) (Ex.refl H1) (e a _ ha)⟩
theorem ev_lit {s : Str} {t : T} (h : s = S t) : Ev (tC (.str s)) σ H0 (sv t) := by subst h; exact ev_c
def rCatT : R2 := fun x y H Q => ∃ i j, x = V.str i ∧ y = V.str j ∧ i.length + j.length ≤ sizeLine ∧ Q (V.str (i ++ j)) H
theorem ev_cats {a b : T} (h1 : Ev ta σ H0 (sv a)) (h2 : Ev tb σ H0 (sv b)) (hz : a.length + b.length ≤ 100000) : Ev (tOp rCatT ta tb) σ H0 (sv (a ++ b)) := fun H1 e Q q =>
  h1 H1 e _ fun H2 e2 => h2 H2 (e.trans e2) _ fun H3 e3 => ⟨S a, S b, rfl, rfl, szl (by rw [S_len, S_len]; omega), by rw [S_app]; exact q H3 (e2.trans e3)⟩
theorem es_args {t : T} {ts : List T} {tr : TA} (h1 : Ev te σ H0 (sv t)) (h2 : EvA tr σ H0 (svs ts)) : EvA (tCons te tr) σ H0 (svs (t :: ts)) := ea_cons h1 h2
theorem es_nil : EvA tNil σ H0 (svs []) := ea_nil
theorem en_lst {tr : TA} {L : List T} (h : EvA tr σ H0 (svs L)) (hz : L.length ≤ 1000) : EvN (tLst tr) σ H0 L := fun H1 e Q q =>
  h H1 e _ fun H2 e2 => ⟨szl (by rw [svs_len]; omega), fun p hp => q p _ (fresh_back e2 hp) (e2.trans (Ex.new hp)) upd_same⟩
theorem en_cat {A B : List T} (h1 : EvS ta σ H0 A) (h2 : EvS tb σ H0 B) (hz : A.length + B.length ≤ 1000) : EvN (tOp rCat ta tb) σ H0 (A ++ B) := fun H1 e Q q =>
  h1 H1 e _ fun a H2 _ e2 ha => h2 H2 (e.trans e2) _ fun b H3 _ e3 hb => ⟨a, b, _, _, rfl, rfl, e3 a _ ha, hb, szl (by rw [svs_len, svs_len]; omega), fun p hp => by
    rw [← svs_app]
    exact q p _ (fresh_back (e2.trans e3) hp) ((e2.trans e3).trans (Ex.new hp)) upd_same⟩
theorem cut1 (L : List T) : cutV (svs L) none (some 1) = svs (L.take 1) := by
  unfold cutV
  have e : HT.sIx (svs L).length (svs L).length (some 1) = min 1 (svs L).length := HT.sIx_nat _ _ 1
  rw [e]
  show ((svs L).drop 0).take (min 1 (svs L).length - 0) = _
  cases L with
  | nil => rfl
  | cons x r =>
    have : min 1 (svs (x :: r)).length - 0 = 1 := by rw [svs_len, List.length_cons]; omega
    rw [this]; rfl
theorem en_cut1 {L : List T} (h : EvS te σ H0 L) : EvN (tSl (rSlL K) te tNoPart (tPart (tC (.int 1)))) σ H0 (L.take 1) := fun H1 e Q q =>
  h H1 e _ fun a H2 _ e2 ha => ⟨_, rfl, a, _, rfl, SqL.of ha, fun p hp => by
    rw [cut1]
    exact q p _ (fresh_back e2 hp) (e2.trans (Ex.new hp)) upd_same⟩
/-! ### pairs -/
def codeV : Option Nat → V
  | none => .non
  | some n => .int (n : Nat)
def CaseN (H0 H1 H : Hp) (v : V) (c : List T × Option Nat) : Prop := ∃ a q, v = .ref a ∧ H a = some (.tup [.ref q, codeV c.2]) ∧ H q = some (.lst (svs c.1)) ∧ (H0 q ≠ none ∨ H1 q = none)
def CaseR (l : Addr) (H : Hp) (v : V) (c : List T × Option Nat) : Prop := ∃ a q, v = .ref a ∧ H a = some (.tup [.ref q, codeV c.2]) ∧ H q = some (.lst (svs c.1)) ∧ q ≠ l
def FndH (l : Addr) (H : Hp) (cs : List (List T × Option Nat)) : Prop := ∃ xs, H l = some (.lst xs) ∧ Each (CaseR l H) xs cs
def EvC (te : TE) (σ : L2.St) (H0 : Hp) (c : List T × Option Nat) : Prop := ∀ H1, Ex H0 H1 → ∀ Q : VK, (∀ v H2, Ex H1 H2 → CaseN H0 H1 H2 v c → Q v H2) → te σ H1 Q
def EvAC (ta : TA) (σ : L2.St) (H0 : Hp) (cs : List (List T × Option Nat)) : Prop := ∀ H1, Ex H0 H1 → ∀ Q : List V → Hp → Prop, (∀ vs H2, Ex H1 H2 → Each (CaseN H0 H1 H2) vs cs → Q vs H2) → ta σ H1 Q
theorem CaseN.later {H0 H1 H H' : Hp} {v : V} {c : List T × Option Nat} (e : Ex H H') (h : CaseN H0 H1 H v c) : CaseN H0 H1 H' v c := let ⟨a, q, x, y, z, w⟩ := h; ⟨a, q, x, e a _ y, e q _ z, w⟩
theorem CaseN.base {H0 H1 H1' H : Hp} {v : V} {c : List T × Option Nat} (e : Ex H1 H1') (h : CaseN H0 H1' H v c) : CaseN H0 H1 H v c := let ⟨a, q, x, y, z, w⟩ := h; ⟨a, q, x, y, z, w.imp id (fresh_back e)⟩
theorem CaseN.r {H0 H1 H : Hp} {l : Addr} {v : V} {c : List T × Option Nat} (h0 : H0 l = none) (h1 : H1 l ≠ none) (h : CaseN H0 H1 H v c) : CaseR l H v c := let ⟨a, q, x, y, z, w⟩ := h
  ⟨a, q, x, y, z, fun e => by rcases w with w | w; exact w (by rw [e]; exact h0); exact h1 (by rw [← e]; exact w)⟩
theorem CaseN.rN {H0 H1 H : Hp} {l : Addr} {v : V} {c : List T × Option Nat} (h0 : H l = none) (h : CaseN H0 H1 H v c) : CaseR l H v c := let ⟨a, q, x, y, z, w⟩ := h
  ⟨a, q, x, y, z, fun e => by rw [e, h0] at z; cases z⟩
theorem CaseR.rN {H : Hp} {l l' : Addr} {v : V} {c : List T × Option Nat} (h0 : H l' = none) (h : CaseR l H v c) : CaseR l' H v c := let ⟨a, q, x, y, z, w⟩ := h
  ⟨a, q, x, y, z, fun e => by rw [e, h0] at z; cases z⟩
theorem CaseR.later {l : Addr} {H H' : Hp} {v : V} {c : List T × Option Nat} (e : Ex H H') (h : CaseR l H v c) : CaseR l H' v c := let ⟨a, q, x, y, z, w⟩ := h; ⟨a, q, x, e a _ y, e q _ z, w⟩
theorem CaseR.put {l : Addr} {H : Hp} {xs ys : List V} (hl : H l = some (.lst xs)) {v : V} {c : List T × Option Nat} (h : CaseR l H v c) : CaseR l (upd H l (.lst ys)) v c := let ⟨a, q, x, y, z, w⟩ := h
  ⟨a, q, x, by rw [upd_ne fun e => by rw [e, hl] at y; cases y]; exact y, by rw [upd_ne w]; exact z, w⟩
theorem FndH.later {l : Addr} {H H' : Hp} {cs : List (List T × Option Nat)} (e : Ex H H') (h : FndH l H cs) : FndH l H' cs := let ⟨xs, a, b⟩ := h; ⟨xs, e l _ a, b.mono fun _ _ z => z.later e⟩
theorem ec_tup {L : List T} {x : Option Nat} {u : V} (h : EvS te σ H0 L) (hu : u = codeV x) : EvC (tTup (tCons te (tCons (tC u) tNil))) σ H0 (L, x) := fun H1 e Q q => by
  subst hu
  exact h H1 e _ fun a H2 ho e2 ha => ⟨szl (by simp), fun p hp => q _ _ (e2.trans (Ex.new hp)) ⟨p, a, rfl, upd_same, by rw [upd_ne (ne_of_none ha hp)]; exact ha, ho⟩⟩
theorem eac_nil : EvAC tNil σ H0 [] := fun H1 e Q q => q [] H1 (Ex.refl H1) Each.nil
theorem each_cons {α : Type} {R : V → α → Prop} {x : V} {y : α} {xs : List V} {ys : List α} (h : R x y) (hs : Each R xs ys) : Each R (x :: xs) (y :: ys) := by
  refine ⟨by simp [hs.1], fun i v z a b => ?_⟩
  cases i with
  | zero => cases a; cases b; exact h
  | succ i => exact hs.2 i v z a b
theorem each_app {α : Type} {R : V → α → Prop} : ∀ {xs zs : List V} {ys ws : List α}, Each R xs ys → Each R zs ws → Each R (xs ++ zs) (ys ++ ws)
  | [], zs, [], ws, _, h2 => h2
  | x :: xs, zs, y :: ys, ws, h1, h2 => each_cons (h1.2 0 x y rfl rfl) (each_app ⟨by have := h1.1; simpa using this, fun i v z a b => h1.2 (i + 1) v z a b⟩ h2)
  | [], _, _ :: _, _, h1, _ => by have := h1.1; simp at this
  | _ :: _, _, [], _, h1, _ => by have := h1.1; simp at this
theorem eac_cons {c : List T × Option Nat} {cs : List (List T × Option Nat)} {tr : TA} (h : EvC te σ H0 c) (hr : EvAC tr σ H0 cs) : EvAC (tCons te tr) σ H0 (c :: cs) := fun H1 e Q q =>
  h H1 e _ fun v H2 e2 hc => hr H2 (e.trans e2) _ fun vs H3 e3 hs => q _ H3 (e2.trans e3) (each_cons (hc.later e3) (hs.mono fun _ _ z => z.base e2))
variable {D : Ends} {tr : TA} {i : Nat} {l : Addr} {cs ds : List (List T × Option Nat)} {c : List T × Option Nat}
theorem s_par2 {A B : List T} {j : Nat} (h1 : EvN ta σ H0 A) (h2 : EvN tb σ H0 B) (k : ∀ a b H', Ex H0 H' → H' a = some (.lst (svs A)) → H' b = some (.lst (svs B)) → D.nx ((σ.set i (some (.ref a))).set j (some (.ref b))) H') : tPar i j (tCons ta (tCons tb tNil)) D σ H0 :=
  h1 H0 (Ex.refl H0) _ fun a H1 _ e1 ha => h2 H1 e1 _ fun b H2 _ e2 hb => ⟨_, _, rfl, k a b H2 (e1.trans e2) (e2 a _ ha) hb⟩
theorem s_lst {A : List T} (h : EvN te σ H0 A) (k : ∀ a H', H0 a = none → Ex H0 H' → H' a = some (.lst (svs A)) → D.nx (σ.set i (some (.ref a))) H') : tAsg te (gName i) D σ H0 :=
  h H0 (Ex.refl H0) _ fun a H1 hn e1 ha => k a H1 hn e1 ha
theorem ev_rep {n : Nat} {a : T} {s : Str} (h : s = S a) (h1 : 1 ≤ n) (h2 : n ≤ 100000) (h3 : a.length ≤ 100) (h4 : a ≠ []) : Ev (tOp (fun x y H Q => ∃ (a : T) (n : Nat), x = sv a ∧ y = .int (n : Int) ∧ 1 ≤ n ∧ n ≤ 100000 ∧ a.length ≤ 100 ∧ a ≠ [] ∧ Q (sv (repT n a)) H) (tC (.str s)) (tC (.int (n : Nat)))) σ H0 (sv (repT n a)) := fun H1 e Q q => by
  subst h
  exact ⟨a, n, rfl, rfl, h1, h2, h3, h4, q H1 (Ex.refl H1)⟩
theorem s_words {v : Option V} {L words : List T} {pre : T} {s : Str} (hs : s = S pre) (h : EvA tr [some (.ref l), v] H0 (svs words)) (hl : H0 l = some (.lst (svs L))) (hw : words.length ≤ 1000) (hz : L.length ≤ 10000) (hp : pre.length ≤ 1000) (hx : ∀ w ∈ words, w.length ≤ 90000)
    (k : ∀ v' H', (∀ {G : Hp}, G l = none → Ex G H0 → Ex G H') → H' l = some (.lst (svs (L ++ words.map (pre ++ ·)))) → D.nx [some (.ref l), v'] H') :
    tFor (iTup K (tTup tr)) (gName 1) (tDrop (tBM K "list" rAppend (tVar 0) (tCons (tOp rCatT (tC (.str s)) (tVar 1)) tNil))) D [some (.ref l), v] H0 := by
  subst hs
  refine h H0 (Ex.refl H0) _ fun H1 e1 => ⟨szl (by rw [svs_len]; omega), fun p hp2 => ?_⟩
  have e2 : Ex H1 (upd H1 p (.tup (svs words))) := Ex.new hp2
  have hpp : (upd H1 p (.tup (svs words))) p = some (.tup (svs words)) := upd_same
  generalize upd H1 p (.tup (svs words)) = H2 at e2 hpp
  have hl2 := e2 l _ (e1 l _ hl)
  refine ⟨p, rfl, ⟨_, SqT.of hpp⟩, ?_⟩
  refine for_it (walk_tup (K := K) (a := p) (xs := svs words)) (fun i σ H' => (∃ v', σ = [some (.ref l), v']) ∧ (∀ {G : Hp}, G l = none → Ex G H0 → Ex G H') ∧ H' p = some (.tup (svs words)) ∧ H' l = some (.lst (svs (L ++ (words.take i).map (pre ++ ·)))))
    ⟨⟨_, rfl⟩, fun _ e => e.trans (e1.trans e2), hpp, by simpa using hl2⟩ (fun i σ H' _ e => SqT.of e.2.2.1) (fun i x σ H3 H3' hi ⟨⟨v', es⟩, a1, a2, a3⟩ y => ?_) (fun σ H3 ⟨⟨v', es⟩, a1, a2, a3⟩ => ?_)
  · obtain ⟨rfl, hx3⟩ := y
    obtain ⟨w, hw3, rfl⟩ := svs_get hx3
    subst es
    have wl := hx w (List.mem_of_getElem? hw3)
    have ti : (words.take i).length ≤ 1000 := by rw [List.length_take]; omega
    refine ⟨_, rfl, Or.inl ⟨rfl, _, SqL.of a3⟩, _, rfl, S pre, S w, rfl, rfl, szl (by rw [S_len, S_len]; omega), ?_⟩
    rw [S_app]
    refine ⟨l, _, _, rfl, rfl, a3, szt (by rw [svs_len, List.length_append, List.length_map]; omega), ⟨_, rfl⟩, fun g e => Ex.mut (a1 g e) g, ?_, ?_⟩
    · rw [upd_ne fun z => by rw [z, a3] at a2; cases a2]; exact a2
    · rw [upd_same]
      congr 2
      have st : words.take (i + 1) = words.take i ++ [w] := by rw [List.take_add_one, hw3]; rfl
      rw [st, List.map_append, ← List.append_assoc, svs_app (_ ++ _)]; rfl
  · subst es
    rw [svs_len, List.take_length] at a3
    exact k _ _ a1 a3
theorem s_app0 {t : T} {L : List T} {s : Str} (hs : s = S t) (hi : σ[i]? = some (some (.ref l))) (hl : H l = some (.lst (svs L))) (hz : L.length ≤ 10000) (k : D.nx σ (upd H l (.lst (svs (L ++ [t]))))) : tDrop (tBM K "list" rAppend (tVar i) (tCons (tC (.str s)) tNil)) D σ H := by
  subst hs
  refine ⟨_, hi, Or.inl ⟨rfl, _, SqL.of hl⟩, l, _, _, rfl, rfl, hl, szt (by rw [svs_len]; omega), ?_⟩
  rw [svs_app] at k
  exact k
def hide (l : Addr) (H : Hp) : Hp := fun a => if a = l then none else H a
theorem rebase {G H' : Hp} {p : Addr} {o : HO} (hl : H0 l = none) (ex : Ex H0 G) (f : FndH l G cs) (e : Ex G H') (n : G p = none) (hp : H' p = some o) : Ex H0 (hide l H') ∧ Ex (hide l H') H' ∧ hide l H' l = none ∧ hide l H' p = some o ∧ FndH l H' cs := by
  have ne : p ≠ l := fun z => by
    obtain ⟨xs, a, _⟩ := f
    rw [← z, n] at a; cases a
  refine ⟨fun a o h => ?_, fun a o h => ?_, if_pos rfl, ?_, f.later e⟩
  · unfold hide
    rw [if_neg fun z => by rw [z, hl] at h; cases h]
    exact e a o (ex a o h)
  · unfold hide at h
    split at h
    · cases h
    · exact h
  · unfold hide
    rw [if_neg ne]; exact hp
theorem c_lit (h : EvAC tr σ H0 cs) (hz : cs.length ≤ 1000) (k : ∀ l H', H0 l = none → Ex H0 H' → FndH l H' cs → D.nx (σ.set i (some (.ref l))) H') : tAsg (tLst tr) (gName i) D σ H0 :=
  h H0 (Ex.refl H0) _ fun vs H2 e2 hs => ⟨szl (by rw [hs.1]; omega), fun p hp => k p _ (fresh_back e2 hp) (e2.trans (Ex.new hp)) ⟨vs, upd_same, hs.mono fun _ _ z => (z.rN hp).later (Ex.new hp)⟩⟩
theorem c_app (hi : σ[i]? = some (some (.ref l))) (hl : H0 l = none) (e0 : Ex H0 H) (f : FndH l H cs) (h : EvC te σ H0 c) (hz : cs.length ≤ 1000) (k : ∀ H', Ex H0 H' → FndH l H' (cs ++ [c]) → D.nx σ H') :
    tDrop (tBM K "list" rAppend (tVar i) (tCons te tNil)) D σ H := by
  obtain ⟨xs, f1, f2⟩ := f
  refine ⟨_, hi, Or.inl ⟨rfl, xs, SqL.of f1⟩, h H e0 _ fun v H2 e2 hc => ?_⟩
  have f3 := e2 l _ f1
  refine ⟨l, xs, v, rfl, rfl, f3, szt (by rw [f2.1]; omega), k _ (Ex.mut (e0.trans e2) hl) ⟨_, upd_same, ?_⟩⟩
  exact (f2.mono fun _ _ z => (z.later e2).put f3).snoc ((hc.r hl (by rw [f1]; simp)).put f3)
theorem cat_core {Q : VK} (hi : σ[i]? = some (some (.ref l))) (hl : H0 l = none) (e0 : Ex H0 H) (f : FndH l H cs) (h : EvAC tr σ H0 ds) (hz : cs.length + ds.length ≤ 1000) (k : ∀ l' H', H0 l' = none → H l' = none → Ex H0 H' → FndH l' H' (cs ++ ds) → Q (.ref l') H') :
    tOp rCat (tVar i) (tLst tr) σ H Q := by
  obtain ⟨xs, f1, f2⟩ := f
  refine ⟨_, hi, h H e0 _ fun vs H2 e2 hs => ⟨szl (by rw [hs.1]; omega), fun p hp => ?_⟩⟩
  have f3 := e2 l _ f1
  have n1 : l ≠ p := ne_of_none f3 hp
  refine ⟨l, p, xs, vs, rfl, rfl, by rw [upd_ne n1]; exact f3, upd_same, szl (by rw [f2.1, hs.1]; omega), fun r hr => ?_⟩
  have hr2 : H2 r = none := fresh_back (Ex.new hp) hr
  have ex : Ex H2 (upd (upd H2 p (.lst vs)) r (.lst (xs ++ vs))) := (Ex.new hp).trans (Ex.new hr)
  refine k r _ (fresh_back (e0.trans e2) hr2) (fresh_back e2 hr2) ((e0.trans e2).trans ex) ⟨_, upd_same, ?_⟩
  exact each_app (f2.mono fun _ _ z => ((z.later e2).rN hr2).later ex) (hs.mono fun _ _ z => (z.rN hr2).later ex)
theorem c_cat (hi : σ[i]? = some (some (.ref l))) (hl : H0 l = none) (e0 : Ex H0 H) (f : FndH l H cs) (h : EvAC tr σ H0 ds) (hz : cs.length + ds.length ≤ 1000) {j : Nat} (k : ∀ l' H', H0 l' = none → Ex H0 H' → FndH l' H' (cs ++ ds) → D.nx (σ.set j (some (.ref l'))) H') :
    tAsg (tOp rCat (tVar i) (tLst tr)) (gName j) D σ H := cat_core hi hl e0 f h hz fun l' H' a _ c d => k l' H' a c d
theorem c_ret (hi : σ[i]? = some (some (.ref l))) (hl : H0 l = none) (e0 : Ex H0 H) (f : FndH l H cs) (h : EvAC tr σ H0 ds) (hz : cs.length + ds.length ≤ 1000) (k : ∀ l' H', H0 l' = none → Ex H0 H' → FndH l' H' (cs ++ ds) → D.rt (.ref l') H') :
    tRet (tOp rCat (tVar i) (tLst tr)) D σ H := cat_core hi hl e0 f h hz fun l' H' a _ c d => k l' H' a c d
end
end Cn
set_option Elab.async false
set_option linter.all false
set_option maxRecDepth 100000
set_option maxHeartbeats 4000000
/-! the pairs of rows and numbers (printed by mkcases.py) -/
namespace Cn
open PySem L2 Evl
def sp_cases (C : Cn.T → List (List Cn.T × Option Nat)) : Sp := fun vs H Q _ => ∃ name : Cn.T, vs = [sv name] ∧ name.length ≤ 8 ∧ ∀ H' l, But [] H H' → H l = none → FndH l H' (C name) → Q (.ref l) H'
section
variable {K : PySem.W.Frag} {σ : L2.St} {H0 : Hp} {te : TE} {E : XK}
theorem en_many {n : Nat} {r : Cn.T} (h : Ev te σ H0 (sv r)) (hn : n ≤ 100) : EvN (tCall sp_many [] E (tCons (tC (.int (n : Nat))) (tCons te tNil))) σ H0 (List.replicate n r) := fun H1 e Q q =>
  h H1 e _ fun H2 e2 => ⟨n, r, rfl, hn, fun H' l b hl h' => q l H' (fresh_back e2 hl) (e2.trans (ex_but b)) h'⟩
end
section
variable {P : Program} {w : World} {K : PySem.W.Frag} {mg : Str → Option Value} {base : Heap} {CR CT CS CP CI : Addr} {f : Addr} {fd : FuncData}
theorem sc__law_many_cases : FnScope ["name", "head", "tail", "joins", "link", "keep", "groups", "found"] ["name"] (defScope s__law_many_cases) := ⟨rfl, rfl, rfl, by decide +kernel, rfl, by decide +kernel, by decide +kernel⟩
theorem sc__law_order_cases : FnScope ["name", "head", "tail", "found", "second"] ["name"] (defScope s__law_order_cases) := ⟨rfl, rfl, rfl, by decide +kernel, rfl, by decide +kernel, by decide +kernel⟩
def many_head (name : Cn.T) : List Cn.T := [(([114, 101, 112, 111, 114, 116, 32] : Cn.T) ++ name), ([32, 32, 102, 114, 111, 109, 32, 111, 110, 101, 32, 120] : Cn.T)]
def many_tail (name : Cn.T) : List Cn.T := [([32, 32, 114, 111, 119, 115] : Cn.T), ([101, 110, 100] : Cn.T)]
def many_joins (name : Cn.T) : List Cn.T := [([32, 32, 106, 111, 105, 110, 32, 116, 119, 111, 32, 121] : Cn.T), ([32, 32, 106, 111, 105, 110, 32, 111, 110, 101, 32, 122] : Cn.T), ([32, 32, 106, 111, 105, 110, 32, 116, 119, 111, 32, 119] : Cn.T)]
def many_link : Cn.T := [32, 32, 108, 105, 110, 107, 32, 120, 46, 97, 32, 61, 32, 121, 46, 98]
def many_keep : Cn.T := [32, 32, 119, 104, 101, 114, 101, 32, 121, 46, 98, 32, 61, 32, 49, 48, 48, 48, 48, 48, 48, 48, 48, 48]
def many_groups (name : Cn.T) : List Cn.T := [([32, 32, 98, 121, 32, 120, 46, 97] : Cn.T), ([32, 32, 98, 121, 32, 121, 46, 97] : Cn.T), ([32, 32, 98, 121, 32, 120, 46, 98] : Cn.T)]
def manyC1 (name : Cn.T) : List (List Cn.T × Option Nat) := [(((many_head name) ++ (many_tail name)), none), ((((many_head name) ++ (many_joins name)) ++ (many_tail name)), none), (((((many_head name) ++ (many_joins name)) ++ [([32, 32, 106, 111, 105, 110, 32, 111, 110, 101, 32, 118] : Cn.T)]) ++ (many_tail name)), some 5)]
def manyC2 (name : Cn.T) : List (List Cn.T × Option Nat) := manyC1 name ++ [(((((many_head name) ++ (many_joins name)) ++ (List.replicate 20 many_link)) ++ (many_tail name)), none)]
def manyC3 (name : Cn.T) : List (List Cn.T × Option Nat) := manyC2 name ++ [(((((many_head name) ++ (many_joins name)) ++ (List.replicate 21 many_link)) ++ (many_tail name)), some 25)]
def manyC4 (name : Cn.T) : List (List Cn.T × Option Nat) := manyC3 name ++ [(((((many_head name) ++ (many_joins name)) ++ (List.replicate 5 many_keep)) ++ (many_tail name)), none)]
def manyC5 (name : Cn.T) : List (List Cn.T × Option Nat) := manyC4 name ++ [(((((many_head name) ++ (many_joins name)) ++ (List.replicate 6 many_keep)) ++ (many_tail name)), some 10)]
def manyC6 (name : Cn.T) : List (List Cn.T × Option Nat) := manyC5 name ++ [(((((many_head name) ++ (many_joins name)) ++ (many_groups name)) ++ (many_tail name)), none), ((((((many_head name) ++ (many_joins name)) ++ (many_groups name)) ++ [([32, 32, 98, 121, 32, 120, 46, 99] : Cn.T)]) ++ (many_tail name)), some 8)]
def manyC7 (name : Cn.T) : List (List Cn.T × Option Nat) := manyC6 name ++ [((((many_head name) ++ [([32, 32, 98, 121, 32, 120, 46, 97] : Cn.T), ([32, 32, 98, 121, 32, 120, 46, 97] : Cn.T)]) ++ (many_tail name)), some 3), (((((many_head name) ++ (many_joins name)) ++ [([32, 32, 98, 121, 32, 121, 46, 98] : Cn.T)]) ++ (many_tail name)), some 5)]
def manyC8 (name : Cn.T) : List (List Cn.T × Option Nat) := manyC7 name ++ [((((((many_head name) ++ (many_joins name)) ++ [many_link, many_keep]) ++ (many_groups name)) ++ [([32, 32, 115, 117, 109, 32, 100] : Cn.T), ([101, 110, 100] : Cn.T)]), none)]
theorem ok_many_cases (F : Fun K "_law_many_cases" "_law_many_cases" s__law_many_cases f fd) (T : LT12 K mg CR CT CS CP CI) (c__law_many : Cal P w K mg base 1 "_law_many" sp_many) : FnOk P w K mg base (L2.CX P w) 2 f fd ["name"] (sp_cases manyC8) := by
  refine F.okX sc__law_many_cases (fun vs H Q E h => ?_) (fun cdv A outer s H vs Q E hr h => ?_)
  · obtain ⟨_, rfl, _⟩ := h
    rfl
  · obtain ⟨name, rfl, hn, k⟩ := h
    refine ⟨_, (pss_cons (ps_par (i := 1) (j := 2) (by rfl) sc__law_many_cases.nd rfl rfl (by decide) rfl rfl (pa_cons (pe_lst (pa_cons (pe_op op_add_str pe_str (pv 0)) (pa_cons pe_str pa_nil))) (pa_cons (pe_lst (pa_cons pe_str (pa_cons pe_str pa_nil))) pa_nil)) (by rfl))
  (pss_cons (ps_set (i := 3) sc__law_many_cases.nd rfl (Or.inl rfl) (pe_lst (pa_cons pe_str (pa_cons pe_str (pa_cons pe_str pa_nil)))))
  (pss_cons (ps_asg (pe_tup (pa_cons pe_str (pa_cons pe_str pa_nil))) (pg_tup (by rfl) (pgs_cons (pg_name (i := 4) sc__law_many_cases.nd rfl (Or.inl rfl)) (pgs_cons (pg_name (i := 5) sc__law_many_cases.nd rfl (Or.inl rfl)) pgs_nil))))
  (pss_cons (ps_set (i := 6) sc__law_many_cases.nd rfl (Or.inl rfl) (pe_lst (pa_cons pe_str (pa_cons pe_str (pa_cons pe_str pa_nil)))))
  (pss_cons (ps_set (i := 7) sc__law_many_cases.nd rfl (Or.inl rfl) (pe_lst (pa_cons (pe_tup (pa_cons (pe_op op_cat (pv 1) (pv 2)) (pa_cons pe_non pa_nil))) (pa_cons (pe_tup (pa_cons (pe_op op_cat (pe_op op_cat (pv 1) (pv 3)) (pv 2)) (pa_cons pe_non pa_nil))) (pa_cons (pe_tup (pa_cons (pe_op op_cat (pe_op op_cat (pe_op op_cat (pv 1) (pv 3)) (pe_lst (pa_cons pe_str pa_nil))) (pv 2)) (pa_cons pe_int pa_nil))) pa_nil)))))
  (pss_cons (ps_expr (pe_bm PySem.F.plainAttrs_list PySem.F.slot_list_append PySem.F.type_list_append mt_append (pv 7) (pa_cons (pe_tup (pa_cons (pe_op op_cat (pe_op op_cat (pe_op op_cat (pv 1) (pv 3)) (p_call E c__law_many hr (by decide) (by rfl) (passX rfl rfl rfl (takes_of rfl rfl rfl rfl)) (pa_cons pe_int (pa_cons (pv 4) pa_nil)))) (pv 2)) (pa_cons pe_non pa_nil))) pa_nil)))
  (pss_cons (ps_expr (pe_bm PySem.F.plainAttrs_list PySem.F.slot_list_append PySem.F.type_list_append mt_append (pv 7) (pa_cons (pe_tup (pa_cons (pe_op op_cat (pe_op op_cat (pe_op op_cat (pv 1) (pv 3)) (p_call E c__law_many hr (by decide) (by rfl) (passX rfl rfl rfl (takes_of rfl rfl rfl rfl)) (pa_cons pe_int (pa_cons (pv 4) pa_nil)))) (pv 2)) (pa_cons pe_int pa_nil))) pa_nil)))
  (pss_cons (ps_expr (pe_bm PySem.F.plainAttrs_list PySem.F.slot_list_append PySem.F.type_list_append mt_append (pv 7) (pa_cons (pe_tup (pa_cons (pe_op op_cat (pe_op op_cat (pe_op op_cat (pv 1) (pv 3)) (p_call E c__law_many hr (by decide) (by rfl) (passX rfl rfl rfl (takes_of rfl rfl rfl rfl)) (pa_cons pe_int (pa_cons (pv 5) pa_nil)))) (pv 2)) (pa_cons pe_non pa_nil))) pa_nil)))
  (pss_cons (ps_expr (pe_bm PySem.F.plainAttrs_list PySem.F.slot_list_append PySem.F.type_list_append mt_append (pv 7) (pa_cons (pe_tup (pa_cons (pe_op op_cat (pe_op op_cat (pe_op op_cat (pv 1) (pv 3)) (p_call E c__law_many hr (by decide) (by rfl) (passX rfl rfl rfl (takes_of rfl rfl rfl rfl)) (pa_cons pe_int (pa_cons (pv 5) pa_nil)))) (pv 2)) (pa_cons pe_int pa_nil))) pa_nil)))
  (pss_cons (ps_set (i := 7) sc__law_many_cases.nd rfl (Or.inl rfl) (pe_op op_cat (pv 7) (pe_lst (pa_cons (pe_tup (pa_cons (pe_op op_cat (pe_op op_cat (pe_op op_cat (pv 1) (pv 3)) (pv 6)) (pv 2)) (pa_cons pe_non pa_nil))) (pa_cons (pe_tup (pa_cons (pe_op op_cat (pe_op op_cat (pe_op op_cat (pe_op op_cat (pv 1) (pv 3)) (pv 6)) (pe_lst (pa_cons pe_str pa_nil))) (pv 2)) (pa_cons pe_int pa_nil))) pa_nil)))))
  (pss_cons (ps_set (i := 7) sc__law_many_cases.nd rfl (Or.inl rfl) (pe_op op_cat (pv 7) (pe_lst (pa_cons (pe_tup (pa_cons (pe_op op_cat (pe_op op_cat (pv 1) (pe_lst (pa_cons pe_str (pa_cons pe_str pa_nil)))) (pv 2)) (pa_cons pe_int pa_nil))) (pa_cons (pe_tup (pa_cons (pe_op op_cat (pe_op op_cat (pe_op op_cat (pv 1) (pv 3)) (pe_lst (pa_cons pe_str pa_nil))) (pv 2)) (pa_cons pe_int pa_nil))) pa_nil)))))
  (pss_one (ps_ret (pe_op op_cat (pv 7) (pe_lst (pa_cons (pe_tup (pa_cons (pe_op op_cat (pe_op op_cat (pe_op op_cat (pe_op op_cat (pv 1) (pv 3)) (pe_lst (pa_cons (pv 4) (pa_cons (pv 5) pa_nil)))) (pv 6)) (pe_lst (pa_cons pe_str (pa_cons pe_str pa_nil)))) (pa_cons pe_non pa_nil))) pa_nil)))))))))))))))), ?_⟩
    show tSeq (tPar _ _ (tCons _ (tCons _ tNil))) _ _ _ _
    refine s_par2 (en_lst (L := many_head name) (es_args (ev_cats (ev_lit rfl) (ev_var rfl) (by simp <;> omega)) (es_args (ev_lit rfl) es_nil)) (Nat.le_of_ble_eq_true rfl)) (en_lst (L := many_tail name) (es_args (ev_lit rfl) (es_args (ev_lit rfl) es_nil)) (Nat.le_of_ble_eq_true rfl)) fun p_head p_tail H1 e1 f_head f_tail => ?_
    dsimp only
    show tSeq (tAsg (tLst _) (gName _)) _ _ _ _
    refine s_lst (en_lst (L := many_joins name) (es_args (ev_lit rfl) (es_args (ev_lit rfl) (es_args (ev_lit rfl) es_nil))) (Nat.le_of_ble_eq_true rfl)) fun p_joins H2 n2 e2 f_joins => ?_
    have f_head := e2 _ _ f_head
    have f_tail := e2 _ _ f_tail
    refine ⟨szl (by decide), fun q3 m3 => ⟨q3, _, rfl, SqT.of upd_same, rfl, _, _, rfl, _, _, rfl, rfl, ?_⟩⟩
    have e3 := Ex.new (o := .tup [V.str (Str.ofString "  link x.a = y.b"), V.str (Str.ofString "  where y.b = 1000000000")]) m3
    have f_head := e3 _ _ f_head
    have f_tail := e3 _ _ f_tail
    have f_joins := e3 _ _ f_joins
    generalize upd H2 q3 _ = H3 at e3 f_head f_tail f_joins
    dsimp only
    show tSeq (tAsg (tLst _) (gName _)) _ _ _ _
    refine s_lst (en_lst (L := many_groups name) (es_args (ev_lit rfl) (es_args (ev_lit rfl) (es_args (ev_lit rfl) es_nil))) (Nat.le_of_ble_eq_true rfl)) fun p_groups H4 n4 e4 f_groups => ?_
    have f_head := e4 _ _ f_head
    have f_tail := e4 _ _ f_tail
    have f_joins := e4 _ _ f_joins
    dsimp only
    show tSeq (tAsg (tLst _) (gName _)) _ _ _ _
    refine c_lit (cs := manyC1 name) (eac_cons (ec_tup (en_cat (es_var rfl f_head) (es_var rfl f_tail) (Nat.le_of_ble_eq_true rfl)).s rfl) (eac_cons (ec_tup (en_cat (en_cat (es_var rfl f_head) (es_var rfl f_joins) (Nat.le_of_ble_eq_true rfl)).s (es_var rfl f_tail) (Nat.le_of_ble_eq_true rfl)).s rfl) (eac_cons (ec_tup (en_cat (en_cat (en_cat (es_var rfl f_head) (es_var rfl f_joins) (Nat.le_of_ble_eq_true rfl)).s (en_lst (es_args (ev_lit rfl) es_nil) (Nat.le_of_ble_eq_true rfl)).s (Nat.le_of_ble_eq_true rfl)).s (es_var rfl f_tail) (Nat.le_of_ble_eq_true rfl)).s rfl) eac_nil))) (Nat.le_of_ble_eq_true rfl) fun l1 G1 hl1 ex1 fd => ?_
    have hb1 : Ex H4 H4 := Ex.refl _
    have hb0 : Ex H H4 := e1.trans (e2.trans (e3.trans (e4)))
    dsimp only
    show tSeq (tDrop (tBM _ "list" rAppend (tVar _) (tCons _ tNil))) _ _ _ _
    refine c_app (cs := manyC1 name) (c := (((((many_head name) ++ (many_joins name)) ++ (List.replicate 20 many_link)) ++ (many_tail name)), none)) rfl hl1 ex1 fd (ec_tup (en_cat (en_cat (en_cat (es_var rfl f_head) (es_var rfl f_joins) (Nat.le_of_ble_eq_true rfl)).s (en_many (n := 20) (ev_var rfl) (by decide)).s (Nat.le_of_ble_eq_true rfl)).s (es_var rfl f_tail) (Nat.le_of_ble_eq_true rfl)).s rfl) (Nat.le_of_ble_eq_true rfl) fun G2 ex2 fd => ?_
    have hl2 := hl1
    have hb2 := hb1
    dsimp only
    show tSeq (tDrop (tBM _ "list" rAppend (tVar _) (tCons _ tNil))) _ _ _ _
    refine c_app (cs := manyC2 name) (c := (((((many_head name) ++ (many_joins name)) ++ (List.replicate 21 many_link)) ++ (many_tail name)), some 25)) rfl hl2 ex2 fd (ec_tup (en_cat (en_cat (en_cat (es_var rfl f_head) (es_var rfl f_joins) (Nat.le_of_ble_eq_true rfl)).s (en_many (n := 21) (ev_var rfl) (by decide)).s (Nat.le_of_ble_eq_true rfl)).s (es_var rfl f_tail) (Nat.le_of_ble_eq_true rfl)).s rfl) (Nat.le_of_ble_eq_true rfl) fun G3 ex3 fd => ?_
    have hl3 := hl2
    have hb3 := hb2
    dsimp only
    show tSeq (tDrop (tBM _ "list" rAppend (tVar _) (tCons _ tNil))) _ _ _ _
    refine c_app (cs := manyC3 name) (c := (((((many_head name) ++ (many_joins name)) ++ (List.replicate 5 many_keep)) ++ (many_tail name)), none)) rfl hl3 ex3 fd (ec_tup (en_cat (en_cat (en_cat (es_var rfl f_head) (es_var rfl f_joins) (Nat.le_of_ble_eq_true rfl)).s (en_many (n := 5) (ev_var rfl) (by decide)).s (Nat.le_of_ble_eq_true rfl)).s (es_var rfl f_tail) (Nat.le_of_ble_eq_true rfl)).s rfl) (Nat.le_of_ble_eq_true rfl) fun G4 ex4 fd => ?_
    have hl4 := hl3
    have hb4 := hb3
    dsimp only
    show tSeq (tDrop (tBM _ "list" rAppend (tVar _) (tCons _ tNil))) _ _ _ _
    refine c_app (cs := manyC4 name) (c := (((((many_head name) ++ (many_joins name)) ++ (List.replicate 6 many_keep)) ++ (many_tail name)), some 10)) rfl hl4 ex4 fd (ec_tup (en_cat (en_cat (en_cat (es_var rfl f_head) (es_var rfl f_joins) (Nat.le_of_ble_eq_true rfl)).s (en_many (n := 6) (ev_var rfl) (by decide)).s (Nat.le_of_ble_eq_true rfl)).s (es_var rfl f_tail) (Nat.le_of_ble_eq_true rfl)).s rfl) (Nat.le_of_ble_eq_true rfl) fun G5 ex5 fd => ?_
    have hl5 := hl4
    have hb5 := hb4
    dsimp only
    show tSeq (tAsg (tOp rCat (tVar _) (tLst _)) (gName _)) _ _ _ _
    refine c_cat (cs := manyC5 name) (ds := [(((((many_head name) ++ (many_joins name)) ++ (many_groups name)) ++ (many_tail name)), none), ((((((many_head name) ++ (many_joins name)) ++ (many_groups name)) ++ [([32, 32, 98, 121, 32, 120, 46, 99] : Cn.T)]) ++ (many_tail name)), some 8)]) rfl hl5 ex5 fd (eac_cons (ec_tup (en_cat (en_cat (en_cat (es_var rfl f_head) (es_var rfl f_joins) (Nat.le_of_ble_eq_true rfl)).s (es_var rfl f_groups) (Nat.le_of_ble_eq_true rfl)).s (es_var rfl f_tail) (Nat.le_of_ble_eq_true rfl)).s rfl) (eac_cons (ec_tup (en_cat (en_cat (en_cat (en_cat (es_var rfl f_head) (es_var rfl f_joins) (Nat.le_of_ble_eq_true rfl)).s (es_var rfl f_groups) (Nat.le_of_ble_eq_true rfl)).s (en_lst (es_args (ev_lit rfl) es_nil) (Nat.le_of_ble_eq_true rfl)).s (Nat.le_of_ble_eq_true rfl)).s (es_var rfl f_tail) (Nat.le_of_ble_eq_true rfl)).s rfl) eac_nil)) (Nat.le_of_ble_eq_true rfl) fun l6 G6 hl6 ex6 fd => ?_
    have hb6 := hb5
    dsimp only
    show tSeq (tAsg (tOp rCat (tVar _) (tLst _)) (gName _)) _ _ _ _
    refine c_cat (cs := manyC6 name) (ds := [((((many_head name) ++ [([32, 32, 98, 121, 32, 120, 46, 97] : Cn.T), ([32, 32, 98, 121, 32, 120, 46, 97] : Cn.T)]) ++ (many_tail name)), some 3), (((((many_head name) ++ (many_joins name)) ++ [([32, 32, 98, 121, 32, 121, 46, 98] : Cn.T)]) ++ (many_tail name)), some 5)]) rfl hl6 ex6 fd (eac_cons (ec_tup (en_cat (en_cat (es_var rfl f_head) (en_lst (es_args (ev_lit rfl) (es_args (ev_lit rfl) es_nil)) (Nat.le_of_ble_eq_true rfl)).s (Nat.le_of_ble_eq_true rfl)).s (es_var rfl f_tail) (Nat.le_of_ble_eq_true rfl)).s rfl) (eac_cons (ec_tup (en_cat (en_cat (en_cat (es_var rfl f_head) (es_var rfl f_joins) (Nat.le_of_ble_eq_true rfl)).s (en_lst (es_args (ev_lit rfl) es_nil) (Nat.le_of_ble_eq_true rfl)).s (Nat.le_of_ble_eq_true rfl)).s (es_var rfl f_tail) (Nat.le_of_ble_eq_true rfl)).s rfl) eac_nil)) (Nat.le_of_ble_eq_true rfl) fun l7 G7 hl7 ex7 fd => ?_
    have hb7 := hb6
    dsimp only
    show tRet (tOp rCat (tVar _) (tLst _)) _ _ _
    refine c_ret (cs := manyC7 name) (ds := [((((((many_head name) ++ (many_joins name)) ++ [many_link, many_keep]) ++ (many_groups name)) ++ [([32, 32, 115, 117, 109, 32, 100] : Cn.T), ([101, 110, 100] : Cn.T)]), none)]) rfl hl7 ex7 fd (eac_cons (ec_tup (en_cat (en_cat (en_cat (en_cat (es_var rfl f_head) (es_var rfl f_joins) (Nat.le_of_ble_eq_true rfl)).s (en_lst (es_args (ev_var rfl) (es_args (ev_var rfl) es_nil)) (Nat.le_of_ble_eq_true rfl)).s (Nat.le_of_ble_eq_true rfl)).s (es_var rfl f_groups) (Nat.le_of_ble_eq_true rfl)).s (en_lst (es_args (ev_lit rfl) (es_args (ev_lit rfl) es_nil)) (Nat.le_of_ble_eq_true rfl)).s (Nat.le_of_ble_eq_true rfl)).s rfl) eac_nil) (Nat.le_of_ble_eq_true rfl) fun l8 G8 hl8 ex8 fd => ?_
    exact k G8 l8 (but_ex (hb0.trans (hb7.trans ex8))) (fresh_back (hb0.trans hb7) hl8) fd
def order_head (name : Cn.T) : List Cn.T := [(([114, 101, 112, 111, 114, 116, 32] : Cn.T) ++ name), ([32, 32, 102, 114, 111, 109, 32, 111, 110, 101, 32, 120] : Cn.T)]
def order_tail (name : Cn.T) : List Cn.T := [([32, 32, 114, 111, 119, 115] : Cn.T), ([101, 110, 100] : Cn.T)]
def orderC1 (name : Cn.T) : List (List Cn.T × Option Nat) := [(((order_head name) ++ [([32, 32, 115, 117, 109, 32, 100] : Cn.T), ([32, 32, 114, 111, 119, 115] : Cn.T), ([101, 110, 100] : Cn.T)]), some 3), (((order_head name) ++ [([32, 32, 114, 111, 119, 115] : Cn.T), ([32, 32, 114, 111, 119, 115] : Cn.T), ([101, 110, 100] : Cn.T)]), some 3)]
def orderC2 (name : Cn.T) : List (List Cn.T × Option Nat) := orderC1 name ++ [(((order_head name) ++ [([101, 110, 100] : Cn.T)]), some 2), (((order_head name) ++ [([32, 32, 115, 117, 109, 32, 101] : Cn.T), ([101, 110, 100] : Cn.T)]), some 2), (((order_head name) ++ [([32, 32, 115, 117, 109] : Cn.T), ([101, 110, 100] : Cn.T)]), some 2)]
def orderC3 (name : Cn.T) : List (List Cn.T × Option Nat) := orderC2 name ++ [(((order_head name) ++ [([32, 32, 114, 111, 119, 115, 32, 100] : Cn.T), ([101, 110, 100] : Cn.T)]), some 2)]
def order_second (name : Cn.T) : List Cn.T := [(([114, 101, 112, 111, 114, 116, 32] : Cn.T) ++ name), ([32, 32, 102, 114, 111, 109, 32, 116, 119, 111, 32, 120] : Cn.T)]
def orderC4 (name : Cn.T) : List (List Cn.T × Option Nat) := orderC3 name ++ [(((order_second name) ++ [([32, 32, 115, 117, 109, 32, 98] : Cn.T), ([101, 110, 100] : Cn.T)]), some 2), (((order_second name) ++ [([32, 32, 115, 117, 109, 32, 99] : Cn.T), ([101, 110, 100] : Cn.T)]), some 2)]
def orderC5 (name : Cn.T) : List (List Cn.T × Option Nat) := orderC4 name ++ [(((order_second name) ++ [([32, 32, 115, 117, 109, 32, 97] : Cn.T), ([101, 110, 100] : Cn.T)]), none), ((((order_second name) ++ [([32, 32, 98, 121, 32, 120, 46, 99] : Cn.T)]) ++ (order_tail name)), some 2)]
def orderC6 (name : Cn.T) : List (List Cn.T × Option Nat) := orderC5 name ++ [((((order_second name) ++ [([32, 32, 108, 105, 110, 107, 32, 120, 46, 98, 32, 61, 32, 120, 46, 98] : Cn.T)]) ++ (order_tail name)), none), ((((order_second name) ++ [([32, 32, 119, 104, 101, 114, 101, 32, 120, 46, 99, 32, 61, 32, 48] : Cn.T)]) ++ (order_tail name)), none)]
def orderC7 (name : Cn.T) : List (List Cn.T × Option Nat) := orderC6 name ++ [(([(([114, 101, 112, 111, 114, 116, 32] : Cn.T) ++ name)] ++ (order_tail name)), some 1), ((((order_head name) ++ [([32, 32, 119, 104, 101, 114, 101, 32, 120, 46, 97, 32, 61, 32, 49] : Cn.T), ([32, 32, 108, 105, 110, 107, 32, 120, 46, 97, 32, 61, 32, 120, 46, 98] : Cn.T)]) ++ (order_tail name)), some 3)]
def orderC8 (name : Cn.T) : List (List Cn.T × Option Nat) := orderC7 name ++ [((((order_head name) ++ [([32, 32, 98, 121, 32, 120, 46, 97] : Cn.T), ([32, 32, 119, 104, 101, 114, 101, 32, 120, 46, 97, 32, 61, 32, 49] : Cn.T)]) ++ (order_tail name)), some 3)]
def orderC9 (name : Cn.T) : List (List Cn.T × Option Nat) := orderC8 name ++ [((((order_head name) ++ [([32, 32, 108, 105, 110, 107, 32, 120, 46, 97, 32, 61, 32, 120, 46, 98] : Cn.T), ([32, 32, 106, 111, 105, 110, 32, 116, 119, 111, 32, 121] : Cn.T)]) ++ (order_tail name)), some 3)]
def orderC10 (name : Cn.T) : List (List Cn.T × Option Nat) := orderC9 name ++ [((((order_head name) ++ (order_tail name)) ++ [([101, 110, 100] : Cn.T)]), some 4), ((((order_head name) ++ (order_tail name)) ++ [([] : Cn.T)]), some 4), (((order_head name) ++ ((order_tail name).take 1)), some 3)]
def orderC11 (name : Cn.T) : List (List Cn.T × Option Nat) := orderC10 name ++ [((order_head name), some 2), (((order_head name).take 1), some 1)]
theorem ok_order_cases (F : Fun K "_law_order_cases" "_law_order_cases" s__law_order_cases f fd) (T : LT12 K mg CR CT CS CP CI) : FnOk P w K mg base (L2.CX P w) 2 f fd ["name"] (sp_cases orderC11) := by
  refine F.okX sc__law_order_cases (fun vs H Q E h => ?_) (fun cdv A outer s H vs Q E hr h => ?_)
  · obtain ⟨_, rfl, _⟩ := h
    rfl
  · obtain ⟨name, rfl, hn, k⟩ := h
    refine ⟨_, (pss_cons (ps_par (i := 1) (j := 2) (by rfl) sc__law_order_cases.nd rfl rfl (by decide) rfl rfl (pa_cons (pe_lst (pa_cons (pe_op op_add_str pe_str (pv 0)) (pa_cons pe_str pa_nil))) (pa_cons (pe_lst (pa_cons pe_str (pa_cons pe_str pa_nil))) pa_nil)) (by rfl))
  (pss_cons (ps_set (i := 3) sc__law_order_cases.nd rfl (Or.inl rfl) (pe_lst (pa_cons (pe_tup (pa_cons (pe_op op_cat (pv 1) (pe_lst (pa_cons pe_str (pa_cons pe_str (pa_cons pe_str pa_nil))))) (pa_cons pe_int pa_nil))) (pa_cons (pe_tup (pa_cons (pe_op op_cat (pv 1) (pe_lst (pa_cons pe_str (pa_cons pe_str (pa_cons pe_str pa_nil))))) (pa_cons pe_int pa_nil))) pa_nil))))
  (pss_cons (ps_set (i := 3) sc__law_order_cases.nd rfl (Or.inl rfl) (pe_op op_cat (pv 3) (pe_lst (pa_cons (pe_tup (pa_cons (pe_op op_cat (pv 1) (pe_lst (pa_cons pe_str pa_nil))) (pa_cons pe_int pa_nil))) (pa_cons (pe_tup (pa_cons (pe_op op_cat (pv 1) (pe_lst (pa_cons pe_str (pa_cons pe_str pa_nil)))) (pa_cons pe_int pa_nil))) (pa_cons (pe_tup (pa_cons (pe_op op_cat (pv 1) (pe_lst (pa_cons pe_str (pa_cons pe_str pa_nil)))) (pa_cons pe_int pa_nil))) pa_nil))))))
  (pss_cons (ps_expr (pe_bm PySem.F.plainAttrs_list PySem.F.slot_list_append PySem.F.type_list_append mt_append (pv 3) (pa_cons (pe_tup (pa_cons (pe_op op_cat (pv 1) (pe_lst (pa_cons pe_str (pa_cons pe_str pa_nil)))) (pa_cons pe_int pa_nil))) pa_nil)))
  (pss_cons (ps_set (i := 4) sc__law_order_cases.nd rfl (Or.inl rfl) (pe_lst (pa_cons (pe_op op_add_str pe_str (pv 0)) (pa_cons pe_str pa_nil))))
  (pss_cons (ps_set (i := 3) sc__law_order_cases.nd rfl (Or.inl rfl) (pe_op op_cat (pv 3) (pe_lst (pa_cons (pe_tup (pa_cons (pe_op op_cat (pv 4) (pe_lst (pa_cons pe_str (pa_cons pe_str pa_nil)))) (pa_cons pe_int pa_nil))) (pa_cons (pe_tup (pa_cons (pe_op op_cat (pv 4) (pe_lst (pa_cons pe_str (pa_cons pe_str pa_nil)))) (pa_cons pe_int pa_nil))) pa_nil)))))
  (pss_cons (ps_set (i := 3) sc__law_order_cases.nd rfl (Or.inl rfl) (pe_op op_cat (pv 3) (pe_lst (pa_cons (pe_tup (pa_cons (pe_op op_cat (pv 4) (pe_lst (pa_cons pe_str (pa_cons pe_str pa_nil)))) (pa_cons pe_non pa_nil))) (pa_cons (pe_tup (pa_cons (pe_op op_cat (pe_op op_cat (pv 4) (pe_lst (pa_cons pe_str pa_nil))) (pv 2)) (pa_cons pe_int pa_nil))) pa_nil)))))
  (pss_cons (ps_set (i := 3) sc__law_order_cases.nd rfl (Or.inl rfl) (pe_op op_cat (pv 3) (pe_lst (pa_cons (pe_tup (pa_cons (pe_op op_cat (pe_op op_cat (pv 4) (pe_lst (pa_cons pe_str pa_nil))) (pv 2)) (pa_cons pe_non pa_nil))) (pa_cons (pe_tup (pa_cons (pe_op op_cat (pe_op op_cat (pv 4) (pe_lst (pa_cons pe_str pa_nil))) (pv 2)) (pa_cons pe_non pa_nil))) pa_nil)))))
  (pss_cons (ps_set (i := 3) sc__law_order_cases.nd rfl (Or.inl rfl) (pe_op op_cat (pv 3) (pe_lst (pa_cons (pe_tup (pa_cons (pe_op op_cat (pe_lst (pa_cons (pe_op op_add_str pe_str (pv 0)) pa_nil)) (pv 2)) (pa_cons pe_int pa_nil))) (pa_cons (pe_tup (pa_cons (pe_op op_cat (pe_op op_cat (pv 1) (pe_lst (pa_cons pe_str (pa_cons pe_str pa_nil)))) (pv 2)) (pa_cons pe_int pa_nil))) pa_nil)))))
  (pss_cons (ps_expr (pe_bm PySem.F.plainAttrs_list PySem.F.slot_list_append PySem.F.type_list_append mt_append (pv 3) (pa_cons (pe_tup (pa_cons (pe_op op_cat (pe_op op_cat (pv 1) (pe_lst (pa_cons pe_str (pa_cons pe_str pa_nil)))) (pv 2)) (pa_cons pe_int pa_nil))) pa_nil)))
  (pss_cons (ps_expr (pe_bm PySem.F.plainAttrs_list PySem.F.slot_list_append PySem.F.type_list_append mt_append (pv 3) (pa_cons (pe_tup (pa_cons (pe_op op_cat (pe_op op_cat (pv 1) (pe_lst (pa_cons pe_str (pa_cons pe_str pa_nil)))) (pv 2)) (pa_cons pe_int pa_nil))) pa_nil)))
  (pss_cons (ps_set (i := 3) sc__law_order_cases.nd rfl (Or.inl rfl) (pe_op op_cat (pv 3) (pe_lst (pa_cons (pe_tup (pa_cons (pe_op op_cat (pe_op op_cat (pv 1) (pv 2)) (pe_lst (pa_cons pe_str pa_nil))) (pa_cons pe_int pa_nil))) (pa_cons (pe_tup (pa_cons (pe_op op_cat (pe_op op_cat (pv 1) (pv 2)) (pe_lst (pa_cons pe_str pa_nil))) (pa_cons pe_int pa_nil))) (pa_cons (pe_tup (pa_cons (pe_op op_cat (pv 1) (pe_slice (sl_listK K rfl) (pv 2) po_none (po_some pe_int))) (pa_cons pe_int pa_nil))) pa_nil))))))
  (pss_one (ps_ret (pe_op op_cat (pv 3) (pe_lst (pa_cons (pe_tup (pa_cons (pv 1) (pa_cons pe_int pa_nil))) (pa_cons (pe_tup (pa_cons (pe_slice (sl_listK K rfl) (pv 1) po_none (po_some pe_int)) (pa_cons pe_int pa_nil))) pa_nil)))))))))))))))))), ?_⟩
    show tSeq (tPar _ _ (tCons _ (tCons _ tNil))) _ _ _ _
    refine s_par2 (en_lst (L := order_head name) (es_args (ev_cats (ev_lit rfl) (ev_var rfl) (by simp <;> omega)) (es_args (ev_lit rfl) es_nil)) (Nat.le_of_ble_eq_true rfl)) (en_lst (L := order_tail name) (es_args (ev_lit rfl) (es_args (ev_lit rfl) es_nil)) (Nat.le_of_ble_eq_true rfl)) fun p_head p_tail H1 e1 f_head f_tail => ?_
    dsimp only
    show tSeq (tAsg (tLst _) (gName _)) _ _ _ _
    refine c_lit (cs := orderC1 name) (eac_cons (ec_tup (en_cat (es_var rfl f_head) (en_lst (es_args (ev_lit rfl) (es_args (ev_lit rfl) (es_args (ev_lit rfl) es_nil))) (Nat.le_of_ble_eq_true rfl)).s (Nat.le_of_ble_eq_true rfl)).s rfl) (eac_cons (ec_tup (en_cat (es_var rfl f_head) (en_lst (es_args (ev_lit rfl) (es_args (ev_lit rfl) (es_args (ev_lit rfl) es_nil))) (Nat.le_of_ble_eq_true rfl)).s (Nat.le_of_ble_eq_true rfl)).s rfl) eac_nil)) (Nat.le_of_ble_eq_true rfl) fun l1 G1 hl1 ex1 fd => ?_
    have hb1 : Ex H1 H1 := Ex.refl _
    have hb0 : Ex H H1 := e1
    dsimp only
    show tSeq (tAsg (tOp rCat (tVar _) (tLst _)) (gName _)) _ _ _ _
    refine c_cat (cs := orderC1 name) (ds := [(((order_head name) ++ [([101, 110, 100] : Cn.T)]), some 2), (((order_head name) ++ [([32, 32, 115, 117, 109, 32, 101] : Cn.T), ([101, 110, 100] : Cn.T)]), some 2), (((order_head name) ++ [([32, 32, 115, 117, 109] : Cn.T), ([101, 110, 100] : Cn.T)]), some 2)]) rfl hl1 ex1 fd (eac_cons (ec_tup (en_cat (es_var rfl f_head) (en_lst (es_args (ev_lit rfl) es_nil) (Nat.le_of_ble_eq_true rfl)).s (Nat.le_of_ble_eq_true rfl)).s rfl) (eac_cons (ec_tup (en_cat (es_var rfl f_head) (en_lst (es_args (ev_lit rfl) (es_args (ev_lit rfl) es_nil)) (Nat.le_of_ble_eq_true rfl)).s (Nat.le_of_ble_eq_true rfl)).s rfl) (eac_cons (ec_tup (en_cat (es_var rfl f_head) (en_lst (es_args (ev_lit rfl) (es_args (ev_lit rfl) es_nil)) (Nat.le_of_ble_eq_true rfl)).s (Nat.le_of_ble_eq_true rfl)).s rfl) eac_nil))) (Nat.le_of_ble_eq_true rfl) fun l2 G2 hl2 ex2 fd => ?_
    have hb2 := hb1
    dsimp only
    show tSeq (tDrop (tBM _ "list" rAppend (tVar _) (tCons _ tNil))) _ _ _ _
    refine c_app (cs := orderC2 name) (c := (((order_head name) ++ [([32, 32, 114, 111, 119, 115, 32, 100] : Cn.T), ([101, 110, 100] : Cn.T)]), some 2)) rfl hl2 ex2 fd (ec_tup (en_cat (es_var rfl f_head) (en_lst (es_args (ev_lit rfl) (es_args (ev_lit rfl) es_nil)) (Nat.le_of_ble_eq_true rfl)).s (Nat.le_of_ble_eq_true rfl)).s rfl) (Nat.le_of_ble_eq_true rfl) fun G3 ex3 fd => ?_
    have hl3 := hl2
    have hb3 := hb2
    dsimp only
    show tSeq (tAsg (tLst _) (gName _)) _ _ _ _
    refine s_lst (en_lst (L := order_second name) (es_args (ev_cats (ev_lit rfl) (ev_var rfl) (by simp <;> omega)) (es_args (ev_lit rfl) es_nil)) (Nat.le_of_ble_eq_true rfl)) fun p_second H2 n2 e2 f_second => ?_
    obtain ⟨xb, xh, xl, xsecond, fd⟩ := rebase (l := l2) hl3 ex3 fd e2 n2 f_second
    have f_head := xb _ _ f_head
    have f_tail := xb _ _ f_tail
    have f_second := xsecond
    have hb3 := hb3.trans xb
    generalize hide l2 H2 = Hb2 at xb xh xl xsecond f_head f_tail f_second hb3
    have hl3 := xl
    have ex3 := xh
    dsimp only
    show tSeq (tAsg (tOp rCat (tVar _) (tLst _)) (gName _)) _ _ _ _
    refine c_cat (cs := orderC3 name) (ds := [(((order_second name) ++ [([32, 32, 115, 117, 109, 32, 98] : Cn.T), ([101, 110, 100] : Cn.T)]), some 2), (((order_second name) ++ [([32, 32, 115, 117, 109, 32, 99] : Cn.T), ([101, 110, 100] : Cn.T)]), some 2)]) rfl hl3 ex3 fd (eac_cons (ec_tup (en_cat (es_var rfl f_second) (en_lst (es_args (ev_lit rfl) (es_args (ev_lit rfl) es_nil)) (Nat.le_of_ble_eq_true rfl)).s (Nat.le_of_ble_eq_true rfl)).s rfl) (eac_cons (ec_tup (en_cat (es_var rfl f_second) (en_lst (es_args (ev_lit rfl) (es_args (ev_lit rfl) es_nil)) (Nat.le_of_ble_eq_true rfl)).s (Nat.le_of_ble_eq_true rfl)).s rfl) eac_nil)) (Nat.le_of_ble_eq_true rfl) fun l4 G4 hl4 ex4 fd => ?_
    have hb4 := hb3
    dsimp only
    show tSeq (tAsg (tOp rCat (tVar _) (tLst _)) (gName _)) _ _ _ _
    refine c_cat (cs := orderC4 name) (ds := [(((order_second name) ++ [([32, 32, 115, 117, 109, 32, 97] : Cn.T), ([101, 110, 100] : Cn.T)]), none), ((((order_second name) ++ [([32, 32, 98, 121, 32, 120, 46, 99] : Cn.T)]) ++ (order_tail name)), some 2)]) rfl hl4 ex4 fd (eac_cons (ec_tup (en_cat (es_var rfl f_second) (en_lst (es_args (ev_lit rfl) (es_args (ev_lit rfl) es_nil)) (Nat.le_of_ble_eq_true rfl)).s (Nat.le_of_ble_eq_true rfl)).s rfl) (eac_cons (ec_tup (en_cat (en_cat (es_var rfl f_second) (en_lst (es_args (ev_lit rfl) es_nil) (Nat.le_of_ble_eq_true rfl)).s (Nat.le_of_ble_eq_true rfl)).s (es_var rfl f_tail) (Nat.le_of_ble_eq_true rfl)).s rfl) eac_nil)) (Nat.le_of_ble_eq_true rfl) fun l5 G5 hl5 ex5 fd => ?_
    have hb5 := hb4
    dsimp only
    show tSeq (tAsg (tOp rCat (tVar _) (tLst _)) (gName _)) _ _ _ _
    refine c_cat (cs := orderC5 name) (ds := [((((order_second name) ++ [([32, 32, 108, 105, 110, 107, 32, 120, 46, 98, 32, 61, 32, 120, 46, 98] : Cn.T)]) ++ (order_tail name)), none), ((((order_second name) ++ [([32, 32, 119, 104, 101, 114, 101, 32, 120, 46, 99, 32, 61, 32, 48] : Cn.T)]) ++ (order_tail name)), none)]) rfl hl5 ex5 fd (eac_cons (ec_tup (en_cat (en_cat (es_var rfl f_second) (en_lst (es_args (ev_lit rfl) es_nil) (Nat.le_of_ble_eq_true rfl)).s (Nat.le_of_ble_eq_true rfl)).s (es_var rfl f_tail) (Nat.le_of_ble_eq_true rfl)).s rfl) (eac_cons (ec_tup (en_cat (en_cat (es_var rfl f_second) (en_lst (es_args (ev_lit rfl) es_nil) (Nat.le_of_ble_eq_true rfl)).s (Nat.le_of_ble_eq_true rfl)).s (es_var rfl f_tail) (Nat.le_of_ble_eq_true rfl)).s rfl) eac_nil)) (Nat.le_of_ble_eq_true rfl) fun l6 G6 hl6 ex6 fd => ?_
    have hb6 := hb5
    dsimp only
    show tSeq (tAsg (tOp rCat (tVar _) (tLst _)) (gName _)) _ _ _ _
    refine c_cat (cs := orderC6 name) (ds := [(([(([114, 101, 112, 111, 114, 116, 32] : Cn.T) ++ name)] ++ (order_tail name)), some 1), ((((order_head name) ++ [([32, 32, 119, 104, 101, 114, 101, 32, 120, 46, 97, 32, 61, 32, 49] : Cn.T), ([32, 32, 108, 105, 110, 107, 32, 120, 46, 97, 32, 61, 32, 120, 46, 98] : Cn.T)]) ++ (order_tail name)), some 3)]) rfl hl6 ex6 fd (eac_cons (ec_tup (en_cat (en_lst (es_args (ev_cats (ev_lit rfl) (ev_var rfl) (by simp <;> omega)) es_nil) (Nat.le_of_ble_eq_true rfl)).s (es_var rfl f_tail) (Nat.le_of_ble_eq_true rfl)).s rfl) (eac_cons (ec_tup (en_cat (en_cat (es_var rfl f_head) (en_lst (es_args (ev_lit rfl) (es_args (ev_lit rfl) es_nil)) (Nat.le_of_ble_eq_true rfl)).s (Nat.le_of_ble_eq_true rfl)).s (es_var rfl f_tail) (Nat.le_of_ble_eq_true rfl)).s rfl) eac_nil)) (Nat.le_of_ble_eq_true rfl) fun l7 G7 hl7 ex7 fd => ?_
    have hb7 := hb6
    dsimp only
    show tSeq (tDrop (tBM _ "list" rAppend (tVar _) (tCons _ tNil))) _ _ _ _
    refine c_app (cs := orderC7 name) (c := ((((order_head name) ++ [([32, 32, 98, 121, 32, 120, 46, 97] : Cn.T), ([32, 32, 119, 104, 101, 114, 101, 32, 120, 46, 97, 32, 61, 32, 49] : Cn.T)]) ++ (order_tail name)), some 3)) rfl hl7 ex7 fd (ec_tup (en_cat (en_cat (es_var rfl f_head) (en_lst (es_args (ev_lit rfl) (es_args (ev_lit rfl) es_nil)) (Nat.le_of_ble_eq_true rfl)).s (Nat.le_of_ble_eq_true rfl)).s (es_var rfl f_tail) (Nat.le_of_ble_eq_true rfl)).s rfl) (Nat.le_of_ble_eq_true rfl) fun G8 ex8 fd => ?_
    have hl8 := hl7
    have hb8 := hb7
    dsimp only
    show tSeq (tDrop (tBM _ "list" rAppend (tVar _) (tCons _ tNil))) _ _ _ _
    refine c_app (cs := orderC8 name) (c := ((((order_head name) ++ [([32, 32, 108, 105, 110, 107, 32, 120, 46, 97, 32, 61, 32, 120, 46, 98] : Cn.T), ([32, 32, 106, 111, 105, 110, 32, 116, 119, 111, 32, 121] : Cn.T)]) ++ (order_tail name)), some 3)) rfl hl8 ex8 fd (ec_tup (en_cat (en_cat (es_var rfl f_head) (en_lst (es_args (ev_lit rfl) (es_args (ev_lit rfl) es_nil)) (Nat.le_of_ble_eq_true rfl)).s (Nat.le_of_ble_eq_true rfl)).s (es_var rfl f_tail) (Nat.le_of_ble_eq_true rfl)).s rfl) (Nat.le_of_ble_eq_true rfl) fun G9 ex9 fd => ?_
    have hl9 := hl8
    have hb9 := hb8
    dsimp only
    show tSeq (tAsg (tOp rCat (tVar _) (tLst _)) (gName _)) _ _ _ _
    refine c_cat (cs := orderC9 name) (ds := [((((order_head name) ++ (order_tail name)) ++ [([101, 110, 100] : Cn.T)]), some 4), ((((order_head name) ++ (order_tail name)) ++ [([] : Cn.T)]), some 4), (((order_head name) ++ ((order_tail name).take 1)), some 3)]) rfl hl9 ex9 fd (eac_cons (ec_tup (en_cat (en_cat (es_var rfl f_head) (es_var rfl f_tail) (Nat.le_of_ble_eq_true rfl)).s (en_lst (es_args (ev_lit rfl) es_nil) (Nat.le_of_ble_eq_true rfl)).s (Nat.le_of_ble_eq_true rfl)).s rfl) (eac_cons (ec_tup (en_cat (en_cat (es_var rfl f_head) (es_var rfl f_tail) (Nat.le_of_ble_eq_true rfl)).s (en_lst (es_args (ev_lit rfl) es_nil) (Nat.le_of_ble_eq_true rfl)).s (Nat.le_of_ble_eq_true rfl)).s rfl) (eac_cons (ec_tup (en_cat (es_var rfl f_head) (en_cut1 (es_var rfl f_tail)).s (Nat.le_of_ble_eq_true rfl)).s rfl) eac_nil))) (Nat.le_of_ble_eq_true rfl) fun l10 G10 hl10 ex10 fd => ?_
    have hb10 := hb9
    dsimp only
    show tRet (tOp rCat (tVar _) (tLst _)) _ _ _
    refine c_ret (cs := orderC10 name) (ds := [((order_head name), some 2), (((order_head name).take 1), some 1)]) rfl hl10 ex10 fd (eac_cons (ec_tup (es_var rfl f_head) rfl) (eac_cons (ec_tup (en_cut1 (es_var rfl f_head)).s rfl) eac_nil)) (Nat.le_of_ble_eq_true rfl) fun l11 G11 hl11 ex11 fd => ?_
    exact k G11 l11 (but_ex (hb0.trans (hb10.trans ex11))) (fresh_back (hb0.trans hb10) hl11) fd
end
end Cn
set_option Elab.async false
set_option linter.all false
set_option maxRecDepth 100000
set_option maxHeartbeats 4000000
/-! wrong rows, all pairs, wrong heads -/
namespace Cn
open PySem L2 Evl
def wordsA : List Cn.T := [([48, 48] : Cn.T), ([48, 49] : Cn.T), repT 12 [48], ([49, 48, 48, 48, 48, 48, 48, 48, 48, 49] : Cn.T), repT 5000 [57], repT 5000 [48], repT 5000 [48] ++ ([55] : Cn.T)]
def wordsB : List Cn.T := [([45, 49] : Cn.T), ([43, 49] : Cn.T), ([49, 95, 48] : Cn.T), ([] : Cn.T), ([120] : Cn.T), ([49, 46, 48] : Cn.T), ([48, 120, 49] : Cn.T)]
def kXA : Cn.T := ([32, 32, 119, 104, 101, 114, 101, 32, 120, 46, 97, 32, 61, 32] : Cn.T)
def wr0 : List Cn.T := wordsA.map (kXA ++ ·)
def wr1 : List Cn.T := wr0 ++ wordsB.map (kXA ++ ·)
def wr2 : List Cn.T := wr1 ++ [([32, 32, 108, 105, 110, 107, 32, 120, 46, 97, 32, 61, 32, 121, 46, 97] : Cn.T), ([32, 32, 108, 105, 110, 107, 32, 120, 46, 97, 32, 32, 61, 32, 120, 46, 97] : Cn.T), ([32, 32, 108, 105, 110, 107, 32, 120, 46, 97, 32, 61, 32, 120, 46, 97, 32] : Cn.T), ([32, 32, 108, 105, 110, 107, 32, 120, 46, 97, 32, 61, 32, 53] : Cn.T)]
def wr3 : List Cn.T := wr2 ++ [([32, 32, 119, 104, 101, 114, 101, 32, 120, 46, 97, 32, 61, 32, 120, 46, 97] : Cn.T), ([32, 32, 98, 121, 32, 120] : Cn.T), ([32, 32, 98, 121, 32, 120, 46, 101] : Cn.T), ([32, 32, 98, 121, 32, 46, 97] : Cn.T), ([32, 32, 98, 121, 32, 120, 46, 97, 46, 98] : Cn.T), ([32, 32, 98, 121] : Cn.T), ([32, 32, 106, 111, 105, 110, 32, 111, 110, 101, 32, 120] : Cn.T)]
def wr4 : List Cn.T := wr3 ++ [([32, 32, 106, 111, 105, 110, 32, 111, 110, 101] : Cn.T), ([32, 32, 106, 111, 105, 110, 32, 110, 111, 110, 101, 32, 121] : Cn.T), ([32, 32, 102, 114, 111, 109, 32, 111, 110, 101, 32, 121] : Cn.T), ([32, 32, 106, 111, 105, 110, 32, 111, 110, 101, 32, 110, 105, 110, 101, 97, 98, 99, 100, 101] : Cn.T), ([32, 32, 106, 111, 105, 110, 32, 111, 110, 101, 32, 89] : Cn.T)]
def wr5 : List Cn.T := wr4 ++ [([32, 32, 115, 117, 109, 32, 120, 46, 100] : Cn.T)]
def wrongRows : List Cn.T := wr5 ++ [([32, 32, 106, 111, 105, 110, 32, 111, 110, 101, 32, 121, 32, 122] : Cn.T), ([32, 106, 111, 105, 110, 32, 111, 110, 101, 32, 121] : Cn.T), ([32, 32, 32, 106, 111, 105, 110, 32, 111, 110, 101, 32, 121] : Cn.T), ([106, 111, 105, 110, 32, 111, 110, 101, 32, 121] : Cn.T), ([32, 32] : Cn.T), ([32, 32, 108, 105, 110, 107, 32, 120, 46, 97, 32, 61, 61, 32, 120, 46, 98] : Cn.T)]
theorem hide_ex (l : Addr) (H : Hp) : Ex (hide l H) H := fun a o h => by
  unfold hide at h
  split at h
  · cases h
  · exact h
theorem hide_of {l : Addr} {H H' : Hp} (n : H l = none) (e : Ex H H') : Ex H (hide l H') := fun a o h => by
  unfold hide
  rw [if_neg fun z => by rw [z, n] at h; cases h]
  exact e a o h
section
variable {P : Program} {w : World} {K : PySem.W.Frag} {mg : Str → Option Value} {base : Heap} {CR CT CS CP CI : Addr} {f : Addr} {fd : FuncData}
theorem sc__law_wrong_rows : FnScope ["found", "word"] [] (defScope s__law_wrong_rows) := ⟨rfl, rfl, rfl, by decide +kernel, rfl, by decide +kernel, by decide +kernel⟩
theorem sc__law_cases : FnScope ["name", "found", "row"] ["name"] (defScope s__law_cases) := ⟨rfl, rfl, rfl, by decide +kernel, rfl, by decide +kernel, by decide +kernel⟩
theorem sc__law_heads : FnScope ["name", "found"] ["name"] (defScope s__law_heads) := ⟨rfl, rfl, rfl, by decide +kernel, rfl, by decide +kernel, by decide +kernel⟩
def sp_wrongRows : Sp := fun vs H Q _ => vs = [] ∧ ∀ H' l, But [] H H' → H l = none → H' l = some (.lst (svs wrongRows)) → Q (.ref l) H'
theorem ok_wrongRows (F : Fun K "_law_wrong_rows" "_law_wrong_rows" s__law_wrong_rows f fd) (T : LT12 K mg CR CT CS CP CI) : FnOk P w K mg base (L2.CX P w) 1 f fd [] sp_wrongRows := by
  refine F.okX sc__law_wrong_rows (fun vs H Q E h => ?_) (fun cdv A outer s H vs Q E hr h => ?_)
  · obtain ⟨rfl, _⟩ := h
    rfl
  · obtain ⟨rfl, k⟩ := h
    refine ⟨_, (pss_cons (ps_set (i := 0) sc__law_wrong_rows.nd rfl (Or.inl rfl) (pe_lst pa_nil))
  (pss_cons (ps_for (passes_of rfl) (by rfl) (pi_tupK K rfl (pe_tup (pa_cons pe_str (pa_cons pe_str (pa_cons (pe_op op_repS pe_str pe_int) (pa_cons pe_str (pa_cons (pe_op op_repS pe_str pe_int) (pa_cons (pe_op op_repS pe_str pe_int) (pa_cons (pe_op op_add_str (pe_op op_repS pe_str pe_int) pe_str) pa_nil))))))))) (pg_name (i := 1) sc__law_wrong_rows.nd rfl (Or.inl rfl))
  (pss_one (ps_expr (pe_bm PySem.F.plainAttrs_list PySem.F.slot_list_append PySem.F.type_list_append mt_append (pv 0) (pa_cons (pe_op op_add_str pe_str (pv 1)) pa_nil)))))
  (pss_cons (ps_for (passes_of rfl) (by rfl) (pi_tupK K rfl (pe_tup (pa_cons pe_str (pa_cons pe_str (pa_cons pe_str (pa_cons pe_str (pa_cons pe_str (pa_cons pe_str (pa_cons pe_str pa_nil))))))))) (pg_name (i := 1) sc__law_wrong_rows.nd rfl (Or.inl rfl))
  (pss_one (ps_expr (pe_bm PySem.F.plainAttrs_list PySem.F.slot_list_append PySem.F.type_list_append mt_append (pv 0) (pa_cons (pe_op op_add_str pe_str (pv 1)) pa_nil)))))
  (pss_cons (ps_set (i := 0) sc__law_wrong_rows.nd rfl (Or.inl rfl) (pe_op op_cat (pv 0) (pe_lst (pa_cons pe_str (pa_cons pe_str (pa_cons pe_str (pa_cons pe_str pa_nil)))))))
  (pss_cons (ps_set (i := 0) sc__law_wrong_rows.nd rfl (Or.inl rfl) (pe_op op_cat (pv 0) (pe_lst (pa_cons pe_str (pa_cons pe_str (pa_cons pe_str (pa_cons pe_str (pa_cons pe_str (pa_cons pe_str (pa_cons pe_str pa_nil))))))))))
  (pss_cons (ps_set (i := 0) sc__law_wrong_rows.nd rfl (Or.inl rfl) (pe_op op_cat (pv 0) (pe_lst (pa_cons pe_str (pa_cons pe_str (pa_cons pe_str (pa_cons pe_str (pa_cons pe_str pa_nil))))))))
  (pss_cons (ps_expr (pe_bm PySem.F.plainAttrs_list PySem.F.slot_list_append PySem.F.type_list_append mt_append (pv 0) (pa_cons pe_str pa_nil)))
  (pss_one (ps_ret (pe_op op_cat (pv 0) (pe_lst (pa_cons pe_str (pa_cons pe_str (pa_cons pe_str (pa_cons pe_str (pa_cons pe_str (pa_cons pe_str pa_nil))))))))))))))))), ?_⟩
    show tSeq (tAsg (tLst _) (gName _)) _ _ _ _
    refine s_lst (en_lst (L := []) es_nil (by decide)) fun l H1 n1 e1 f1 => ?_
    dsimp only
    show tSeq (tFor (iTup _ (tTup _)) (gName _) (tDrop (tBM _ "list" rAppend (tVar _) (tCons _ tNil)))) _ _ _ _
    have w1 : ∀ w ∈ wordsA, w.length ≤ 90000 := fun w hw => by
      simp only [wordsA, List.mem_cons, List.not_mem_nil, or_false] at hw
      rcases hw with rfl | rfl | rfl | rfl | rfl | rfl | rfl
      · decide
      · decide
      · rw [repT_len]; decide
      · decide
      · rw [repT_len]; decide
      · rw [repT_len]; decide
      · rw [List.length_append, repT_len]; decide
    refine s_words (pre := kXA) (words := wordsA) (L := []) rfl (es_args (ev_lit rfl) (es_args (ev_lit rfl) (es_args (ev_rep (a := [48]) rfl (by decide) (by decide) (by decide) (by decide)) (es_args (ev_lit rfl) (es_args (ev_rep (a := [57]) rfl (by decide) (by decide) (by decide) (by decide)) (es_args (ev_rep (a := [48]) rfl (by decide) (by decide) (by decide) (by decide)) (es_args (ev_cats (ev_rep (a := [48]) rfl (by decide) (by decide) (by decide) (by decide)) (ev_lit rfl) (by rw [repT_len]; decide)) es_nil))))))) f1 (by decide) (by decide) (by decide) w1 fun v' H2 x2 f2 => ?_
    have eH2 := x2 n1 e1
    dsimp only
    show tSeq (tFor (iTup _ (tTup _)) (gName _) (tDrop (tBM _ "list" rAppend (tVar _) (tCons _ tNil)))) _ _ _ _
    refine s_words (pre := kXA) (words := wordsB) (L := wr0) rfl (es_args (ev_lit rfl) (es_args (ev_lit rfl) (es_args (ev_lit rfl) (es_args (ev_lit rfl) (es_args (ev_lit rfl) (es_args (ev_lit rfl) (es_args (ev_lit rfl) es_nil))))))) f2 (by decide) (Nat.le_of_ble_eq_true rfl) (by decide) (by decide) fun v'' H3 x3 f3 => ?_
    have eH := x3 n1 eH2
    dsimp only
    show tSeq (tAsg (tOp rCat (tVar _) (tLst _)) (gName _)) _ _ _ _
    refine s_lst (en_cat (A := wr1) (B := [([32, 32, 108, 105, 110, 107, 32, 120, 46, 97, 32, 61, 32, 121, 46, 97] : Cn.T), ([32, 32, 108, 105, 110, 107, 32, 120, 46, 97, 32, 32, 61, 32, 120, 46, 97] : Cn.T), ([32, 32, 108, 105, 110, 107, 32, 120, 46, 97, 32, 61, 32, 120, 46, 97, 32] : Cn.T), ([32, 32, 108, 105, 110, 107, 32, 120, 46, 97, 32, 61, 32, 53] : Cn.T)]) (es_var rfl f3) (en_lst (es_args (ev_lit rfl) (es_args (ev_lit rfl) (es_args (ev_lit rfl) (es_args (ev_lit rfl) es_nil)))) (Nat.le_of_ble_eq_true rfl)).s (Nat.le_of_ble_eq_true rfl)) fun l4 H4 n4 e4 f4 => ?_
    have n4 := fresh_back eH n4
    have eH := eH.trans e4
    dsimp only
    show tSeq (tAsg (tOp rCat (tVar _) (tLst _)) (gName _)) _ _ _ _
    refine s_lst (en_cat (A := wr2) (B := [([32, 32, 119, 104, 101, 114, 101, 32, 120, 46, 97, 32, 61, 32, 120, 46, 97] : Cn.T), ([32, 32, 98, 121, 32, 120] : Cn.T), ([32, 32, 98, 121, 32, 120, 46, 101] : Cn.T), ([32, 32, 98, 121, 32, 46, 97] : Cn.T), ([32, 32, 98, 121, 32, 120, 46, 97, 46, 98] : Cn.T), ([32, 32, 98, 121] : Cn.T), ([32, 32, 106, 111, 105, 110, 32, 111, 110, 101, 32, 120] : Cn.T)]) (es_var rfl f4) (en_lst (es_args (ev_lit rfl) (es_args (ev_lit rfl) (es_args (ev_lit rfl) (es_args (ev_lit rfl) (es_args (ev_lit rfl) (es_args (ev_lit rfl) (es_args (ev_lit rfl) es_nil))))))) (Nat.le_of_ble_eq_true rfl)).s (Nat.le_of_ble_eq_true rfl)) fun l5 H5 n5 e5 f5 => ?_
    have n5 := fresh_back eH n5
    have eH := eH.trans e5
    dsimp only
    show tSeq (tAsg (tOp rCat (tVar _) (tLst _)) (gName _)) _ _ _ _
    refine s_lst (en_cat (A := wr3) (B := [([32, 32, 106, 111, 105, 110, 32, 111, 110, 101] : Cn.T), ([32, 32, 106, 111, 105, 110, 32, 110, 111, 110, 101, 32, 121] : Cn.T), ([32, 32, 102, 114, 111, 109, 32, 111, 110, 101, 32, 121] : Cn.T), ([32, 32, 106, 111, 105, 110, 32, 111, 110, 101, 32, 110, 105, 110, 101, 97, 98, 99, 100, 101] : Cn.T), ([32, 32, 106, 111, 105, 110, 32, 111, 110, 101, 32, 89] : Cn.T)]) (es_var rfl f5) (en_lst (es_args (ev_lit rfl) (es_args (ev_lit rfl) (es_args (ev_lit rfl) (es_args (ev_lit rfl) (es_args (ev_lit rfl) es_nil))))) (Nat.le_of_ble_eq_true rfl)).s (Nat.le_of_ble_eq_true rfl)) fun l6 H6 n6 e6 f6 => ?_
    have n6 := fresh_back eH n6
    have eH := eH.trans e6
    dsimp only
    show tSeq (tDrop (tBM _ "list" rAppend (tVar _) (tCons _ tNil))) _ _ _ _
    refine s_app0 (t := ([32, 32, 115, 117, 109, 32, 120, 46, 100] : Cn.T)) (L := wr4) rfl rfl f6 (Nat.le_of_ble_eq_true rfl) ?_
    have eH := Ex.mut (o := .lst (svs (wr4 ++ [([32, 32, 115, 117, 109, 32, 120, 46, 100] : Cn.T)]))) eH n6
    have f7 : (upd H6 l6 (.lst (svs (wr4 ++ [([32, 32, 115, 117, 109, 32, 120, 46, 100] : Cn.T)])))) l6 = some (.lst (svs wr5)) := upd_same
    generalize upd H6 l6 (.lst (svs (wr4 ++ [([32, 32, 115, 117, 109, 32, 120, 46, 100] : Cn.T)]))) = H7 at eH f7
    dsimp only
    show tRet (tOp rCat (tVar _) (tLst _)) _ _ _
    exact en_cat (A := wr5) (B := [([32, 32, 106, 111, 105, 110, 32, 111, 110, 101, 32, 121, 32, 122] : Cn.T), ([32, 106, 111, 105, 110, 32, 111, 110, 101, 32, 121] : Cn.T), ([32, 32, 32, 106, 111, 105, 110, 32, 111, 110, 101, 32, 121] : Cn.T), ([106, 111, 105, 110, 32, 111, 110, 101, 32, 121] : Cn.T), ([32, 32] : Cn.T), ([32, 32, 108, 105, 110, 107, 32, 120, 46, 97, 32, 61, 61, 32, 120, 46, 98] : Cn.T)]) (es_var rfl f7) (en_lst (es_args (ev_lit rfl) (es_args (ev_lit rfl) (es_args (ev_lit rfl) (es_args (ev_lit rfl) (es_args (ev_lit rfl) (es_args (ev_lit rfl) es_nil)))))) (Nat.le_of_ble_eq_true rfl)).s (Nat.le_of_ble_eq_true rfl) H7 (Ex.refl _) _ fun p H8 n8 e8 f8 => k H8 p (but_ex (eH.trans e8)) (fresh_back eH n8) f8
def wrC (name row : Cn.T) : List Cn.T × Option Nat := ([([114, 101, 112, 111, 114, 116, 32] : Cn.T) ++ name, ([32, 32, 102, 114, 111, 109, 32, 111, 110, 101, 32, 120] : Cn.T), row, ([32, 32, 114, 111, 119, 115] : Cn.T), ([101, 110, 100] : Cn.T)], some 2)
def allC0 (name : Cn.T) : List (List Cn.T × Option Nat) := manyC8 name ++ orderC11 name
def allC (name : Cn.T) : List (List Cn.T × Option Nat) := allC0 name ++ wrongRows.map (wrC name)
theorem CaseR.twoN {l l' : Addr} {H H' : Hp} {v : V} {c : List Cn.T × Option Nat} (e : Ex H H') (hn : H l' = none) (h : CaseR l H v c) : CaseR l' H' v c := (h.rN hn).later e
theorem ok_cases (F : Fun K "_law_cases" "_law_cases" s__law_cases f fd) (T : LT12 K mg CR CT CS CP CI) (c__law_many_cases : Cal P w K mg base 2 "_law_many_cases" (sp_cases manyC8)) (c__law_order_cases : Cal P w K mg base 2 "_law_order_cases" (sp_cases orderC11)) (c__law_wrong_rows : Cal P w K mg base 1 "_law_wrong_rows" sp_wrongRows) : FnOk P w K mg base (L2.CX P w) 3 f fd ["name"] (sp_cases allC) := by
  refine F.okX sc__law_cases (fun vs H Q E h => ?_) (fun cdv A outer s H vs Q E hr h => ?_)
  · obtain ⟨_, rfl, _⟩ := h
    rfl
  · obtain ⟨name, rfl, hn, k⟩ := h
    refine ⟨_, (pss_cons (ps_set (i := 1) sc__law_cases.nd rfl (Or.inl rfl) (pe_op op_cat (p_call E c__law_many_cases hr (by decide) (by rfl) (passX rfl rfl rfl (takes_of rfl rfl rfl rfl)) (pa_cons (pv 0) pa_nil)) (p_call E c__law_order_cases hr (by decide) (by rfl) (passX rfl rfl rfl (takes_of rfl rfl rfl rfl)) (pa_cons (pv 0) pa_nil))))
  (pss_cons (ps_for (passes_of rfl) (by rfl) (pi_listK K rfl (p_call0 E c__law_wrong_rows hr (by decide) (by rfl) (passX rfl rfl rfl (takes_of rfl rfl rfl rfl)))) (pg_name (i := 2) sc__law_cases.nd rfl (Or.inl rfl))
  (pss_one (ps_expr (pe_bm PySem.F.plainAttrs_list PySem.F.slot_list_append PySem.F.type_list_append mt_append (pv 1) (pa_cons (pe_tup (pa_cons (pe_lst (pa_cons (pe_op op_add_str pe_str (pv 0)) (pa_cons pe_str (pa_cons (pv 2) (pa_cons pe_str (pa_cons pe_str pa_nil)))))) (pa_cons pe_int pa_nil))) pa_nil)))))
  (pss_one (ps_ret (pv 1))))), ?_⟩
    refine ⟨_, rfl, name, rfl, hn, fun H1 l1 b1 n1 f1 => ⟨_, rfl, name, rfl, hn, fun H2 l2 b2 n2 f2 => ?_⟩⟩
    obtain ⟨xs, f1, g1⟩ := f1.later (ex_but b2)
    obtain ⟨ys, f2, g2⟩ := f2
    have zx : xs.length = (manyC8 name).length := g1.1
    have zy : ys.length = (orderC11 name).length := g2.1
    have zm : (manyC8 name).length ≤ 100 := Nat.le_of_ble_eq_true rfl
    have zo : (orderC11 name).length ≤ 100 := Nat.le_of_ble_eq_true rfl
    refine ⟨l1, l2, xs, ys, rfl, rfl, f1, f2, szl (by omega), fun l hl => ?_⟩
    have ex : Ex H2 (upd H2 l (.lst (xs ++ ys))) := Ex.new hl
    have eH : Ex H (upd H2 l (.lst (xs ++ ys))) := ((ex_but b1).trans (ex_but b2)).trans ex
    have nl : H l = none := (b1.trans b2).free hl (by simp)
    have fl : FndH l (upd H2 l (.lst (xs ++ ys))) (allC0 name) := ⟨_, upd_same, each_app (g1.mono fun _ _ z => z.twoN ex hl) (g2.mono fun _ _ z => z.twoN ex hl)⟩
    generalize upd H2 l (.lst (xs ++ ys)) = H3 at eH fl
    refine ⟨rfl, fun H4 lr b4 hlr0 hlr => ?_⟩
    refine ⟨lr, rfl, ⟨_, SqL.of hlr⟩, ?_⟩
    have fl4 := fl.later (ex_but b4)
    have nlr : lr ≠ l := by
      obtain ⟨zs, a, _⟩ := fl
      exact fun z => by rw [z, a] at hlr0; cases hlr0
    have z0 : (allC0 name).length ≤ 200 := by show (manyC8 name ++ orderC11 name).length ≤ 200; rw [List.length_append]; omega
    have zw : wrongRows.length ≤ 100 := by decide
    refine for_it (walk_list (K := K) (a := lr) (xs := svs wrongRows)) (fun i σ H' => (∃ v, σ = [some (sv name), some (.ref l), v]) ∧ Ex H H' ∧ H' lr = some (.lst (svs wrongRows)) ∧ FndH l H' (allC0 name ++ (wrongRows.take i).map (wrC name)))
      ⟨⟨_, rfl⟩, eH.trans (ex_but b4), hlr, by simpa using fl4⟩ (fun i σ H' _ e => SqL.of e.2.2.1) (fun i x σ H5 H5' hi ⟨⟨v', es⟩, a1, a2, a3⟩ y => ?_) (fun σ H5 ⟨⟨v', es⟩, a1, a2, a3⟩ => ?_)
    · obtain ⟨rfl, hx⟩ := y
      obtain ⟨row, hrow, rfl⟩ := svs_get hx
      subst es
      have tl : (wrongRows.take i).length ≤ 100 := by rw [List.length_take]; omega
      have a4 := a1
      refine c_app (σ := [some (sv name), some (.ref l), some (sv row)]) (c := ([([114, 101, 112, 111, 114, 116, 32] : Cn.T) ++ name, ([32, 32, 102, 114, 111, 109, 32, 111, 110, 101, 32, 120] : Cn.T), row, ([32, 32, 114, 111, 119, 115] : Cn.T), ([101, 110, 100] : Cn.T)], some 2)) rfl (H0 := hide l H5') (if_pos rfl) (hide_ex l H5') a3 (ec_tup (en_lst (es_args (ev_cats (a := ([114, 101, 112, 111, 114, 116, 32] : Cn.T)) (b := name) (ev_lit rfl) (ev_var rfl) (by have e : (([114, 101, 112, 111, 114, 116, 32] : Cn.T)).length = 7 := rfl; omega)) (es_args (ev_lit rfl) (es_args (ev_var rfl) (es_args (ev_lit rfl) (es_args (ev_lit rfl) es_nil))))) (Nat.le_of_ble_eq_true rfl)).s rfl) (by rw [List.length_append, List.length_map]; omega) fun H6 e6 f6 => ⟨⟨_, rfl⟩, ?_, ?_, ?_⟩
      · exact (hide_of nl a1).trans e6
      · exact e6 lr _ (by unfold hide; rw [if_neg nlr]; exact a2)
      · have st : wrongRows.take (i + 1) = wrongRows.take i ++ [row] := by rw [List.take_add_one, hrow]; rfl
        rw [st, List.map_append, ← List.append_assoc]
        exact f6
    · subst es
      rw [svs_len, List.take_length] at a3
      exact ⟨_, rfl, k H5 l (but_ex a1) nl a3⟩
end
end Cn
set_option Elab.async false
set_option linter.all false
set_option maxRecDepth 100000
set_option maxHeartbeats 4000000
/-! reports: the first row matters by its name alone -/
namespace Cn
open PySem L2
def Same1 (L L' : List T) : Prop := ∀ n, 1 ≤ n → L[n]? = L'[n]?
theorem same1_cons (a b : T) (r : List T) : Same1 (a :: r) (b :: r) := fun n h => by
  obtain ⟨m, rfl⟩ : ∃ m, n = m + 1 := ⟨n - 1, by omega⟩
  rfl
section
variable {L L' : List T} {ts : List Tbl} {al : List (T × T)}
theorem begins_same (h : Same1 L L') {n : Nat} (hn : 1 ≤ n) (st : T) : begins L n st = begins L' n st := by unfold begins; rw [h n hn]
theorem words_same (h : Same1 L L') {n : Nat} (hn : 1 ≤ n) (st : T) : words L n st = words L' n st := by unfold words; rw [h n hn]
theorem exactly_same (h : Same1 L L') {n : Nat} (hn : 1 ≤ n) (st : T) : exactly L n st = exactly L' n st := by unfold exactly; rw [h n hn]
theorem aliasLoop_same (h : Same1 L L') : ∀ (f n : Nat) (al : List (T × T)), 1 ≤ n → aliasLoop L ts f n al = aliasLoop L' ts f n al
  | 0, n, al, hn => rfl
  | f + 1, n, al, hn => by
    have ih := fun al => aliasLoop_same h f (n + 1) al (by omega)
    unfold aliasLoop
    simp only [begins_same h hn, words_same h hn, ih]
theorem linkLoop_same (h : Same1 L L') : ∀ (f n : Nat) (ls : List (Col × Col)), 1 ≤ n → linkLoop L ts al f n ls = linkLoop L' ts al f n ls
  | 0, n, ls, hn => rfl
  | f + 1, n, ls, hn => by
    have ih := fun ls => linkLoop_same h f (n + 1) ls (by omega)
    unfold linkLoop
    simp only [begins_same h hn, words_same h hn, ih]
theorem filterLoop_same (h : Same1 L L') : ∀ (f n : Nat) (ls : List (Col × Nat)), 1 ≤ n → filterLoop L ts al f n ls = filterLoop L' ts al f n ls
  | 0, n, ls, hn => rfl
  | f + 1, n, ls, hn => by
    have ih := fun ls => filterLoop_same h f (n + 1) ls (by omega)
    unfold filterLoop
    simp only [begins_same h hn, words_same h hn, ih]
theorem groupLoop_same (h : Same1 L L') : ∀ (f n : Nat) (ls : List Col), 1 ≤ n → groupLoop L ts al f n ls = groupLoop L' ts al f n ls
  | 0, n, ls, hn => rfl
  | f + 1, n, ls, hn => by
    have ih := fun ls => groupLoop_same h f (n + 1) ls (by omega)
    unfold groupLoop
    simp only [begins_same h hn, words_same h hn, ih]
theorem readMeasure_same (h : Same1 L L') {n : Nat} (hn : 1 ≤ n) (t : Tbl) : readMeasure L n t = readMeasure L' n t := by
  unfold readMeasure
  simp only [begins_same h hn, words_same h hn, exactly_same h hn]
theorem aliasLoop_ge : ∀ (f n : Nat) (al al' : List (T × T)) (n' : Nat), aliasLoop L ts f n al = .ok (al', n') → n ≤ n'
  | 0, n, al, al', n', e => by cases e; exact Nat.le_refl _
  | f + 1, n, al, al', n', e => by
    unfold aliasLoop at e
    split at e
    · split at e
      · cases e
      · split at e
        · split at e
          · split at e
            · have := aliasLoop_ge f _ _ _ _ e; omega
            · cases e
          · cases e
        · cases e
    · cases e; exact Nat.le_refl _
theorem linkLoop_ge : ∀ (f n : Nat) (ls ls' : List (Col × Col)) (n' : Nat), linkLoop L ts al f n ls = .ok (ls', n') → n ≤ n'
  | 0, n, ls, ls', n', e => by cases e; exact Nat.le_refl _
  | f + 1, n, ls, ls', n', e => by
    unfold linkLoop at e
    split at e
    · split at e
      · cases e
      · split at e
        · split at e
          · split at e
            · have := linkLoop_ge f _ _ _ _ e; omega
            · cases e
          · cases e
        · cases e
    · cases e; exact Nat.le_refl _
theorem filterLoop_ge : ∀ (f n : Nat) (ls ls' : List (Col × Nat)) (n' : Nat), filterLoop L ts al f n ls = .ok (ls', n') → n ≤ n'
  | 0, n, ls, ls', n', e => by cases e; exact Nat.le_refl _
  | f + 1, n, ls, ls', n', e => by
    unfold filterLoop at e
    split at e
    · split at e
      · cases e
      · split at e
        · split at e
          · split at e
            · have := filterLoop_ge f _ _ _ _ e; omega
            · cases e
          · cases e
        · cases e
    · cases e; exact Nat.le_refl _
theorem groupLoop_ge : ∀ (f n : Nat) (ls ls' : List Col) (n' : Nat), groupLoop L ts al f n ls = .ok (ls', n') → n ≤ n'
  | 0, n, ls, ls', n', e => by cases e; exact Nat.le_refl _
  | f + 1, n, ls, ls', n', e => by
    unfold groupLoop at e
    split at e
    · split at e
      · cases e
      · split at e
        · split at e
          · split at e
            · split at e
              · have := groupLoop_ge f _ _ _ _ e; omega
              · cases e
            · cases e
          · cases e
        · cases e
    · cases e; exact Nat.le_refl _
theorem readMeasure_ge {n n' : Nat} {t : Tbl} {me : Option T} (e : readMeasure L n t = .ok (me, n')) : n ≤ n' := by
  unfold readMeasure at e
  split at e
  · split at e
    · cases e
    · split at e
      · cases e; omega
      · cases e
  · split at e
    · cases e; omega
    · cases e
def named (nm : T) : Except Nat Rep → Except Nat Rep
  | .error e => .error e
  | .ok r => .ok { r with name := nm }
theorem parseRep_named {a b na nb : T} {rest : List T} (ha : newName (a :: rest) 0 kReport [] = .ok na) (hb : newName (b :: rest) 0 kReport [] = .ok nb) : parseRep (a :: rest) ts = named na (parseRep (b :: rest) ts) := by
  have h := same1_cons a b rest
  have hl : (a :: rest).length = (b :: rest).length := rfl
  unfold parseRep
  rw [ha, hb]
  dsimp only
  rw [aliasLoop_same h 5 1 [] (by decide)]
  cases h1 : aliasLoop (b :: rest) ts 5 1 [] with
  | error e => rfl
  | ok x =>
    obtain ⟨al, n1⟩ := x
    have g1 := aliasLoop_ge _ _ _ _ _ h1
    dsimp only
    rw [linkLoop_same h 21 n1 [] g1]
    cases h2 : linkLoop (b :: rest) ts al 21 n1 [] with
    | error e => rfl
    | ok x =>
      obtain ⟨ls, n2⟩ := x
      have g2 := linkLoop_ge _ _ _ _ _ h2
      dsimp only
      rw [filterLoop_same h 6 n2 [] (by omega)]
      cases h3 : filterLoop (b :: rest) ts al 6 n2 [] with
      | error e => rfl
      | ok x =>
        obtain ⟨fs, n3⟩ := x
        have g3 := filterLoop_ge _ _ _ _ _ h3
        dsimp only
        rw [groupLoop_same h 4 n3 [] (by omega)]
        cases h4 : groupLoop (b :: rest) ts al 4 n3 [] with
        | error e => rfl
        | ok x =>
          obtain ⟨gs, n4⟩ := x
          have g4 := groupLoop_ge _ _ _ _ _ h4
          dsimp only
          cases tabOf ts ((al.map (·.2)).headD []) with
          | none => rfl
          | some t =>
            dsimp only
            rw [readMeasure_same h (show 1 ≤ n4 by omega)]
            cases h5 : readMeasure (b :: rest) n4 t with
            | error e => rfl
            | ok x =>
              obtain ⟨me, n5⟩ := x
              have g5 := readMeasure_ge h5
              dsimp only
              rw [exactly_same h (show 1 ≤ n5 by omega), hl]
              cases exactly (b :: rest) n5 kEnd with
              | false => rfl
              | true =>
                cases (n5 + 1 == (b :: rest).length) <;> rfl
theorem newName_name {nm : T} {rest : List T} (h : isName nm = true) : newName ((kReport ++ nm) :: rest) 0 kReport [] = .ok nm := by
  have nb : 32 ∉ nm := fun z => by
    unfold isName at h
    simp only [Bool.and_eq_true, decide_eq_true_eq, List.all_eq_true] at h
    have := h.2.2 32 z
    omega
  have e : words ((kReport ++ nm) :: rest) 0 kReport = some [nm] := by
    show (if isPre kReport (kReport ++ nm) = true then some (splitC 32 nm) else none) = _
    rw [splitC_one 32 nm nb]
    rfl
  unfold newName
  rw [e]
  show (if (true && (isName nm && !([] : List T).contains nm)) = true then _ else _) = _
  rw [h]
  rfl
/-- what a report's text is told to be: of the rows behind the first -/
def vd0 (ts : List Tbl) (c : List T × Option Nat) : Bool := match parseRep ((kReport ++ [97]) :: c.1) ts with
  | .error e => c.2 == some e
  | .ok r => c.2 == none && ((repRows r).tail == c.1)
end
end Cn
set_option Elab.async false
set_option linter.all false
set_option maxRecDepth 100000
set_option maxHeartbeats 4000000
/-! what the pairs are told to be -/
namespace Cn
open PySem L2
theorem told_case {ts : List Tbl} {nm : Cn.T} (h : isName nm = true) {rest : List Cn.T} {x : Option Nat} (hv : vd0 ts (rest, x) = true) (h10 : ∀ r ∈ rest, 10 ∉ r) : toldR ((kReport ++ nm) :: rest) ts = codeV x := by
  have nb : 10 ∉ kReport ++ nm := fun z => by
    rcases List.mem_append.mp z with z | z
    · revert z; decide
    · unfold isName at h
      simp only [Bool.and_eq_true, decide_eq_true_eq, List.all_eq_true] at h
      have := h.2.2 10 z
      omega
  have e : splitC 10 (joinT [10] ((kReport ++ nm) :: rest)) = (kReport ++ nm) :: rest := split_join 10 _ (by simp) fun r hr => by
    rcases List.mem_cons.mp hr with rfl | z
    · exact nb
    · exact h10 r z
  unfold toldR
  rw [e, parseRep_named (b := kReport ++ [97]) (newName_name h) (newName_name (by decide))]
  unfold vd0 at hv
  cases hp : parseRep ((kReport ++ [97]) :: rest) ts with
  | error n =>
    rw [hp] at hv
    have hv : (x == some n) = true := hv
    rw [eq_of_beq hv]; rfl
  | ok r =>
    rw [hp] at hv
    have hv : (x == none && ((repRows r).tail == rest)) = true := hv
    rw [Bool.and_eq_true] at hv
    rw [eq_of_beq hv.1]
    have er : repText { r with name := nm } = joinT [10] ((kReport ++ nm) :: rest) := by
      have := eq_of_beq hv.2
      unfold repText
      rw [← this]; rfl
    show (if (repText { r with name := nm } == joinT [10] ((kReport ++ nm) :: rest)) = true then V.non else _) = _
    rw [er, if_pos (beq_self_eq_true _)]; rfl
def addN (nm : Cn.T) (c : List Cn.T × Option Nat) : List Cn.T × Option Nat := ((kReport ++ nm) :: c.1, c.2)
def allRests : List (List Cn.T × Option Nat) := (manyC8 [] ++ orderC11 []).map fun c => (c.1.tail, c.2)
theorem allC0_eq (nm : Cn.T) : allC0 nm = allRests.map (addN nm) := rfl
def small (rest : List Cn.T) : Bool := (rest.all fun r => !r.contains 10) && decide ((rest.map List.length).sum + rest.length ≤ 800000)
theorem small10 {rest : List Cn.T} (h : small rest = true) : (∀ r ∈ rest, 10 ∉ r) ∧ (rest.map List.length).sum + rest.length ≤ 800000 := by
  unfold small at h
  rw [Bool.and_eq_true, List.all_eq_true, decide_eq_true_eq] at h
  refine ⟨fun r hr z => ?_, h.2⟩
  have := h.1 r hr
  rw [List.contains_iff_mem.mpr z] at this
  cases this
theorem rests_ok : (allRests.all fun c => vd0 ts12 c && small c.1) = true := by decide +kernel
def wrR (row : Cn.T) : List Cn.T × Option Nat := ([([32, 32, 102, 114, 111, 109, 32, 111, 110, 101, 32, 120] : Cn.T), row, ([32, 32, 114, 111, 119, 115] : Cn.T), ([101, 110, 100] : Cn.T)], some 2)
theorem wrC_eq (nm row : Cn.T) : wrC nm row = addN nm (wrR row) := rfl
theorem not_number {w : Cn.T} (h : 10 < w.length) : isNumber w = false := by
  unfold isNumber
  rw [decide_eq_false (show ¬ w.length ≤ 10 by omega), Bool.false_and, Bool.and_false]
theorem wr_word {w : Cn.T} (h : 32 ∉ w) (hn : isNumber w = false) : vd0 ts12 (wrR (kXA ++ w)) = true := by
  have e1 : newName ((kReport ++ [97]) :: (wrR (kXA ++ w)).1) 0 kReport [] = .ok [97] := newName_name (by decide)
  have e2 : aliasLoop ((kReport ++ [97]) :: (wrR (kXA ++ w)).1) ts12 5 1 [] = .ok ([([120], [111, 110, 101])], 2) := rfl
  have e3 : linkLoop ((kReport ++ [97]) :: (wrR (kXA ++ w)).1) ts12 [([120], [111, 110, 101])] 21 2 [] = .ok ([], 2) := rfl
  have ew : words ((kReport ++ [97]) :: (wrR (kXA ++ w)).1) 2 kWhere = some [[120, 46, 97], [61], w] := by
    show (if isPre kWhere (kXA ++ w) = true then some (splitC 32 ([120, 46, 97, 32, 61, 32] ++ w)) else none) = _
    have e : splitC 32 ([120, 46, 97, 32, 61, 32] ++ w) = [[120, 46, 97], [61], w] := by
      have a := splitC_cons 32 [120, 46, 97] ([61, 32] ++ w) (by decide)
      have b := splitC_cons 32 [61] w (by decide)
      rw [splitC_one 32 w h] at b
      have a : splitC 32 ([120, 46, 97, 32, 61, 32] ++ w) = [120, 46, 97] :: splitC 32 ([61, 32] ++ w) := a
      have b : splitC 32 ([61, 32] ++ w) = [61] :: [w] := b
      rw [a, b]
    rw [e]; rfl
  have e4 : filterLoop ((kReport ++ [97]) :: (wrR (kXA ++ w)).1) ts12 [([120], [111, 110, 101])] 6 2 [] = .error 2 := by
    unfold filterLoop
    rw [ew]
    show (if (true && (true && isNumber w)) = true then _ else _) = _
    rw [hn]; rfl
  unfold vd0 parseRep
  rw [e1]
  dsimp only
  rw [e2]
  dsimp only
  rw [e3]
  dsimp only
  rw [e4]
  rfl
theorem mem_rep {n c x : Nat} (h : x ∈ repT n [c]) : x = c := by
  unfold repT at h
  rw [List.mem_flatten] at h
  obtain ⟨l, hl, hx⟩ := h
  rw [List.eq_of_mem_replicate hl] at hx
  exact List.mem_singleton.mp hx
theorem word_ok : ∀ w ∈ wordsA ++ wordsB, 32 ∉ w ∧ 10 ∉ w ∧ isNumber w = false ∧ w.length ≤ 6000 := by
  have r : ∀ (n c : Nat), 10 < n → n ≤ 5000 → c ≠ 32 → c ≠ 10 → 32 ∉ repT n [c] ∧ 10 ∉ repT n [c] ∧ isNumber (repT n [c]) = false ∧ (repT n [c]).length ≤ 6000 := fun n c h1 h2 h3 h4 =>
    ⟨fun z => h3 (mem_rep z).symm, fun z => h4 (mem_rep z).symm, not_number (by rw [repT_len]; simpa using h1), by rw [repT_len]; simp; omega⟩
  intro w hw
  rcases List.mem_append.mp hw with hw | hw
  · simp only [wordsA, List.mem_cons, List.not_mem_nil, or_false] at hw
    rcases hw with rfl | rfl | rfl | rfl | rfl | rfl | rfl
    · decide
    · decide
    · exact r 12 48 (by decide) (by decide) (by decide) (by decide)
    · decide
    · exact r 5000 57 (by decide) (by decide) (by decide) (by decide)
    · exact r 5000 48 (by decide) (by decide) (by decide) (by decide)
    · have q := r 5000 48 (by decide) (by decide) (by decide) (by decide)
      refine ⟨fun z => ?_, fun z => ?_, not_number (by rw [List.length_append, repT_len]; decide), by rw [List.length_append, repT_len]; decide⟩
      · rcases List.mem_append.mp z with z | z
        · exact q.1 z
        · revert z; decide
      · rcases List.mem_append.mp z with z | z
        · exact q.2.1 z
        · revert z; decide
  · revert w
    have : (wordsB.all fun w => !w.contains 32 && (!w.contains 10 && (!isNumber w && decide (w.length ≤ 6000)))) = true := by decide +kernel
    intro w _ hw
    have := List.all_eq_true.mp this w hw
    simp only [Bool.and_eq_true, Bool.not_eq_true', decide_eq_true_eq] at this
    exact ⟨fun z => by rw [List.contains_iff_mem.mpr z] at this; exact absurd this.1 (by decide), fun z => by rw [List.contains_iff_mem.mpr z] at this; exact absurd this.2.1 (by decide), this.2.2.1, this.2.2.2⟩
def wrExp : List Cn.T := (((([([32, 32, 108, 105, 110, 107, 32, 120, 46, 97, 32, 61, 32, 121, 46, 97] : Cn.T), ([32, 32, 108, 105, 110, 107, 32, 120, 46, 97, 32, 32, 61, 32, 120, 46, 97] : Cn.T), ([32, 32, 108, 105, 110, 107, 32, 120, 46, 97, 32, 61, 32, 120, 46, 97, 32] : Cn.T), ([32, 32, 108, 105, 110, 107, 32, 120, 46, 97, 32, 61, 32, 53] : Cn.T)] ++ [([32, 32, 119, 104, 101, 114, 101, 32, 120, 46, 97, 32, 61, 32, 120, 46, 97] : Cn.T), ([32, 32, 98, 121, 32, 120] : Cn.T), ([32, 32, 98, 121, 32, 120, 46, 101] : Cn.T), ([32, 32, 98, 121, 32, 46, 97] : Cn.T), ([32, 32, 98, 121, 32, 120, 46, 97, 46, 98] : Cn.T), ([32, 32, 98, 121] : Cn.T), ([32, 32, 106, 111, 105, 110, 32, 111, 110, 101, 32, 120] : Cn.T)]) ++ [([32, 32, 106, 111, 105, 110, 32, 111, 110, 101] : Cn.T), ([32, 32, 106, 111, 105, 110, 32, 110, 111, 110, 101, 32, 121] : Cn.T), ([32, 32, 102, 114, 111, 109, 32, 111, 110, 101, 32, 121] : Cn.T), ([32, 32, 106, 111, 105, 110, 32, 111, 110, 101, 32, 110, 105, 110, 101, 97, 98, 99, 100, 101] : Cn.T), ([32, 32, 106, 111, 105, 110, 32, 111, 110, 101, 32, 89] : Cn.T)]) ++ [([32, 32, 115, 117, 109, 32, 120, 46, 100] : Cn.T)]) ++ [([32, 32, 106, 111, 105, 110, 32, 111, 110, 101, 32, 121, 32, 122] : Cn.T), ([32, 106, 111, 105, 110, 32, 111, 110, 101, 32, 121] : Cn.T), ([32, 32, 32, 106, 111, 105, 110, 32, 111, 110, 101, 32, 121] : Cn.T), ([106, 111, 105, 110, 32, 111, 110, 101, 32, 121] : Cn.T), ([32, 32] : Cn.T), ([32, 32, 108, 105, 110, 107, 32, 120, 46, 97, 32, 61, 61, 32, 120, 46, 98] : Cn.T)])
theorem wrongRows_eq : wrongRows = (wordsA ++ wordsB).map (kXA ++ ·) ++ wrExp := by
  rw [List.map_append]
  show ((((((wordsA.map _ ++ wordsB.map _) ++ _) ++ _) ++ _) ++ _) ++ _) = _
  unfold wrExp
  simp only [List.append_assoc]
theorem exp_ok : (wrExp.all fun r => vd0 ts12 (wrR r) && small (wrR r).1) = true := by decide +kernel
theorem all_ok {nm : Cn.T} (h : isName nm = true) : ∀ c ∈ allC nm, toldR c.1 ts12 = codeV c.2 ∧ (c.1.map List.length).sum + c.1.length ≤ 900000 := by
  have h8 := isName_len h
  have one : ∀ c : List Cn.T × Option Nat, vd0 ts12 c = true → (∀ r ∈ c.1, 10 ∉ r) → (c.1.map List.length).sum + c.1.length ≤ 800000 → toldR (addN nm c).1 ts12 = codeV (addN nm c).2 ∧ ((addN nm c).1.map List.length).sum + (addN nm c).1.length ≤ 900000 := fun c hv h10 hz => by
    refine ⟨told_case h hv h10, ?_⟩
    show (((kReport ++ nm) :: c.1).map List.length).sum + ((kReport ++ nm) :: c.1).length ≤ 900000
    rw [List.map_cons, List.sum_cons, List.length_cons, List.length_append]
    have : kReport.length = 7 := rfl
    omega
  intro c hc
  unfold allC at hc
  rcases List.mem_append.mp hc with hc | hc
  · rw [allC0_eq] at hc
    obtain ⟨r, hr, rfl⟩ := List.mem_map.mp hc
    have := List.all_eq_true.mp rests_ok r hr
    rw [Bool.and_eq_true] at this
    have s := small10 this.2
    exact one r this.1 s.1 s.2
  · obtain ⟨row, hrow, rfl⟩ := List.mem_map.mp hc
    rw [wrC_eq]
    rw [wrongRows_eq] at hrow
    rcases List.mem_append.mp hrow with hrow | hrow
    · obtain ⟨wd, hw, rfl⟩ := List.mem_map.mp hrow
      obtain ⟨a, b, c, d⟩ := word_ok wd hw
      refine one _ (wr_word a c) (fun r hr => ?_) ?_
      · have hr : r ∈ [([32, 32, 102, 114, 111, 109, 32, 111, 110, 101, 32, 120] : Cn.T), kXA ++ wd, ([32, 32, 114, 111, 119, 115] : Cn.T), ([101, 110, 100] : Cn.T)] := hr
        simp only [List.mem_cons, List.not_mem_nil, or_false] at hr
        rcases hr with rfl | rfl | rfl | rfl
        · decide
        · intro z
          rcases List.mem_append.mp z with z | z
          · revert z; decide
          · exact b z
        · decide
        · decide
      · show (([([32, 32, 102, 114, 111, 109, 32, 111, 110, 101, 32, 120] : Cn.T), kXA ++ wd, ([32, 32, 114, 111, 119, 115] : Cn.T), ([101, 110, 100] : Cn.T)]).map List.length).sum + 4 ≤ 800000
        simp only [List.map_cons, List.map_nil, List.sum_cons, List.sum_nil, List.length_append, List.length_cons, List.length_nil]
        have : kXA.length = 14 := rfl
        omega
    · have := List.all_eq_true.mp exp_ok row hrow
      rw [Bool.and_eq_true] at this
      have s := small10 this.2
      exact one _ this.1 s.1 s.2
end Cn
set_option Elab.async false
set_option linter.all false
set_option maxRecDepth 100000
set_option maxHeartbeats 4000000
/-! wrong heads; the law -/
namespace Cn
open PySem L2 Evl
def azL : Cn.T := [97, 98, 99, 100, 101, 102, 103, 104, 105, 106, 107, 108, 109, 110, 111, 112, 113, 114, 115, 116, 117, 118, 119, 120, 121, 122]
def hd1 (nm : Cn.T) : List Cn.T := [([114, 101, 112, 111, 114, 116] : Cn.T), ([114, 101, 112, 111, 114, 116, 32] : Cn.T), (([114, 101, 112, 111, 114, 116, 32] : Cn.T) ++ nm) ++ ([32, 120] : Cn.T), ([32, 114, 101, 112, 111, 114, 116, 32] : Cn.T) ++ nm, ([82, 101, 112, 111, 114, 116, 32] : Cn.T) ++ nm]
def headsL (nm : Cn.T) : List Cn.T := hd1 nm ++ [([114, 101, 112, 111, 114, 116, 32] : Cn.T) ++ upT nm, ([114, 101, 112, 111, 114, 116, 32, 110, 105, 110, 101, 108, 101, 116, 116, 101] : Cn.T), ([114, 101, 112, 111, 114, 116, 32, 97, 49] : Cn.T), ([114, 101, 112, 111, 114, 116, 32, 97, 46, 98] : Cn.T), ([] : Cn.T), ([101, 110, 100] : Cn.T), ([116, 97, 98, 108, 101, 32] : Cn.T) ++ nm]
def tailH : List Cn.T := [([32, 32, 102, 114, 111, 109, 32, 111, 110, 101, 32, 120] : Cn.T), ([32, 32, 114, 111, 119, 115] : Cn.T), ([101, 110, 100] : Cn.T)]
def isE0 (L : List Cn.T) : Bool := match parseRep (splitC 10 (joinT [10] L)) ts12 with
  | .error 0 => true
  | _ => false
def isF (L : List Cn.T) : Bool := match parseRep (splitC 10 (joinT [10] L)) ts12 with
  | .ok r => repText r == joinT [10] L
  | .error _ => false
theorem isE0_told {L : List Cn.T} (h : isE0 L = true) : toldR L ts12 = .int (0 : Nat) := by
  unfold isE0 at h
  unfold toldR
  split at h
  · rename_i e; rw [e]
  · cases h
theorem isF_told {L : List Cn.T} (h : isF L = true) : toldR L ts12 = .non := by
  unfold isF at h
  unfold toldR
  split at h
  · rename_i e; rw [e]; exact if_pos h
  · cases h
def okName (nm : Cn.T) : Bool := isName nm && ((headsL nm).all fun h => isE0 (h :: tailH) && decide (h.length ≤ 100)) && (TL.tl (Txt.upper (S nm)) == upT nm)
theorem az_ok : (azL.all fun c => (List.range 8).all fun r => okName (repT (1 + r) [c])) = true := by decide +kernel
structure NameOk (nm : Cn.T) : Prop where
  isN : isName nm = true
  hd : ∀ h ∈ headsL nm, toldR (h :: tailH) ts12 = .int (0 : Nat) ∧ h.length ≤ 100
  up : Txt.upper (S nm) = S (upT nm)
theorem nameOk12 {c r : Nat} (hc : c ∈ azL) (hr : r < 8) : NameOk (repT (1 + r) [c]) := by
  have h := List.all_eq_true.mp (List.all_eq_true.mp az_ok c hc) r (List.mem_range.mpr hr)
  unfold okName at h
  rw [Bool.and_eq_true, Bool.and_eq_true] at h
  refine ⟨h.1.1, fun x hx => ?_, S_eq _ (eq_of_beq h.2)⟩
  have := List.all_eq_true.mp h.1.2 x hx
  rw [Bool.and_eq_true, decide_eq_true_eq] at this
  exact ⟨isE0_told this.1, this.2⟩
def tenW : List Cn.T := [([102, 114, 111, 109] : Cn.T), ([106, 111, 105, 110] : Cn.T), ([108, 105, 110, 107] : Cn.T), ([119, 104, 101, 114, 101] : Cn.T), ([98, 121] : Cn.T), ([115, 117, 109] : Cn.T), ([114, 111, 119, 115] : Cn.T), ([101, 110, 100] : Cn.T), ([114, 101, 112, 111, 114, 116] : Cn.T), ([97, 98, 99, 100, 101, 102, 103, 104] : Cn.T)]
def tenR (w : Cn.T) : List Cn.T := [([114, 101, 112, 111, 114, 116, 32] : Cn.T) ++ w, ([32, 32, 102, 114, 111, 109, 32, 111, 110, 101, 32] : Cn.T) ++ w, (([32, 32, 98, 121, 32] : Cn.T) ++ w) ++ ([46, 97] : Cn.T), ([32, 32, 114, 111, 119, 115] : Cn.T), ([101, 110, 100] : Cn.T)]
theorem ten_ok : (tenW.all fun w => isF (tenR w) && decide (w.length ≤ 8)) = true := by decide +kernel
section
variable {K : PySem.W.Frag} {σ : L2.St} {H0 : Hp}
theorem ev_up {i : Nat} {nm : Cn.T} (h : σ[i]? = some (some (sv nm))) (hup : Txt.upper (S nm) = S (upT nm)) (hz : nm.length ≤ 8) : Ev (tM0 upR (tVar i)) σ H0 (sv (upT nm)) := fun H1 e Q q =>
  ⟨_, h, ⟨_, rfl⟩, S nm, rfl, rfl, by rw [S_len]; omega, by rw [hup]; exact q H1 (Ex.refl H1)⟩
end
section
variable {P : Program} {w : World} {K : PySem.W.Frag} {mg : Str → Option Value} {base : Heap} {CR CT CS CP CI : Addr} {f : Addr} {fd : FuncData}
def sp_heads : Sp := fun vs H Q _ => ∃ nm : Cn.T, vs = [sv nm] ∧ nm.length ≤ 8 ∧ Txt.upper (S nm) = S (upT nm) ∧ ∀ H' l, But [] H H' → H l = none → H' l = some (.lst (svs (headsL nm))) → Q (.ref l) H'
theorem ok_heads (F : Fun K "_law_heads" "_law_heads" s__law_heads f fd) (T : LT12 K mg CR CT CS CP CI) : FnOk P w K mg base (L2.CX P w) 1 f fd ["name"] sp_heads := by
  refine F.okX sc__law_heads (fun vs H Q E h => ?_) (fun cdv A outer s H vs Q E hr h => ?_)
  · obtain ⟨_, rfl, _⟩ := h
    rfl
  · obtain ⟨nm, rfl, hn, hup, k⟩ := h
    refine ⟨_, (pss_cons (ps_set (i := 1) sc__law_heads.nd rfl (Or.inl rfl) (pe_lst (pa_cons pe_str (pa_cons pe_str (pa_cons (pe_op op_add_str (pe_op op_add_str pe_str (pv 0)) pe_str) (pa_cons (pe_op op_add_str pe_str (pv 0)) (pa_cons (pe_op op_add_str pe_str (pv 0)) pa_nil)))))))
  (pss_one (ps_ret (pe_op op_cat (pv 1) (pe_lst (pa_cons (pe_op op_add_str pe_str (pe_upper (pv 0))) (pa_cons pe_str (pa_cons pe_str (pa_cons pe_str (pa_cons pe_str (pa_cons pe_str (pa_cons (pe_op op_add_str pe_str (pv 0)) pa_nil)))))))))))), ?_⟩
    show tSeq (tAsg (tLst _) (gName _)) _ _ _ _
    refine s_lst (en_lst (L := hd1 nm) (es_args (ev_lit rfl) (es_args (ev_lit rfl) (es_args (ev_cats (ev_cats (ev_lit rfl) (ev_var rfl) (by simp <;> omega)) (ev_lit rfl) (by simp <;> omega)) (es_args (ev_cats (ev_lit rfl) (ev_var rfl) (by simp <;> omega)) (es_args (ev_cats (ev_lit rfl) (ev_var rfl) (by simp <;> omega)) es_nil))))) (Nat.le_of_ble_eq_true rfl)) fun l H1 n1 e1 f1 => ?_
    dsimp only
    show tRet (tOp rCat (tVar _) (tLst _)) _ _ _
    have ul : (upT nm).length = nm.length := by unfold upT; rw [List.length_map]
    exact en_cat (σ := [some (sv nm), some (.ref l)]) (A := hd1 nm) (B := [([114, 101, 112, 111, 114, 116, 32] : Cn.T) ++ upT nm, ([114, 101, 112, 111, 114, 116, 32, 110, 105, 110, 101, 108, 101, 116, 116, 101] : Cn.T), ([114, 101, 112, 111, 114, 116, 32, 97, 49] : Cn.T), ([114, 101, 112, 111, 114, 116, 32, 97, 46, 98] : Cn.T), ([] : Cn.T), ([101, 110, 100] : Cn.T), ([116, 97, 98, 108, 101, 32] : Cn.T) ++ nm]) (es_var rfl f1) (en_lst (es_args (ev_cats (ev_lit rfl) (ev_up rfl hup hn) (by simp <;> omega)) (es_args (ev_lit rfl) (es_args (ev_lit rfl) (es_args (ev_lit rfl) (es_args (ev_lit rfl) (es_args (ev_lit rfl) (es_args (ev_cats (ev_lit rfl) (ev_var rfl) (by simp <;> omega)) es_nil))))))) (Nat.le_of_ble_eq_true rfl)).s (Nat.le_of_ble_eq_true rfl) H1 (Ex.refl _) _ fun p H2 n2 e2 f2 => k H2 p (but_ex (e1.trans e2)) (fresh_back e1 n2) f2
end
end Cn
set_option Elab.async false
set_option linter.all false
set_option maxRecDepth 100000
set_option maxHeartbeats 0
/-! Cn.B15: the head's words that are the same for every law. -/
namespace Cn
open PySem L2
def oexB (K : PySem.W.Frag) (C : Addr) : Bool := (match K.lookup C with
  | some ⟨.type "type", _, .cls cd, sl⟩ => (match cd.mro, sl.toList with
    | .ref C' :: bm, [_, _, _, _, some (.builtin n), _] => C' == C && (n == "ValueError.__new__" && (!cd.hasDel && (cd.hasDict && PySem.HandSPX.refsVE bm)))
    | _, _ => false)
  | _ => false) && (decide (PySem.W.findIn K (.ref C) "__setattr__" = some (some (.builtin "object.__setattr__"))) && (decide (PySem.W.subIn K (.ref C) (.type "BaseException") = some true) && (decide (PySem.W.typeIn K (.ref C) = some (.type "type")) && PySem.W.keepIn K (.ref C))))
theorem oexB_ok {K : PySem.W.Frag} {C : Addr} (h : oexB K C = true) : OexC K C := by
  obtain ⟨h1, h⟩ := He.ba h
  obtain ⟨h2, h⟩ := He.ba h
  obtain ⟨h3, h⟩ := He.ba h
  obtain ⟨h4, h5⟩ := He.ba h
  refine ⟨?_, of_decide_eq_true h2, of_decide_eq_true h3, of_decide_eq_true h4, h5⟩
  clear h2 h3 h4 h5 h
  split at h1
  · rename_i dd cd sl ho
    split at h1
    · rename_i C' bm k0 k1 k2 k3 n k5 hm hs
      simp only [Bool.and_eq_true, beq_iff_eq, Bool.not_eq_true'] at h1
      obtain ⟨rfl, rfl, hdel, hdict, ht⟩ := h1
      obtain ⟨nm, bs, mro, ns, qn, hd, sn, sub, ab, col, del⟩ := cd
      dsimp only at hm hdel hdict
      subst hm hdel hdict
      have hsl : sl = #[k0, k1, k2, k3, some (.builtin "ValueError.__new__"), k5] := by
        obtain ⟨l⟩ := sl
        simp only at hs
        rw [hs]
      subst hsl
      exact ⟨_, _, _, _, _, _, _, _, _, _, _, _, _, _, _, ho, ht⟩
    · cases h1
  · cases h1
theorem cread_of2 {K : PySem.W.Frag} {C : Addr} (h0 : PySem.W.readsIn K C (.type "type") = true) : ClX.CRead K C (.type "type") := by
  refine ⟨h0, ?_⟩
  have h := h0
  unfold PySem.W.readsIn at h
  obtain ⟨h, _⟩ := He.ba h
  obtain ⟨h, _⟩ := He.ba h
  obtain ⟨h, h3⟩ := He.ba h
  obtain ⟨_, h2⟩ := He.ba h
  unfold PySem.W.specialIn
  rw [beq_iff_eq.mp h2, Option.bind_some]
  exact beq_iff_eq.mp h3
def xinitB (K : PySem.W.Frag) (C : Addr) : Bool := decide (PySem.W.findIn K (.ref C) "__init__" = some (some (.ref (He.ma K C "__init__")))) && decide (PySem.W.typeIn K (.ref (He.ma K C "__init__")) = some (.type "function"))
def obsZ (ex : PySem.W.Frag → Bool) (fn : List He5.DefA) (K : PySem.W.Frag) : He.AlD := (ex K && fn.all fun d => d.ok K, fn.map fun d => He5.fnA K (d.at_ K))
def SaysZ (ex : PySem.W.Frag → Bool) (fn : List He5.DefA) (K : PySem.W.Frag) : Prop := obsZ ex fn K = He5.valA fn
def obsZG (n : Nat) (ex : PySem.W.Frag → Bool) (fn : List He5.DefA) (g : Addr → Option Obj) : He.AlD := obsZ ex fn (He.frG g (He5.asA g n))
def hookZ (n : Nat) (ex : PySem.W.Frag → Bool) (fn : List He5.DefA) : PySem.W.Hook where
  α := He.AlD
  obs := fun s => obsZG n ex fn s.heap.get?
  val := fun _ => He5.valA fn
  says := fun _ h => ∃ K : PySem.W.Frag, K.In h ∧ SaysZ ex fn K
  of := fun _ _ e => ⟨_, He.frG_in, e⟩
  keeps := fun _ _ _ ⟨K, hK, c⟩ k => ⟨K, PySem.W.Frag.In.keeps hK k, c⟩
theorem obsZ_eq {n : Nat} {ex : PySem.W.Frag → Bool} {fn : List He5.DefA} {g : Addr → Option Obj} {s : Shared} (h : ∀ a, g a = s.heap.get? a) : obsZG n ex fn g = (hookZ n ex fn).obs s := by
  have e : g = s.heap.get? := funext h
  rw [e]; rfl
/-- the end, where what is let out is told by the world too -/
theorem walkW {l : PySem.W.OpenLaw} {n k : Nat} {q : Program} {loose : List Str} {XP : (Str → Option Value) → Heap → Prop} {YP : World → Heap → Prop} {d : DefRec} {CW : World → CXT} {x : Str} (hn : l.most = some n) (hn2 : n ≤ sizeLine) (hdf : d.params.defaults = []) (hr : Room k callerA)
    (F : ∀ (w : World) (mg : Str → Option Value) (fa : Addr) (h : Heap), YP w h → h.Ns mainGlobals mg → mg d.name = some (.ref fa) → ∃ (K : PySem.W.Frag) (fd : FuncData) (sp : Sp), K.In h ∧ (∀ (s : Shared) (u : Value), BindsTo s fd ⟨[u], []⟩ [(x, u)]) ∧
      (∀ (H : Hp) (a : Addr) (ns : List Int), ns.length ≤ n → Only H → SqL K H a (ns.map V.int) → sp [.ref a] H (fun v _ => v = .bl true) fun _ _ _ => False) ∧ ∀ base : Heap, K.In base → base.Ns mainGlobals mg → FnOk l.prog w K mg base (CW w) k fa fd [x] sp)
    (hX : ∀ (w : World) (H : Hp) (s : Shared) (e : Value) (s' : Shared), CW w [] H s (fun _ _ _ => False) e s' → False) : PySem.W.WalkO q loose XP YP l.row.toRowW d [] (fun f vs => PySem.call f vs) := by
  refine Att.attach_call hn hdf fun w t₀ t₁ mg mb fa ob p1 p2 p3 b us ns G Y g1 g2 g3 g4 g5 g6 g7 g8 => ?_
  obtain ⟨K, fd, sp, KX, hb, hsp, hF⟩ := F w mg fa _ Y G.T.g g4
  exact law_call KX G.T.g G.T.b G.T.builtins G.T.nolimit g8 g5 g6 (Nat.le_trans g7 hn2) hr hF hb (fun H hO hS => hsp H b ns g7 hO hS) fun H e s' => hX w H t₁ e s'
end Cn
set_option Elab.async false
set_option linter.all false
set_option maxRecDepth 100000
set_option maxHeartbeats 4000000
/-! the law -/
namespace Cn
open PySem L2 Evl
theorem scal_code (x : Option Nat) : scal (codeV x) (codeV x) = true := by cases x <;> rfl
section
variable {K : PySem.W.Frag} {σ : L2.St} {H : Hp} {D : Ends}
theorem ne_none {lc : TE} {Q' : Bool → Hp → Prop} (h : ∀ Q : VK, (∀ p H', But [] H H' → H' p = some (.lst []) → Q (.ref p) H') → lc σ H Q) (q : ∀ H', But [] H H' → Q' false H') : tTest (tOp (rNeD K) lc (tLst tNil)) σ H Q' :=
  h _ fun p H1 b1 h1 => ⟨szl (by decide), fun r hr => ⟨.list [], .list [], .lst (SqL.of ((newB hr).at h1)) .nil, .lst (SqL.of upd_same) .nil, rfl, rfl, _, rfl, q _ (b1.new hr)⟩⟩
theorem sq_ifno {tt : TT} {t1 u : TS} (h : ∀ Q' : Bool → Hp → Prop, (∀ H', But [] H H' → Q' false H') → tt σ H Q') (k : ∀ H', But [] H H' → u D σ H') : tSeq (tIfS tt t1 tNext) u D σ H := h _ fun H1 b => iteF (k H1 b)
end
section
variable {P : Program} {w : World} {K : PySem.W.Frag} {mg : Str → Option Value} {base : Heap} {CR CT CS CP CI : Addr} {f : Addr} {fd : FuncData}
theorem sc_law : FnScope ["script", "schema", "k", "feed", "name", "tail", "word", "rows", "pair", "head"] ["script"] (defScope s_law) := ⟨rfl, rfl, rfl, by decide +kernel, rfl, by decide +kernel, by decide +kernel⟩
def sp_law (K : PySem.W.Frag) : Sp := fun vs H Q _ => ∃ (a : Addr) (ns : List Int), vs = [.ref a] ∧ SqL K H a (ns.map V.int) ∧ ∀ H', Q (.bl true) H'
theorem ok_law (F : Fun K "law" "law" s_law f fd) (T : LT12 K mg CR CT CS CP CI) (c__law_schema : Cal P w K mg base 9 "_law_schema" (sp_schema12 CT CS)) (c__law_feed : Cal P w K mg base 1 "_law_feed" (sp_feed K)) (c__law_take : Cal P w K mg base 1 "_law_take" sp_take) (c__law_pick : Cal P w K mg base 2 "_law_pick" sp_pick)
    (c__law_cases : Cal P w K mg base 3 "_law_cases" (sp_cases allC)) (c__law_heads : Cal P w K mg base 1 "_law_heads" sp_heads) (c__law_told : Cal P w K mg base 6 "_law_told" (sp_toldR CT CS)) :
    FnOk P w K mg base (L2.CX P w) 10 f fd ["script"] (sp_law K) := by
  refine F.okX sc_law (fun vs H Q E h => ?_) (fun cdv A outer s H vs Q E hr h => ?_)
  · obtain ⟨a, ns, rfl, _⟩ := h
    rfl
  · obtain ⟨a, ns, rfl, hs, k⟩ := h
    refine ⟨_, (pss_cons (ps_set (i := 1) sc_law.nd rfl (Or.inr rfl) (p_call0 E c__law_schema hr (by decide) (by rfl) (passX rfl rfl rfl (takes_of rfl rfl rfl rfl))))
  (pss_cons (ps_for (passes_of rfl) (by rfl) (pi_range1 (by rfl) T.b_range (pa_cons (pe_callB (call_max2 (by rfl)) (by rfl) T.b_max (by decide +kernel) (pa_cons pe_int (pa_cons (pe_callB (call_min2 (by rfl)) (by rfl) T.b_min (by decide +kernel) (pa_cons pe_int (pa_cons (pe_callB (call_len_seqK K rfl) (by rfl) T.b_len (by decide +kernel) (pa_cons (pv 0) pa_nil)) pa_nil))) pa_nil))) pa_nil)) (pg_name (i := 2) sc_law.nd rfl (Or.inl rfl))
  (pss_cons (ps_set (i := 3) sc_law.nd rfl (Or.inl rfl) (p_call E c__law_feed hr (by decide) (by rfl) (passX rfl rfl rfl (takes_of rfl rfl rfl rfl)) (pa_cons (pv 0) (pa_cons (pv 2) pa_nil))))
  (pss_cons (ps_set (i := 4) sc_law.nd rfl (Or.inl rfl) (pe_op op_repS (p_call E c__law_pick hr (by decide) (by rfl) (passX rfl rfl rfl (takes_of rfl rfl rfl rfl)) (pa_cons (pv 3) (pa_cons pe_str pa_nil))) (pe_op op_add pe_int (p_call E c__law_take hr (by decide) (by rfl) (passX rfl rfl rfl (takes_of rfl rfl rfl rfl)) (pa_cons (pv 3) (pa_cons pe_int pa_nil))))))
  (pss_cons (ps_if (pt_cmpR (op_neDK K rfl hr.units) (pe_lc (own := [("pair", 8)]) (g := gName 8) (by rfl) sc_law.nd (pi_listK K rfl (p_call E c__law_cases hr (by decide) (by rfl) (passX rfl rfl rfl (takes_of rfl rfl rfl rfl)) (pa_cons (pv 4) pa_nil))) (blkOk_by (own := [("pair", 8)]) (N := ["script", "schema", "k", "feed", "name", "tail", "word", "rows", "pair", "head"]) (sc := (defScope s_law)) (by decide +kernel)) (fun _ _ _ _ _ => (pg_name (i := 8) sc_law.nd rfl (Or.inl rfl))) (fun _ _ _ _ _ => (pts_one (pt_cmpR op_ne (p_call E0 c__law_told hr (by decide) (by rfl) passL (pa_cons (pv 1) (pa_cons (pe_ix (ix_tupK K rfl) (pv 8) pe_int (fun _ _ => rfl)) pa_nil))) (pe_ix (ix_tupK K rfl) (pv 8) pe_int (fun _ _ => rfl)) (nomark _)))) (fun _ _ _ _ _ => (pv 8))) (pe_lst pa_nil) (nomark _))
  (pss_one (ps_ret pe_bl))
  pss_nil)
  (pss_cons (ps_set (i := 5) sc_law.nd rfl (Or.inr rfl) (pe_lst (pa_cons pe_str (pa_cons pe_str (pa_cons pe_str pa_nil)))))
  (pss_cons (ps_if (pt_cmpR (op_neDK K rfl hr.units) (pe_lc (own := [("head", 9)]) (g := gName 9) (by rfl) sc_law.nd (pi_listK K rfl (p_call E c__law_heads hr (by decide) (by rfl) (passX rfl rfl rfl (takes_of rfl rfl rfl rfl)) (pa_cons (pv 4) pa_nil))) (blkOk_by (own := [("head", 9)]) (N := ["script", "schema", "k", "feed", "name", "tail", "word", "rows", "pair", "head"]) (sc := (defScope s_law)) (by decide +kernel)) (fun _ _ _ _ _ => (pg_name (i := 9) sc_law.nd rfl (Or.inl rfl))) (fun _ _ _ _ _ => (pts_one (pt_cmpR op_ne (p_call E0 c__law_told hr (by decide) (by rfl) passL (pa_cons (pv 1) (pa_cons (pe_op op_cat (pe_lst (pa_cons (pv 9) pa_nil)) (pv 5)) pa_nil))) pe_int (nomark _)))) (fun _ _ _ _ _ => (pv 9))) (pe_lst pa_nil) (nomark _))
  (pss_one (ps_ret pe_bl))
  pss_nil)
  (pss_one (ps_for (passes_of rfl) (by rfl) (pi_tupK K rfl (pe_tup (pa_cons pe_str (pa_cons pe_str (pa_cons pe_str (pa_cons pe_str (pa_cons pe_str (pa_cons pe_str (pa_cons pe_str (pa_cons pe_str (pa_cons pe_str (pa_cons pe_str pa_nil)))))))))))) (pg_name (i := 6) sc_law.nd rfl (Or.inl rfl))
  (pss_cons (ps_set (i := 7) sc_law.nd rfl (Or.inl rfl) (pe_lst (pa_cons (pe_op op_add_str pe_str (pv 6)) (pa_cons (pe_op op_add_str pe_str (pv 6)) (pa_cons (pe_op op_add_str (pe_op op_add_str pe_str (pv 6)) pe_str) (pa_cons pe_str (pa_cons pe_str pa_nil)))))))
  (pss_one (ps_if (pt_cmpR op_notN (p_call E c__law_told hr (by decide) (by rfl) (passX rfl rfl rfl (takes_of rfl rfl rfl rfl)) (pa_cons (pv 1) (pa_cons (pv 7) pa_nil))) pe_non (nomark _))
  (pss_one (ps_ret pe_bl))
  pss_nil)))))))))))
  (pss_one (ps_ret pe_bl)))), ?_⟩
    refine ⟨rfl, fun H0 sv0 b0 hsc => ?_⟩
    obtain ⟨sa, sdx, stt, svt, rfl, _⟩ := id hsc
    have rng : ∀ z : Nat, ∃ y : Nat, y ≤ 4 ∧ (if (if (z : Int) < 4 then (z : Int) else 4) > 1 then (if (z : Int) < 4 then (z : Int) else 4) else 1) = (y : Int) := fun z => by
      by_cases h1 : (z : Int) < 4
      · rw [if_pos h1]
        by_cases h2 : (z : Int) > 1
        · rw [if_pos h2]; exact ⟨z, by omega, rfl⟩
        · rw [if_neg h2]; exact ⟨1, by omega, rfl⟩
      · rw [if_neg h1]; exact ⟨4, by omega, rfl⟩
    obtain ⟨y, y4, ey⟩ := rng (ns.map V.int).length
    refine ⟨_, rfl, a, _, rfl, .inl (sql_keep b0 hs), _, _, rfl, _, _, rfl, _, rfl, ?_⟩
    rw [ey]
    refine ⟨by omega, by omega, ?_⟩
    rw [Int.toNat_natCast]
    refine for_it (walk_range (lo := 0) (n := y)) (fun _ σ H' => (∃ v2 v3 v4 v5 v6 v7 v8 v9, σ = [some (.ref a), some (.ref sa), v2, v3, v4, v5, v6, v7, v8, v9]) ∧ But [] H0 H') ⟨⟨_, _, _, _, _, _, _, _, rfl⟩, But.refl⟩ (fun _ σ H' _ _ => trivial) (fun m x σ H1 H1' hm ⟨⟨v2, v3, v4, v5, v6, v7, v8, v9, es⟩, b1⟩ yy => ?_) (fun σ H1 ⟨⟨v2, v3, v4, v5, v6, v7, v8, v9, es⟩, _⟩ => ?_)
    · obtain ⟨rfl, rfl⟩ := yy
      subst es
      have em : V.int (0 + (m : Int)) = V.int ((m : Nat) : Int) := by rw [Int.zero_add]
      refine ⟨_, rfl, _, rfl, a, ns, m, by show [V.ref a, V.int (0 + (m : Int))] = _; rw [em], by omega, sql_keep (b0.trans b1) hs, fun H2 fa b2 nfa hfa => ?_⟩
      refine ⟨_, rfl, fa, azL, rfl, by decide, by decide, hfa, fun H3 c b3 hf3 hc => ?_⟩
      refine ⟨_, rfl, fa, 8, rfl, by decide, by decide, hf3, fun H4 r b4 hf4 hr8 => ?_⟩
      refine ⟨_, _, rfl, rfl, [c], 1 + r, rfl, by show V.int (1 + ((r : Nat) : Int)) = V.int ((1 + r : Nat) : Int); congr 1, by omega, by omega, by simp, by simp, ?_⟩
      have ok := nameOk12 hc hr8
      generalize repT (1 + r) [c] = nm at ok ⊢
      have n8 := isName_len ok.isN
      have b04 : But [] H0 H4 := b1.trans ((But.of b2).trans (b3.trans b4) |>.drop nfa)
      have hsc4 := hsc.fixR T.nT T.nS (b04.fix0 (CR := CR))
      try dsimp only
      show tSeq (tIfS (tTest (tOp (rNeD _) _ (tLst tNil))) _ tNext) _ _ _ _
      refine sq_ifno (fun Q' q => ne_none (fun Q1 q1 => ?_) q) fun H5 b5 => ?_
      · refine ⟨_, rfl, nm, rfl, n8, fun H5 l b5 nl fl => ?_⟩
        obtain ⟨xs, fl1, fl2⟩ := fl
        have av := all_ok ok.isN
        refine ⟨l, rfl, ⟨_, SqL.of fl1⟩, fun D hD => ?_⟩
        have nDl : l ≠ D := ne_of_none fl1 hD
        refine turns (walk_list (K := K) (a := l) (xs := xs)) (fun i H' => But [] H5 H' ∧ H' D = some (.lst [])) ⟨newB hD, upd_same⟩ (fun i H' _ e => SqL.of (e.1.at fl1)) (fun i x H6 H6' hi e yy => ?_) (fun H' e => ?_)
        · obtain ⟨rfl, hx⟩ := yy
          obtain ⟨cc, hcc, qa, ql, rfl, hqa, hql, _⟩ := fl2.at hx
          obtain ⟨t1, t2⟩ := av cc (List.mem_of_getElem? hcc)
          have b46 := b5.trans e.1
          refine ⟨rfl, _, rfl, _, rfl, qa, _, 0, _, rfl, rfl, SqT.of (e.1.at hqa), rfl, sa, ql, ts12, cc.1, rfl, hsc4.fixR T.nT T.nS (b46.fix0 (CR := CR)), wf12, e.1.at hql, t2, fun H7 b7 => ?_⟩
          refine ⟨_, rfl, qa, _, 1, _, rfl, rfl, SqT.of (b7.at (e.1.at hqa)), rfl, ?_⟩
          rw [t1]
          refine ⟨scal_code _, _, rfl, ?_⟩
          have ed : (!decide (codeV cc.2 = codeV cc.2)) = false := by rw [decide_eq_true rfl]; rfl
          rw [ed]
          exact iteF ⟨e.1.trans b7, b7.at e.2⟩
        · exact q1 D H' (b5.trans e.1) e.2
      have b05 := b04.trans b5
      try dsimp only
      show tSeq (tAsg (tLst _) (gName _)) _ _ _ _
      refine s_lst (en_lst (L := tailH) (es_args (ev_lit rfl) (es_args (ev_lit rfl) (es_args (ev_lit rfl) es_nil))) (by decide)) fun ta H6 n6 e6 f6 => ?_
      have b06 := b05.trans (but_ex e6)
      have hsc6 := hsc.fixR T.nT T.nS (b06.fix0 (CR := CR))
      try dsimp only
      show tSeq (tIfS (tTest (tOp (rNeD _) _ (tLst tNil))) _ tNext) _ _ _ _
      refine sq_ifno (fun Q' q => ne_none (fun Q1 q1 => ?_) q) fun H7 b7 => ?_
      · refine ⟨_, rfl, nm, rfl, n8, ok.up, fun H7 l b7 nl fl => ?_⟩
        refine ⟨l, rfl, ⟨_, SqL.of fl⟩, fun D hD => ?_⟩
        refine turns (walk_list (K := K) (a := l) (xs := svs (headsL nm))) (fun i H' => But [] H7 H' ∧ H' D = some (.lst [])) ⟨newB hD, upd_same⟩ (fun i H' _ e => SqL.of (e.1.at fl)) (fun i x H8 H8' hi e yy => ?_) (fun H' e => ?_)
        · obtain ⟨rfl, hx⟩ := yy
          obtain ⟨hh, hhh, rfl⟩ := svs_get hx
          obtain ⟨t1, t2⟩ := ok.hd hh (List.mem_of_getElem? hhh)
          have b68 := b7.trans e.1
          refine ⟨rfl, _, rfl, _, rfl, szl (by simp), fun p1 hp1 => ?_⟩
          have bp := newB (o := .lst [sv hh]) hp1
          have fp : (upd H8' p1 (.lst [sv hh])) p1 = some (.lst (svs [hh])) := upd_same
          generalize upd H8' p1 (.lst [sv hh]) = H9 at bp fp
          have b69 := b68.trans bp
          refine ⟨_, rfl, p1, ta, _, _, rfl, rfl, fp, b69.at f6, szl (by rw [svs_len, svs_len]; exact Nat.le_of_ble_eq_true rfl), fun p2 hp2 => ?_⟩
          have bq := newB (o := .lst (svs [hh] ++ svs tailH)) hp2
          have fq : (upd H9 p2 (.lst (svs [hh] ++ svs tailH))) p2 = some (.lst (svs (hh :: tailH))) := upd_same
          generalize upd H9 p2 (.lst (svs [hh] ++ svs tailH)) = H10 at bq fq
          have b610 := b69.trans bq
          have sz : ((hh :: tailH).map List.length).sum + (hh :: tailH).length ≤ 900000 := by
            rw [List.map_cons, List.sum_cons, List.length_cons]
            have : (tailH.map List.length).sum = 21 := by decide
            have : tailH.length = 3 := rfl
            omega
          refine ⟨sa, p2, ts12, hh :: tailH, rfl, hsc6.fixR T.nT T.nS (b610.fix0 (CR := CR)), wf12, fq, sz, fun H11 b11 => ?_⟩
          rw [t1]
          refine ⟨rfl, _, rfl, iteF ⟨((e.1.trans bp).trans bq).trans b11, (bq.trans b11).at (bp.at e.2)⟩⟩
        · exact q1 D H' (b7.trans e.1) e.2
      have b07 := b06.trans b7
      try dsimp only
      show tFor (iTup _ (tTup _)) (gName _) _ _ _ _
      refine ⟨szl (by decide), fun wp nw => ?_⟩
      obtain ⟨H8, hH8⟩ : ∃ H8, H8 = upd H7 wp (.tup (svs tenW)) := ⟨_, rfl⟩
      have e8 : Ex H7 H8 := by rw [hH8]; exact Ex.new nw
      have fw : H8 wp = some (.tup (svs tenW)) := by rw [hH8]; exact upd_same
      have b08 := b07.trans (but_ex e8)
      have fw' : (upd H7 wp (.tup (svs tenW))) wp = some (.tup (svs tenW)) := upd_same
      refine ⟨wp, rfl, ⟨_, SqT.of fw'⟩, ?_⟩
      refine for_it (walk_tup (K := K) (a := wp) (xs := svs tenW)) (fun i σ H' => (∃ v2 v3 v4 v5 v6 v7 v8 v9, σ = [some (.ref a), some (.ref sa), v2, v3, v4, v5, v6, v7, v8, v9]) ∧ But [] H8 H') ⟨⟨_, _, _, _, _, _, _, _, rfl⟩, by rw [hH8]; exact But.refl⟩ (fun i σ H' _ e => SqT.of (e.2.at fw)) (fun i x σ H9 H9' hi ⟨⟨v2, v3, v4, v5, v6, v7, v8, v9, es⟩, b9⟩ yy => ?_) (fun σ H9 ⟨es, b9⟩ => ⟨es, b08.trans b9⟩)
      obtain ⟨rfl, hx⟩ := yy
      obtain ⟨wd, hwd, rfl⟩ := svs_get hx
      subst es
      have tk := List.all_eq_true.mp ten_ok wd (List.mem_of_getElem? hwd)
      rw [Bool.and_eq_true, decide_eq_true_eq] at tk
      obtain ⟨tk1, tk2⟩ := tk
      have b09 := b08.trans b9
      try dsimp only
      show tSeq (tAsg (tLst _) (gName _)) _ _ _ _
      refine s_lst (en_lst (L := tenR wd) (es_args (ev_cats (ev_lit rfl) (ev_var rfl) (by simp <;> omega)) (es_args (ev_cats (ev_lit rfl) (ev_var rfl) (by simp <;> omega)) (es_args (ev_cats (ev_cats (ev_lit rfl) (ev_var rfl) (by simp <;> omega)) (ev_lit rfl) (by simp <;> omega)) (es_args (ev_lit rfl) (es_args (ev_lit rfl) es_nil))))) (Nat.le_of_ble_eq_true rfl)) fun tr H10 n10 e10 f10 => ?_
      have b010 := b09.trans (but_ex e10)
      have sz : ((tenR wd).map List.length).sum + (tenR wd).length ≤ 900000 := by
        unfold tenR
        simp
        omega
      refine ⟨_, rfl, _, rfl, sa, tr, ts12, tenR wd, rfl, hsc.fixR T.nT T.nS (b010.fix0 (CR := CR)), wf12, f10, sz, fun H11 b11 => ?_⟩
      rw [isF_told tk1]
      exact ⟨rfl, _, rfl, iteF ⟨⟨_, _, _, _, _, _, _, _, rfl⟩, (b9.trans (but_ex e10)).trans b11⟩⟩
    · exact k H1
end
end Cn
set_option Elab.async false
set_option linter.all false
set_option maxRecDepth 100000
set_option maxHeartbeats 0
/-! the head: facts, the run, the end -/
namespace Cn
open PySem L2
abbrev Rw : PySem.W.OpenRow := PySem.W.OpenLaw.row PySem.Challenge.rw_countonce_k12_bounds_of_reports
def loose1 : List PySem.Str := ["CountError", "InvalidText", "UnknownTable", "HIGHEST", "is_name", "is_number", "Rows", "MOST_TABLES", "MOST_COLUMNS", "MOST_KEYS", "MOST_KEY_COLUMNS", "MOST_REFERENCES", "Table", "Schema", "optional_columns", "table_rows", "read_tables", "read_table", "read_columns", "read_keys", "are_different", "has_all", "read_references", "read_reference", "MOST_ALIASES"]
def loose2 : List PySem.Str := ["MOST_LINKS", "MOST_FILTERS", "MOST_GROUPS", "Report", "report_rows", "column_word", "column_of", "read_aliases", "read_links", "read_filters", "read_groups", "read_measure", "_law_feed", "_law_take", "_law_pick", "_law_schema", "_law_told", "_law_many", "_law_many_cases", "_law_order_cases", "_law_wrong_rows", "_law_cases", "_law_heads"]
def loose : List PySem.Str := loose1 ++ (loose2)
def fnAll : List He5.DefA := [
  ⟨(fun K => He.fAd K ("InvalidText", some "__init__")), "__init__", "InvalidText.__init__", defArgs s_InvalidText_init, defBody s_InvalidText_init, defScope s_InvalidText_init, [], []⟩,
  ⟨(fun K => He.fAd K ("UnknownTable", some "__init__")), "__init__", "UnknownTable.__init__", defArgs s_UnknownTable_init, defBody s_UnknownTable_init, defScope s_UnknownTable_init, [], []⟩,
  ⟨(fun K => He.fAd K ("is_name", none)), "is_name", "is_name", defArgs s_is_name, defBody s_is_name, defScope s_is_name, [], []⟩,
  ⟨(fun K => He.fAd K ("is_number", none)), "is_number", "is_number", defArgs s_is_number, defBody s_is_number, defScope s_is_number, [], []⟩,
  ⟨(fun K => He.fAd K ("Rows", some "__init__")), "__init__", "Rows.__init__", defArgs s_Rows_init, defBody s_Rows_init, defScope s_Rows_init, [], []⟩,
  ⟨(fun K => He.fAd K ("Rows", some "all_read")), "all_read", "Rows.all_read", defArgs s_Rows_all_read, defBody s_Rows_all_read, defScope s_Rows_all_read, [], []⟩,
  ⟨(fun K => He.fAd K ("Rows", some "begins")), "begins", "Rows.begins", defArgs s_Rows_begins, defBody s_Rows_begins, defScope s_Rows_begins, [], []⟩,
  ⟨(fun K => He.fAd K ("Rows", some "words")), "words", "Rows.words", defArgs s_Rows_words, defBody s_Rows_words, defScope s_Rows_words, [], []⟩,
  ⟨(fun K => He.fAd K ("Rows", some "need")), "need", "Rows.need", defArgs s_Rows_need, defBody s_Rows_need, defScope s_Rows_need, [], []⟩,
  ⟨(fun K => He.fAd K ("Rows", some "new_name")), "new_name", "Rows.new_name", defArgs s_Rows_new_name, defBody s_Rows_new_name, defScope s_Rows_new_name, [], []⟩,
  ⟨(fun K => He.fAd K ("Rows", some "exactly")), "exactly", "Rows.exactly", defArgs s_Rows_exactly, defBody s_Rows_exactly, defScope s_Rows_exactly, [], []⟩,
  ⟨(fun K => He.fAd K ("Rows", some "finish")), "finish", "Rows.finish", defArgs s_Rows_finish, defBody s_Rows_finish, defScope s_Rows_finish, [], []⟩,
  ⟨(fun K => He.fAd K ("Table", some "__init__")), "__init__", "Table.__init__", defArgs s_Table_init, defBody s_Table_init, defScope s_Table_init, [], []⟩,
  ⟨(fun K => He.fAd K ("Schema", some "__init__")), "__init__", "Schema.__init__", defArgs s_Schema_init, defBody s_Schema_init, defScope s_Schema_init, [], []⟩,
  ⟨(fun K => He5.wf K (He.ga K "Schema") "classmethod" "parse"), "parse", "Schema.parse", defArgs s_Schema_parse, defBody s_Schema_parse, defScope s_Schema_parse, [], []⟩,
  ⟨(fun K => He.fAd K ("Schema", some "table")), "table", "Schema.table", defArgs s_Schema_table, defBody s_Schema_table, defScope s_Schema_table, [], []⟩,
  ⟨(fun K => He.fAd K ("Schema", some "__str__")), "__str__", "Schema.__str__", defArgs s_Schema_str, defBody s_Schema_str, defScope s_Schema_str, [], []⟩,
  ⟨(fun K => He.fAd K ("Schema", some "__eq__")), "__eq__", "Schema.__eq__", defArgs s_Schema_eq, defBody s_Schema_eq, defScope s_Schema_eq, [], []⟩,
  ⟨(fun K => He.fAd K ("optional_columns", none)), "optional_columns", "optional_columns", defArgs s_optional_columns, defBody s_optional_columns, defScope s_optional_columns, [], []⟩,
  ⟨(fun K => He.fAd K ("table_rows", none)), "table_rows", "table_rows", defArgs s_table_rows, defBody s_table_rows, defScope s_table_rows, [], []⟩,
  ⟨(fun K => He.fAd K ("read_tables", none)), "read_tables", "read_tables", defArgs s_read_tables, defBody s_read_tables, defScope s_read_tables, [], []⟩,
  ⟨(fun K => He.fAd K ("read_table", none)), "read_table", "read_table", defArgs s_read_table, defBody s_read_table, defScope s_read_table, [], []⟩,
  ⟨(fun K => He.fAd K ("read_columns", none)), "read_columns", "read_columns", defArgs s_read_columns, defBody s_read_columns, defScope s_read_columns, [], []⟩,
  ⟨(fun K => He.fAd K ("read_keys", none)), "read_keys", "read_keys", defArgs s_read_keys, defBody s_read_keys, defScope s_read_keys, [], []⟩,
  ⟨(fun K => He.fAd K ("are_different", none)), "are_different", "are_different", defArgs s_are_different, defBody s_are_different, defScope s_are_different, [], []⟩,
  ⟨(fun K => He.fAd K ("has_all", none)), "has_all", "has_all", defArgs s_has_all, defBody s_has_all, defScope s_has_all, [], []⟩,
  ⟨(fun K => He.fAd K ("read_references", none)), "read_references", "read_references", defArgs s_read_references, defBody s_read_references, defScope s_read_references, [], []⟩,
  ⟨(fun K => He.fAd K ("read_reference", none)), "read_reference", "read_reference", defArgs s_read_reference, defBody s_read_reference, defScope s_read_reference, [], []⟩,
  ⟨(fun K => He.fAd K ("Report", some "__init__")), "__init__", "Report.__init__", defArgs s_Report_init, defBody s_Report_init, defScope s_Report_init, [], []⟩,
  ⟨(fun K => He5.wf K (He.ga K "Report") "classmethod" "parse"), "parse", "Report.parse", defArgs s_Report_parse, defBody s_Report_parse, defScope s_Report_parse, [], []⟩,
  ⟨(fun K => He.fAd K ("Report", some "__str__")), "__str__", "Report.__str__", defArgs s_Report_str, defBody s_Report_str, defScope s_Report_str, [], []⟩,
  ⟨(fun K => He.fAd K ("Report", some "__eq__")), "__eq__", "Report.__eq__", defArgs s_Report_eq, defBody s_Report_eq, defScope s_Report_eq, [], []⟩,
  ⟨(fun K => He.fAd K ("report_rows", none)), "report_rows", "report_rows", defArgs s_report_rows, defBody s_report_rows, defScope s_report_rows, [], []⟩,
  ⟨(fun K => He.fAd K ("column_word", none)), "column_word", "column_word", defArgs s_column_word, defBody s_column_word, defScope s_column_word, [], []⟩,
  ⟨(fun K => He.fAd K ("column_of", none)), "column_of", "column_of", defArgs s_column_of, defBody s_column_of, defScope s_column_of, [], []⟩,
  ⟨(fun K => He.fAd K ("read_aliases", none)), "read_aliases", "read_aliases", defArgs s_read_aliases, defBody s_read_aliases, defScope s_read_aliases, [], []⟩,
  ⟨(fun K => He.fAd K ("read_links", none)), "read_links", "read_links", defArgs s_read_links, defBody s_read_links, defScope s_read_links, [], []⟩,
  ⟨(fun K => He.fAd K ("read_filters", none)), "read_filters", "read_filters", defArgs s_read_filters, defBody s_read_filters, defScope s_read_filters, [], []⟩,
  ⟨(fun K => He.fAd K ("read_groups", none)), "read_groups", "read_groups", defArgs s_read_groups, defBody s_read_groups, defScope s_read_groups, [], []⟩,
  ⟨(fun K => He.fAd K ("read_measure", none)), "read_measure", "read_measure", defArgs s_read_measure, defBody s_read_measure, defScope s_read_measure, [], []⟩,
  ⟨(fun K => He.fAd K ("_law_feed", none)), "_law_feed", "_law_feed", defArgs s__law_feed, defBody s__law_feed, defScope s__law_feed, [], []⟩,
  ⟨(fun K => He.fAd K ("_law_take", none)), "_law_take", "_law_take", defArgs s__law_take, defBody s__law_take, defScope s__law_take, [], []⟩,
  ⟨(fun K => He.fAd K ("_law_pick", none)), "_law_pick", "_law_pick", defArgs s__law_pick, defBody s__law_pick, defScope s__law_pick, [], []⟩,
  ⟨(fun K => He.fAd K ("_law_schema", none)), "_law_schema", "_law_schema", defArgs s__law_schema, defBody s__law_schema, defScope s__law_schema, [], []⟩,
  ⟨(fun K => He.fAd K ("_law_told", none)), "_law_told", "_law_told", defArgs s__law_told, defBody s__law_told, defScope s__law_told, [], []⟩,
  ⟨(fun K => He.fAd K ("_law_many", none)), "_law_many", "_law_many", defArgs s__law_many, defBody s__law_many, defScope s__law_many, [], []⟩,
  ⟨(fun K => He.fAd K ("_law_many_cases", none)), "_law_many_cases", "_law_many_cases", defArgs s__law_many_cases, defBody s__law_many_cases, defScope s__law_many_cases, [], []⟩,
  ⟨(fun K => He.fAd K ("_law_order_cases", none)), "_law_order_cases", "_law_order_cases", defArgs s__law_order_cases, defBody s__law_order_cases, defScope s__law_order_cases, [], []⟩,
  ⟨(fun K => He.fAd K ("_law_wrong_rows", none)), "_law_wrong_rows", "_law_wrong_rows", defArgs s__law_wrong_rows, defBody s__law_wrong_rows, defScope s__law_wrong_rows, [], []⟩,
  ⟨(fun K => He.fAd K ("_law_cases", none)), "_law_cases", "_law_cases", defArgs s__law_cases, defBody s__law_cases, defScope s__law_cases, [], []⟩,
  ⟨(fun K => He.fAd K ("_law_heads", none)), "_law_heads", "_law_heads", defArgs s__law_heads, defBody s__law_heads, defScope s__law_heads, [], []⟩,
  ⟨(fun K => He.fAd K ("law", none)), "law", "law", defArgs s_law, defBody s_law, defScope s_law, [], []⟩]
def faAll : List He.Fa := [.free "len", .free "all", .free "any", .free "tuple", .free "list", .free "str", .free "set", .free "isinstance", .cls "Rows", .cls "Table", .cls "Schema", .noat "Rows" "_rows", .noat "Rows" "_at", .noat "Table" "name", .noat "Table" "columns", .noat "Table" "unique", .noat "Table" "refers", .noat "Schema" "tables", .noat "Schema" "_text", .glo "Schema", .glo "Table", .int "MOST_TABLES" 5, .int "MOST_COLUMNS" 5, .int "MOST_KEYS" 3, .int "MOST_KEY_COLUMNS" 3, .int "MOST_REFERENCES" 2, .free "int", .free "enumerate", .cls "Report", .noat "Report" "schema", .noat "Report" "name", .noat "Report" "aliases", .noat "Report" "links", .noat "Report" "filters", .noat "Report" "groups", .noat "Report" "measure", .noat "Report" "_text", .glo "Report", .int "HIGHEST" 1000000000, .int "MOST_ALIASES" 4, .int "MOST_LINKS" 20, .int "MOST_FILTERS" 5, .int "MOST_GROUPS" 3, .free "max", .free "min", .free "abs", .free "range", .glo "InvalidText", .glo "has_all", .glo "are_different", .glo "is_name", .mkr "Rows", .glo "Rows", .meth "Rows" "all_read", .meth "Rows" "begins", .meth "Rows" "words", .meth "Rows" "need", .meth "Rows" "new_name", .meth "Rows" "exactly", .glo "read_columns", .glo "read_keys", .glo "read_reference", .glo "read_references", .mkr "Table", .glo "read_table", .glo "read_tables", .glo "table_rows", .mkr "Schema", .meth "Schema" "__str__", .glo "is_number", .glo "optional_columns", .glo "column_word", .glo "column_of", .glo "read_aliases", .glo "read_links", .glo "read_filters", .glo "read_groups", .glo "read_measure", .glo "report_rows", .meth "Rows" "finish", .glo "UnknownTable", .meth "Schema" "table", .mkr "Report", .meth "Report" "__str__", .glo "_law_take", .glo "_law_feed", .glo "_law_pick", .glo "_law_told", .glo "_law_many", .glo "_law_schema", .glo "_law_many_cases", .glo "_law_order_cases", .glo "_law_wrong_rows", .glo "_law_cases", .glo "_law_heads", .glo "law"]
structure ExR (K : PySem.W.Frag) : Prop where
  oeI : (oexB K (He.ga K "InvalidText")) = true
  xiI : (xinitB K (He.ga K "InvalidText")) = true
  noI : (decide (PySem.W.findIn K (.ref (He.ga K "InvalidText")) "row" = some none)) = true
  rdS : (PySem.W.readsIn K (He.ga K "Schema") (.type "type")) = true
  wrS : (He5.wrapB K (He.ga K "Schema") "classmethod" "classmethod.__get__" "parse") = true
  wfS : (PySem.W.fnIn K (He5.wf K (He.ga K "Schema") "classmethod" "parse")) = true
  rdR : (PySem.W.readsIn K (He.ga K "Report") (.type "type")) = true
  wrR : (He5.wrapB K (He.ga K "Report") "classmethod" "classmethod.__get__" "parse") = true
  wfR : (PySem.W.fnIn K (He5.wf K (He.ga K "Report") "classmethod" "parse")) = true
  nT : (decide ((He.ga K "Table") ≠ (He.ga K "Rows"))) = true
  nS : (decide ((He.ga K "Schema") ≠ (He.ga K "Rows"))) = true
  nTS : (decide ((He.ga K "Table") ≠ (He.ga K "Schema"))) = true
  nP : (decide ((He.ga K "Report") ≠ (He.ga K "Rows"))) = true
  oeU : (oexB K (He.ga K "UnknownTable")) = true
  xiU : (xinitB K (He.ga K "UnknownTable")) = true
  noU : (decide (PySem.W.findIn K (.ref (He.ga K "UnknownTable")) "name" = some none)) = true
  xfI : (xfB K (He.ga K "InvalidText")) = true
  exI : (decide (PySem.W.exmOne K (.ref (He.ga K "InvalidText")) (.ref (He.ga K "InvalidText")) = some true)) = true
def exL (K : PySem.W.Frag) : Bool := oexB K (He.ga K "InvalidText") && (xinitB K (He.ga K "InvalidText") && (decide (PySem.W.findIn K (.ref (He.ga K "InvalidText")) "row" = some none) && (PySem.W.readsIn K (He.ga K "Schema") (.type "type") && (He5.wrapB K (He.ga K "Schema") "classmethod" "classmethod.__get__" "parse" && (PySem.W.fnIn K (He5.wf K (He.ga K "Schema") "classmethod" "parse") && (PySem.W.readsIn K (He.ga K "Report") (.type "type") && (He5.wrapB K (He.ga K "Report") "classmethod" "classmethod.__get__" "parse" && (PySem.W.fnIn K (He5.wf K (He.ga K "Report") "classmethod" "parse") && (decide ((He.ga K "Table") ≠ (He.ga K "Rows")) && (decide ((He.ga K "Schema") ≠ (He.ga K "Rows")) && (decide ((He.ga K "Table") ≠ (He.ga K "Schema")) && (decide ((He.ga K "Report") ≠ (He.ga K "Rows")) && (oexB K (He.ga K "UnknownTable") && (xinitB K (He.ga K "UnknownTable") && (decide (PySem.W.findIn K (.ref (He.ga K "UnknownTable")) "name" = some none) && (xfB K (He.ga K "InvalidText") && (decide (PySem.W.exmOne K (.ref (He.ga K "InvalidText")) (.ref (He.ga K "InvalidText")) = some true))))))))))))))))))
theorem exL_ok {K : PySem.W.Frag} (h : exL K = true) : ExR K := by
  unfold exL at h
  obtain ⟨h0, h⟩ := He.ba h
  obtain ⟨h1, h⟩ := He.ba h
  obtain ⟨h2, h⟩ := He.ba h
  obtain ⟨h3, h⟩ := He.ba h
  obtain ⟨h4, h⟩ := He.ba h
  obtain ⟨h5, h⟩ := He.ba h
  obtain ⟨h6, h⟩ := He.ba h
  obtain ⟨h7, h⟩ := He.ba h
  obtain ⟨h8, h⟩ := He.ba h
  obtain ⟨h9, h⟩ := He.ba h
  obtain ⟨h10, h⟩ := He.ba h
  obtain ⟨h11, h⟩ := He.ba h
  obtain ⟨h12, h⟩ := He.ba h
  obtain ⟨h13, h⟩ := He.ba h
  obtain ⟨h14, h⟩ := He.ba h
  obtain ⟨h15, h⟩ := He.ba h
  obtain ⟨h16, h⟩ := He.ba h
  exact ⟨h0, h1, h2, h3, h4, h5, h6, h7, h8, h9, h10, h11, h12, h13, h14, h15, h16, h⟩
def exK (K : PySem.W.Frag) : Bool := (faAll.all fun f => f.ok K) && exL K
structure Says (K : PySem.W.Frag) : Prop where
  fact : ∀ (i : Nat) {f : He.Fa}, faAll[i]? = some f → f.ok K = true
  ex : ExR K
  def_ : ∀ (i : Nat) {d : He5.DefA}, fnAll[i]? = some d → ∃ fd, L2.FunD K d.name d.qual d.params d.body d.scope (d.dvs K) (d.kws K) (d.at_ K) fd
theorem says_of {K : PySem.W.Frag} (c : SaysZ exK fnAll K) : Says K := by
  have c0 := He.ba (show (exK K && fnAll.all fun d => d.ok K) = true from congrArg (fun z : He.AlD => z.1) c)
  have c1 := He.ba (show ((faAll.all fun f => f.ok K) && exL K) = true from c0.1)
  refine ⟨fun i f h => List.all_eq_true.mp c1.1 f (List.mem_of_getElem? h), exL_ok c1.2, fun i d h => ?_⟩
  have e : fnAll.map (fun d => He5.fnA K (d.at_ K)) = fnAll.map He5.DefA.val := congrArg (fun z : He.AlD => z.2) c
  have e2 : (fnAll.map fun d => He5.fnA K (d.at_ K))[i]? = (fnAll.map He5.DefA.val)[i]? := by rw [e]
  rw [List.getElem?_map, List.getElem?_map, h] at e2
  exact He5.DefA.funD (Option.some.inj e2) (List.all_eq_true.mp c0.2 d (List.mem_of_getElem? h))
def d0 : He5.DefA := fnAll[0]
def d1 : He5.DefA := fnAll[1]
def d2 : He5.DefA := fnAll[2]
def d3 : He5.DefA := fnAll[3]
def d4 : He5.DefA := fnAll[4]
def d5 : He5.DefA := fnAll[5]
def d6 : He5.DefA := fnAll[6]
def d7 : He5.DefA := fnAll[7]
def d8 : He5.DefA := fnAll[8]
def d9 : He5.DefA := fnAll[9]
def d10 : He5.DefA := fnAll[10]
def d11 : He5.DefA := fnAll[11]
def d12 : He5.DefA := fnAll[12]
def d13 : He5.DefA := fnAll[13]
def d14 : He5.DefA := fnAll[14]
def d15 : He5.DefA := fnAll[15]
def d16 : He5.DefA := fnAll[16]
def d18 : He5.DefA := fnAll[18]
def d19 : He5.DefA := fnAll[19]
def d20 : He5.DefA := fnAll[20]
def d21 : He5.DefA := fnAll[21]
def d22 : He5.DefA := fnAll[22]
def d23 : He5.DefA := fnAll[23]
def d24 : He5.DefA := fnAll[24]
def d25 : He5.DefA := fnAll[25]
def d26 : He5.DefA := fnAll[26]
def d27 : He5.DefA := fnAll[27]
def d28 : He5.DefA := fnAll[28]
def d29 : He5.DefA := fnAll[29]
def d30 : He5.DefA := fnAll[30]
def d32 : He5.DefA := fnAll[32]
def d33 : He5.DefA := fnAll[33]
def d34 : He5.DefA := fnAll[34]
def d35 : He5.DefA := fnAll[35]
def d36 : He5.DefA := fnAll[36]
def d37 : He5.DefA := fnAll[37]
def d38 : He5.DefA := fnAll[38]
def d39 : He5.DefA := fnAll[39]
def d40 : He5.DefA := fnAll[40]
def d41 : He5.DefA := fnAll[41]
def d42 : He5.DefA := fnAll[42]
def d43 : He5.DefA := fnAll[43]
def d44 : He5.DefA := fnAll[44]
def d45 : He5.DefA := fnAll[45]
def d46 : He5.DefA := fnAll[46]
def d47 : He5.DefA := fnAll[47]
def d48 : He5.DefA := fnAll[48]
def d49 : He5.DefA := fnAll[49]
def d50 : He5.DefA := fnAll[50]
def d51 : He5.DefA := fnAll[51]
theorem facts {P : Program} {w : World} {K : PySem.W.Frag} {h : Heap} {mg : Str → Option Value} {f : Addr} (X : K.In h) (G : h.Ns mainGlobals mg) (hfa : mg ("law" : Str) = some (.ref f)) (c : Says K) :
    ∃ fd : FuncData, (∀ (s : Shared) (v : Value), BindsTo s fd ⟨[v], []⟩ [("script", v)]) ∧ ∀ base : Heap, K.In base → base.Ns mainGlobals mg → FnOk P w K mg base (L2.CX P w) 10 f fd ["script"] (sp_law K) := by
  obtain ⟨fdL, FL⟩ := c.def_ 51 (d := d51) rfl
  have eL := hfa.symm.trans (He.glo_ok X G (c.fact 95 rfl))
  cases eL
  have b := FunD.bindsA (ps := ["script"]) FL fun _ _ _ _ _ _ us hl => match us, hl with | [_], _ => rfl
  refine ⟨fdL, fun s v => b s [v] rfl, fun base _ _ => ?_⟩
  have e := c.ex
  have T0 : Txt K mg (He.ga K "Rows") (He.ga K "Table") (He.ga K "Schema") := {
    b_len := (He.free_ok X G (c.fact 0 rfl))
    b_all := (He.free_ok X G (c.fact 1 rfl))
    b_any := (He.free_ok X G (c.fact 2 rfl))
    b_tuple := (He.free_ok X G (c.fact 3 rfl))
    b_list := (He.free_ok X G (c.fact 4 rfl))
    b_str := (He.free_ok X G (c.fact 5 rfl))
    b_set := (He.free_ok X G (c.fact 6 rfl))
    b_isinstance := (He.free_ok X G (c.fact 7 rfl))
    clR := (He.cls_ok (c.fact 8 rfl))
    clT := (He.cls_ok (c.fact 9 rfl))
    clS := (He.cls_ok (c.fact 10 rfl))
    naR1 := (He.noat_ok (c.fact 11 rfl))
    naR2 := (He.noat_ok (c.fact 12 rfl))
    naT1 := (He.noat_ok (c.fact 13 rfl))
    naT2 := (He.noat_ok (c.fact 14 rfl))
    naT3 := (He.noat_ok (c.fact 15 rfl))
    naT4 := (He.noat_ok (c.fact 16 rfl))
    naS1 := (He.noat_ok (c.fact 17 rfl))
    naS2 := (He.noat_ok (c.fact 18 rfl))
    g_Schema := (He.glo_ok X G (c.fact 19 rfl))
    g_Table := (He.glo_ok X G (c.fact 20 rfl))
    g_MOST_TABLES := (He.int_ok X G (c.fact 21 rfl))
    g_MOST_COLUMNS := (He.int_ok X G (c.fact 22 rfl))
    g_MOST_KEYS := (He.int_ok X G (c.fact 23 rfl))
    g_MOST_KEY_COLUMNS := (He.int_ok X G (c.fact 24 rfl))
    g_MOST_REFERENCES := (He.int_ok X G (c.fact 25 rfl))
    nT := of_decide_eq_true e.nT, nS := of_decide_eq_true e.nS, nTS := of_decide_eq_true e.nTS }
  have T1 : TxR K mg (He.ga K "Rows") (He.ga K "Table") (He.ga K "Schema") (He.ga K "Report") := { T0 with
    b_int := (He.free_ok X G (c.fact 26 rfl))
    b_enumerate := (He.free_ok X G (c.fact 27 rfl))
    clP := (He.cls_ok (c.fact 28 rfl))
    naP1 := (He.noat_ok (c.fact 29 rfl))
    naP2 := (He.noat_ok (c.fact 30 rfl))
    naP3 := (He.noat_ok (c.fact 31 rfl))
    naP4 := (He.noat_ok (c.fact 32 rfl))
    naP5 := (He.noat_ok (c.fact 33 rfl))
    naP6 := (He.noat_ok (c.fact 34 rfl))
    naP7 := (He.noat_ok (c.fact 35 rfl))
    naP8 := (He.noat_ok (c.fact 36 rfl))
    g_Report := (He.glo_ok X G (c.fact 37 rfl))
    g_HIGHEST := (He.int_ok X G (c.fact 38 rfl))
    g_MOST_ALIASES := (He.int_ok X G (c.fact 39 rfl))
    g_MOST_LINKS := (He.int_ok X G (c.fact 40 rfl))
    g_MOST_FILTERS := (He.int_ok X G (c.fact 41 rfl))
    g_MOST_GROUPS := (He.int_ok X G (c.fact 42 rfl))
    nP := of_decide_eq_true e.nP }
  have T2 : LTR K mg (He.ga K "Rows") (He.ga K "Table") (He.ga K "Schema") (He.ga K "Report") (He.ga K "InvalidText") := { T1 with
    b_max := (He.free_ok X G (c.fact 43 rfl))
    b_min := (He.free_ok X G (c.fact 44 rfl))
    b_abs := (He.free_ok X G (c.fact 45 rfl))
    b_range := (He.free_ok X G (c.fact 46 rfl))
    }
  have T3 : LT12 K mg (He.ga K "Rows") (He.ga K "Table") (He.ga K "Schema") (He.ga K "Report") (He.ga K "InvalidText") := { T2 with
    g_InvalidText := (He.glo_ok X G (c.fact 47 rfl))
    xf_row := xfB_ok e.xfI
    no_row := of_decide_eq_true e.noI
    exm := of_decide_eq_true e.exI }
  obtain ⟨fd25, F25⟩ := c.def_ 25 (d := d25) rfl
  have B25 : Binds K fd25 ["columns", "others"] [] := FunD.bindsN F25 fun _ _ _ _ _ _ us hl => match us, hl with | [_, _], _ => rfl
  have c_has_all : Cal P w K mg base 1 "has_all" (sp_has_all K) := ⟨_, fd25, _, (ok_has_all (P := P) (w := w) (base := base) (He5.fun_of F25) T0), (He.glo_ok X G (c.fact 48 rfl)), F25.kp, B25⟩
  obtain ⟨fd24, F24⟩ := c.def_ 24 (d := d24) rfl
  have B24 : Binds K fd24 ["words", "columns"] [] := FunD.bindsN F24 fun _ _ _ _ _ _ us hl => match us, hl with | [_, _], _ => rfl
  have c_are_different : Cal P w K mg base 2 "are_different" (sp_are_diff K) := ⟨_, fd24, _, (ok_are_diff (P := P) (w := w) (base := base) (He5.fun_of F24) T0 c_has_all), (He.glo_ok X G (c.fact 49 rfl)), F24.kp, B24⟩
  obtain ⟨fd2, F2⟩ := c.def_ 2 (d := d2) rfl
  have B2 : Binds K fd2 ["word"] [] := FunD.bindsN F2 fun _ _ _ _ _ _ us hl => match us, hl with | [_], _ => rfl
  have c_is_name : Cal P w K mg base 1 "is_name" sp_is_name := ⟨_, fd2, _, (ok_is_name (P := P) (w := w) (base := base) (He5.fun_of F2) T0), (He.glo_ok X G (c.fact 50 rfl)), F2.kp, B2⟩
  obtain ⟨fd0, F0⟩ := c.def_ 0 (d := d0) rfl
  have B0 : Binds K fd0 ["self", "row"] [] := FunD.bindsN F0 fun _ _ _ _ _ _ us hl => match us, hl with | [_, _], _ => rfl
  have x_InvalidText : Xn P w K mg base 1 "InvalidText" "row" (He.ga K "InvalidText") := ⟨oexB_ok e.oeI, (He.glo_ok X G (c.fact 47 rfl)), _, fd0, _, of_decide_eq_true (He.ba e.xiI).1, of_decide_eq_true (He.ba e.xiI).2, (ok_InvalidText_init (P := P) (w := w) (base := base) (He5.fun_of F0) (oexB_ok e.oeI) (of_decide_eq_true e.noI)), B0⟩
  obtain ⟨fd4, F4⟩ := c.def_ 4 (d := d4) rfl
  have B4 : Binds K fd4 ["self", "text"] [] := FunD.bindsN F4 fun _ _ _ _ _ _ us hl => match us, hl with | [_, _], _ => rfl
  have m_Rows : Mak P w K mg base 1 "Rows" (He.ga K "Rows") (sp_Rows_init (He.ga K "Rows")) := ⟨_, fd4, _, He.mkr_ok (c.fact 51 rfl), (ok_Rows_init (P := P) (w := w) (base := base) (He5.fun_of F4) T0), (He.glo_ok X G (c.fact 52 rfl)), B4⟩
  obtain ⟨fd5, F5⟩ := c.def_ 5 (d := d5) rfl
  have B5 : Binds K fd5 ["self"] [] := FunD.bindsN F5 fun _ _ _ _ _ _ us hl => match us, hl with | [_], _ => rfl
  have c_Rows_all_read : Met P w K mg base 1 (He.ga K "Rows") "all_read" (sp_all_read (He.ga K "Rows")) := ⟨_, fd5, _, (He.cls_ok (c.fact 8 rfl)), He.meth_ok (c.fact 53 rfl), (ok_all_read (P := P) (w := w) (base := base) (He5.fun_of F5) T0), B5⟩
  obtain ⟨fd6, F6⟩ := c.def_ 6 (d := d6) rfl
  have B6 : Binds K fd6 ["self", "start"] [] := FunD.bindsN F6 fun _ _ _ _ _ _ us hl => match us, hl with | [_, _], _ => rfl
  have c_Rows_begins : Met P w K mg base 2 (He.ga K "Rows") "begins" (sp_begins (He.ga K "Rows")) := ⟨_, fd6, _, (He.cls_ok (c.fact 8 rfl)), He.meth_ok (c.fact 54 rfl), (ok_begins (P := P) (w := w) (base := base) (He5.fun_of F6) T0 c_Rows_all_read), B6⟩
  obtain ⟨fd7, F7⟩ := c.def_ 7 (d := d7) rfl
  have B7 : Binds K fd7 ["self", "start"] [] := FunD.bindsN F7 fun _ _ _ _ _ _ us hl => match us, hl with | [_, _], _ => rfl
  have c_Rows_words : Met P w K mg base 3 (He.ga K "Rows") "words" (sp_words (He.ga K "Rows") (He.ga K "InvalidText")) := ⟨_, fd7, _, (He.cls_ok (c.fact 8 rfl)), He.meth_ok (c.fact 55 rfl), (ok_words (P := P) (w := w) (base := base) (He5.fun_of F7) T0 c_Rows_begins x_InvalidText), B7⟩
  obtain ⟨fd8, F8⟩ := c.def_ 8 (d := d8) rfl
  have B8 : Binds K fd8 ["self", "holds"] [] := FunD.bindsN F8 fun _ _ _ _ _ _ us hl => match us, hl with | [_, _], _ => rfl
  have c_Rows_need : Met P w K mg base 3 (He.ga K "Rows") "need" (sp_need (He.ga K "Rows") (He.ga K "InvalidText")) := ⟨_, fd8, _, (He.cls_ok (c.fact 8 rfl)), He.meth_ok (c.fact 56 rfl), (ok_need (P := P) (w := w) (base := base) (He5.fun_of F8) T0 x_InvalidText), B8⟩
  obtain ⟨fd9, F9⟩ := c.def_ 9 (d := d9) rfl
  have B9 : Binds K fd9 ["self", "start", "taken"] [] := FunD.bindsN F9 fun _ _ _ _ _ _ us hl => match us, hl with | [_, _, _], _ => rfl
  have c_Rows_new_name : Met P w K mg base 4 (He.ga K "Rows") "new_name" (sp_new_name K (He.ga K "Rows") (He.ga K "InvalidText")) := ⟨_, fd9, _, (He.cls_ok (c.fact 8 rfl)), He.meth_ok (c.fact 57 rfl), (ok_new_name (P := P) (w := w) (base := base) (He5.fun_of F9) T0 c_Rows_words c_Rows_need c_is_name), B9⟩
  obtain ⟨fd10, F10⟩ := c.def_ 10 (d := d10) rfl
  have B10 : Binds K fd10 ["self", "row"] [] := FunD.bindsN F10 fun _ _ _ _ _ _ us hl => match us, hl with | [_, _], _ => rfl
  have c_Rows_exactly : Met P w K mg base 3 (He.ga K "Rows") "exactly" (sp_exactly (He.ga K "Rows") (He.ga K "InvalidText")) := ⟨_, fd10, _, (He.cls_ok (c.fact 8 rfl)), He.meth_ok (c.fact 58 rfl), (ok_exactly (P := P) (w := w) (base := base) (He5.fun_of F10) T0 c_Rows_all_read x_InvalidText), B10⟩
  obtain ⟨fd22, F22⟩ := c.def_ 22 (d := d22) rfl
  have B22 : Binds K fd22 ["rows"] [] := FunD.bindsN F22 fun _ _ _ _ _ _ us hl => match us, hl with | [_], _ => rfl
  have c_read_columns : Cal P w K mg base 5 "read_columns" (sp_read_columns (He.ga K "Rows") (He.ga K "InvalidText")) := ⟨_, fd22, _, (ok_read_columns (P := P) (w := w) (base := base) (He5.fun_of F22) T0 c_Rows_begins c_Rows_need c_Rows_new_name), (He.glo_ok X G (c.fact 59 rfl)), F22.kp, B22⟩
  obtain ⟨fd23, F23⟩ := c.def_ 23 (d := d23) rfl
  have B23 : Binds K fd23 ["rows", "columns"] [] := FunD.bindsN F23 fun _ _ _ _ _ _ us hl => match us, hl with | [_, _], _ => rfl
  have c_read_keys : Cal P w K mg base 4 "read_keys" (sp_read_keys (He.ga K "Rows") (He.ga K "InvalidText")) := ⟨_, fd23, _, (ok_read_keys (P := P) (w := w) (base := base) (He5.fun_of F23) T0 c_Rows_begins c_Rows_need c_Rows_words c_are_different c_has_all), (He.glo_ok X G (c.fact 60 rfl)), F23.kp, B23⟩
  obtain ⟨fd27, F27⟩ := c.def_ 27 (d := d27) rfl
  have B27 : Binds K fd27 ["rows", "table", "above"] [] := FunD.bindsN F27 fun _ _ _ _ _ _ us hl => match us, hl with | [_, _, _], _ => rfl
  have c_read_reference : Cal P w K mg base 4 "read_reference" (sp_read_reference (He.ga K "Rows") (He.ga K "Table") (He.ga K "InvalidText")) := ⟨_, fd27, _, (ok_read_reference (P := P) (w := w) (base := base) (He5.fun_of F27) T0 c_Rows_begins c_Rows_need c_Rows_words c_are_different), (He.glo_ok X G (c.fact 61 rfl)), F27.kp, B27⟩
  obtain ⟨fd26, F26⟩ := c.def_ 26 (d := d26) rfl
  have B26 : Binds K fd26 ["rows", "table", "above"] [] := FunD.bindsN F26 fun _ _ _ _ _ _ us hl => match us, hl with | [_, _, _], _ => rfl
  have c_read_references : Cal P w K mg base 5 "read_references" (sp_read_references (He.ga K "Rows") (He.ga K "Table") (He.ga K "InvalidText")) := ⟨_, fd26, _, (ok_read_references (P := P) (w := w) (base := base) (He5.fun_of F26) T0 c_Rows_begins c_Rows_need c_read_reference), (He.glo_ok X G (c.fact 62 rfl)), F26.kp, B26⟩
  obtain ⟨fd12, F12⟩ := c.def_ 12 (d := d12) rfl
  have B12 : Binds K fd12 ["self", "name", "columns", "unique", "refers"] [] := FunD.bindsN F12 fun _ _ _ _ _ _ us hl => match us, hl with | [_, _, _, _, _], _ => rfl
  have m_Table : Mak P w K mg base 1 "Table" (He.ga K "Table") (sp_Table_init (He.ga K "Table")) := ⟨_, fd12, _, He.mkr_ok (c.fact 63 rfl), (ok_Table_init (P := P) (w := w) (base := base) (He5.fun_of F12) T0), (He.glo_ok X G (c.fact 20 rfl)), B12⟩
  obtain ⟨fd21, F21⟩ := c.def_ 21 (d := d21) rfl
  have B21 : Binds K fd21 ["rows", "above"] [] := FunD.bindsN F21 fun _ _ _ _ _ _ us hl => match us, hl with | [_, _], _ => rfl
  have c_read_table : Cal P w K mg base 6 "read_table" (sp_read_table (He.ga K "Rows") (He.ga K "Table") (He.ga K "InvalidText")) := ⟨_, fd21, _, (ok_read_table (P := P) (w := w) (base := base) (He5.fun_of F21) T0 c_Rows_need c_Rows_new_name c_Rows_exactly c_read_columns c_read_keys c_read_references m_Table), (He.glo_ok X G (c.fact 64 rfl)), F21.kp, B21⟩
  obtain ⟨fd20, F20⟩ := c.def_ 20 (d := d20) rfl
  have B20 : Binds K fd20 ["rows"] [] := FunD.bindsN F20 fun _ _ _ _ _ _ us hl => match us, hl with | [_], _ => rfl
  have c_read_tables : Cal P w K mg base 7 "read_tables" (sp_read_tables (He.ga K "Rows") (He.ga K "Table") (He.ga K "InvalidText")) := ⟨_, fd20, _, (ok_read_tables (P := P) (w := w) (base := base) (He5.fun_of F20) T0 c_Rows_all_read c_read_table), (He.glo_ok X G (c.fact 65 rfl)), F20.kp, B20⟩
  obtain ⟨fd19, F19⟩ := c.def_ 19 (d := d19) rfl
  have B19 : Binds K fd19 ["table"] [] := FunD.bindsN F19 fun _ _ _ _ _ _ us hl => match us, hl with | [_], _ => rfl
  have c_table_rows : Cal P w K mg base 1 "table_rows" (sp_table_rows (He.ga K "Table")) := ⟨_, fd19, _, (ok_table_rows (P := P) (w := w) (base := base) (He5.fun_of F19) T0), (He.glo_ok X G (c.fact 66 rfl)), F19.kp, B19⟩
  obtain ⟨fd13, F13⟩ := c.def_ 13 (d := d13) rfl
  have B13 : Binds K fd13 ["self", "tables"] [] := FunD.bindsN F13 fun _ _ _ _ _ _ us hl => match us, hl with | [_, _], _ => rfl
  have m_Schema : Mak P w K mg base 2 "Schema" (He.ga K "Schema") (sp_Schema_init (He.ga K "Schema") (He.ga K "Table")) := ⟨_, fd13, _, He.mkr_ok (c.fact 67 rfl), (ok_Schema_init (P := P) (w := w) (base := base) (He5.fun_of F13) T0 c_table_rows), (He.glo_ok X G (c.fact 19 rfl)), B13⟩
  obtain ⟨fd14, F14⟩ := c.def_ 14 (d := d14) rfl
  have B14 : Binds K fd14 ["cls", "text"] [] := FunD.bindsN F14 fun _ _ _ _ _ _ us hl => match us, hl with | [_, _], _ => rfl
  have k_Schema_parse : CMt P w K mg base 8 (He.ga K "Schema") "parse" (sp_parse (He.ga K "Table") (He.ga K "Schema") (He.ga K "InvalidText")) := ⟨_, _, _, cread_of2 e.rdS, He5.cmet_of e.wrS e.wfS, (((ok_parse (P := P) (w := w) (base := base) (He5.fun_of F14) T0 m_Rows m_Schema c_read_tables).raw B14 .nil).imp fun vs H Q E h => by rw [List.append_nil]; exact h)⟩
  obtain ⟨fd16, F16⟩ := c.def_ 16 (d := d16) rfl
  have B16 : Binds K fd16 ["self"] [] := FunD.bindsN F16 fun _ _ _ _ _ _ us hl => match us, hl with | [_], _ => rfl
  have c_Schema_str : Met P w K mg base 1 (He.ga K "Schema") "__str__" (sp_str (He.ga K "Table") (He.ga K "Schema")) := ⟨_, fd16, _, (He.cls_ok (c.fact 10 rfl)), He.meth_ok (c.fact 68 rfl), (ok_str (P := P) (w := w) (base := base) (He5.fun_of F16) T0), B16⟩
  obtain ⟨fd3, F3⟩ := c.def_ 3 (d := d3) rfl
  have B3 : Binds K fd3 ["word"] [] := FunD.bindsN F3 fun _ _ _ _ _ _ us hl => match us, hl with | [_], _ => rfl
  have c_is_number : Cal P w K mg base 1 "is_number" sp_is_number := ⟨_, fd3, _, (ok_is_number (P := P) (w := w) (base := base) (He5.fun_of F3) T1), (He.glo_ok X G (c.fact 69 rfl)), F3.kp, B3⟩
  obtain ⟨fd18, F18⟩ := c.def_ 18 (d := d18) rfl
  have B18 : Binds K fd18 ["table"] [] := FunD.bindsN F18 fun _ _ _ _ _ _ us hl => match us, hl with | [_], _ => rfl
  have c_optional_columns : Cal P w K mg base 1 "optional_columns" (sp_optcols (He.ga K "Table")) := ⟨_, fd18, _, (ok_optcols (P := P) (w := w) (base := base) (He5.fun_of F18) T1), (He.glo_ok X G (c.fact 70 rfl)), F18.kp, B18⟩
  obtain ⟨fd33, F33⟩ := c.def_ 33 (d := d33) rfl
  have B33 : Binds K fd33 ["column"] [] := FunD.bindsN F33 fun _ _ _ _ _ _ us hl => match us, hl with | [_], _ => rfl
  have c_column_word : Cal P w K mg base 1 "column_word" sp_colword := ⟨_, fd33, _, (ok_colword (P := P) (w := w) (base := base) (He5.fun_of F33) T1), (He.glo_ok X G (c.fact 71 rfl)), F33.kp, B33⟩
  obtain ⟨fd34, F34⟩ := c.def_ 34 (d := d34) rfl
  have B34 : Binds K fd34 ["word", "tables"] [] := FunD.bindsN F34 fun _ _ _ _ _ _ us hl => match us, hl with | [_, _], _ => rfl
  have c_column_of : Cal P w K mg base 1 "column_of" (sp_colof (He.ga K "Table")) := ⟨_, fd34, _, (ok_colof (P := P) (w := w) (base := base) (He5.fun_of F34) T1), (He.glo_ok X G (c.fact 72 rfl)), F34.kp, B34⟩
  obtain ⟨fd35, F35⟩ := c.def_ 35 (d := d35) rfl
  have B35 : Binds K fd35 ["rows", "schema"] [] := FunD.bindsN F35 fun _ _ _ _ _ _ us hl => match us, hl with | [_, _], _ => rfl
  have c_read_aliases : Cal P w K mg base 4 "read_aliases" (sp_readal (He.ga K "Rows") (He.ga K "Table") (He.ga K "Schema") (He.ga K "InvalidText")) := ⟨_, fd35, _, (ok_readal (P := P) (w := w) (base := base) (He5.fun_of F35) T1 c_Rows_begins c_Rows_need c_Rows_words c_is_name), (He.glo_ok X G (c.fact 73 rfl)), F35.kp, B35⟩
  obtain ⟨fd36, F36⟩ := c.def_ 36 (d := d36) rfl
  have B36 : Binds K fd36 ["rows", "tables"] [] := FunD.bindsN F36 fun _ _ _ _ _ _ us hl => match us, hl with | [_, _], _ => rfl
  have c_read_links : Cal P w K mg base 4 "read_links" (sp_readlinks (He.ga K "Rows") (He.ga K "Table") (He.ga K "InvalidText")) := ⟨_, fd36, _, (ok_readlinks (P := P) (w := w) (base := base) (He5.fun_of F36) T1 c_Rows_begins c_Rows_need c_Rows_words c_column_of), (He.glo_ok X G (c.fact 74 rfl)), F36.kp, B36⟩
  obtain ⟨fd37, F37⟩ := c.def_ 37 (d := d37) rfl
  have B37 : Binds K fd37 ["rows", "tables"] [] := FunD.bindsN F37 fun _ _ _ _ _ _ us hl => match us, hl with | [_, _], _ => rfl
  have c_read_filters : Cal P w K mg base 4 "read_filters" (sp_readfil (He.ga K "Rows") (He.ga K "Table") (He.ga K "InvalidText")) := ⟨_, fd37, _, (ok_readfil (P := P) (w := w) (base := base) (He5.fun_of F37) T1 c_Rows_begins c_Rows_need c_Rows_words c_is_number c_column_of), (He.glo_ok X G (c.fact 75 rfl)), F37.kp, B37⟩
  obtain ⟨fd38, F38⟩ := c.def_ 38 (d := d38) rfl
  have B38 : Binds K fd38 ["rows", "tables"] [] := FunD.bindsN F38 fun _ _ _ _ _ _ us hl => match us, hl with | [_, _], _ => rfl
  have c_read_groups : Cal P w K mg base 4 "read_groups" (sp_readgrp (He.ga K "Rows") (He.ga K "Table") (He.ga K "InvalidText")) := ⟨_, fd38, _, (ok_readgrp (P := P) (w := w) (base := base) (He5.fun_of F38) T1 c_Rows_begins c_Rows_need c_Rows_words c_column_of c_optional_columns), (He.glo_ok X G (c.fact 76 rfl)), F38.kp, B38⟩
  obtain ⟨fd39, F39⟩ := c.def_ 39 (d := d39) rfl
  have B39 : Binds K fd39 ["rows", "table"] [] := FunD.bindsN F39 fun _ _ _ _ _ _ us hl => match us, hl with | [_, _], _ => rfl
  have c_read_measure : Cal P w K mg base 4 "read_measure" (sp_readmea (He.ga K "Rows") (He.ga K "Table") (He.ga K "InvalidText")) := ⟨_, fd39, _, (ok_readmea (P := P) (w := w) (base := base) (He5.fun_of F39) T1 c_Rows_begins c_Rows_need c_Rows_words c_Rows_exactly c_optional_columns), (He.glo_ok X G (c.fact 77 rfl)), F39.kp, B39⟩
  obtain ⟨fd32, F32⟩ := c.def_ 32 (d := d32) rfl
  have B32 : Binds K fd32 ["report"] [] := FunD.bindsN F32 fun _ _ _ _ _ _ us hl => match us, hl with | [_], _ => rfl
  have c_report_rows : Cal P w K mg base 2 "report_rows" (sp_reprows (He.ga K "Report")) := ⟨_, fd32, _, (ok_reprows (P := P) (w := w) (base := base) (He5.fun_of F32) T1 c_column_word), (He.glo_ok X G (c.fact 78 rfl)), F32.kp, B32⟩
  obtain ⟨fd11, F11⟩ := c.def_ 11 (d := d11) rfl
  have B11 : Binds K fd11 ["self"] [] := FunD.bindsN F11 fun _ _ _ _ _ _ us hl => match us, hl with | [_], _ => rfl
  have c_Rows_finish : Met P w K mg base 3 (He.ga K "Rows") "finish" (sp_finish (He.ga K "Rows") (He.ga K "InvalidText")) := ⟨_, fd11, _, (He.cls_ok (c.fact 8 rfl)), He.meth_ok (c.fact 79 rfl), (ok_finish (P := P) (w := w) (base := base) (He5.fun_of F11) T1 c_Rows_all_read x_InvalidText), B11⟩
  obtain ⟨fd1, F1⟩ := c.def_ 1 (d := d1) rfl
  have B1 : Binds K fd1 ["self", "name"] [] := FunD.bindsN F1 fun _ _ _ _ _ _ us hl => match us, hl with | [_, _], _ => rfl
  have x_UnknownTable : Xn P w K mg base 1 "UnknownTable" "name" (He.ga K "UnknownTable") := ⟨oexB_ok e.oeU, (He.glo_ok X G (c.fact 80 rfl)), _, fd1, _, of_decide_eq_true (He.ba e.xiU).1, of_decide_eq_true (He.ba e.xiU).2, (ok_UnknownTable_initR (P := P) (w := w) (base := base) (He5.fun_of F1) (oexB_ok e.oeU) (of_decide_eq_true e.noU)), B1⟩
  obtain ⟨fd15, F15⟩ := c.def_ 15 (d := d15) rfl
  have B15 : Binds K fd15 ["self", "name"] [] := FunD.bindsN F15 fun _ _ _ _ _ _ us hl => match us, hl with | [_, _], _ => rfl
  have c_Schema_table : Met P w K mg base 3 (He.ga K "Schema") "table" (sp_tableR (He.ga K "Table") (He.ga K "Schema") (He.ga K "UnknownTable")) := ⟨_, fd15, _, (He.cls_ok (c.fact 10 rfl)), He.meth_ok (c.fact 81 rfl), (ok_tableR (P := P) (w := w) (base := base) (He5.fun_of F15) T1 x_UnknownTable), B15⟩
  obtain ⟨fd28, F28⟩ := c.def_ 28 (d := d28) rfl
  have B28 : Binds K fd28 ["self", "schema", "name", "aliases", "links", "filters", "groups", "measure"] [] := FunD.bindsN F28 fun _ _ _ _ _ _ us hl => match us, hl with | [_, _, _, _, _, _, _, _], _ => rfl
  have m_Report : Mak P w K mg base 3 "Report" (He.ga K "Report") (sp_Report_init (He.ga K "Report")) := ⟨_, fd28, _, He.mkr_ok (c.fact 82 rfl), (ok_Report_init (P := P) (w := w) (base := base) (He5.fun_of F28) T1 c_report_rows), (He.glo_ok X G (c.fact 37 rfl)), B28⟩
  obtain ⟨fd30, F30⟩ := c.def_ 30 (d := d30) rfl
  have B30 : Binds K fd30 ["self"] [] := FunD.bindsN F30 fun _ _ _ _ _ _ us hl => match us, hl with | [_], _ => rfl
  have c_Report_str : Met P w K mg base 1 (He.ga K "Report") "__str__" (sp_Rstr (He.ga K "Report")) := ⟨_, fd30, _, (He.cls_ok (c.fact 28 rfl)), He.meth_ok (c.fact 83 rfl), (ok_Report_str (P := P) (w := w) (base := base) (He5.fun_of F30) T1), B30⟩
  obtain ⟨fd29, F29⟩ := c.def_ 29 (d := d29) rfl
  have B29 : Binds K fd29 ["cls", "schema", "text"] [] := FunD.bindsN F29 fun _ _ _ _ _ _ us hl => match us, hl with | [_, _, _], _ => rfl
  have k_Report_parse : CMt P w K mg base 5 (He.ga K "Report") "parse" (sp_Rparse (He.ga K "Table") (He.ga K "Schema") (He.ga K "Report") (He.ga K "InvalidText")) := ⟨_, _, _, cread_of2 e.rdR, He5.cmet_of e.wrR e.wfR, (((ok_Rparse (P := P) (w := w) (base := base) (He5.fun_of F29) T1 m_Rows m_Report c_Rows_new_name c_Rows_exactly c_Rows_finish c_Schema_table c_read_aliases c_read_links c_read_filters c_read_groups c_read_measure).raw B29 .nil).imp fun vs H Q E h => by rw [List.append_nil]; exact h)⟩
  obtain ⟨fd41, F41⟩ := c.def_ 41 (d := d41) rfl
  have B41 : Binds K fd41 ["feed", "size"] [] := FunD.bindsN F41 fun _ _ _ _ _ _ us hl => match us, hl with | [_, _], _ => rfl
  have c__law_take : Cal P w K mg base 1 "_law_take" sp_take := ⟨_, fd41, _, (ok_take (P := P) (w := w) (base := base) (He5.fun_of F41) T2), (He.glo_ok X G (c.fact 84 rfl)), F41.kp, B41⟩
  obtain ⟨fd40, F40⟩ := c.def_ 40 (d := d40) rfl
  have B40 : Binds K fd40 ["script", "k"] [] := FunD.bindsN F40 fun _ _ _ _ _ _ us hl => match us, hl with | [_, _], _ => rfl
  have c__law_feed : Cal P w K mg base 1 "_law_feed" (sp_feed K) := ⟨_, fd40, _, (ok_feed (P := P) (w := w) (base := base) (He5.fun_of F40) T2), (He.glo_ok X G (c.fact 85 rfl)), F40.kp, B40⟩
  obtain ⟨fd42, F42⟩ := c.def_ 42 (d := d42) rfl
  have B42 : Binds K fd42 ["feed", "choices"] [] := FunD.bindsN F42 fun _ _ _ _ _ _ us hl => match us, hl with | [_, _], _ => rfl
  have c__law_pick : Cal P w K mg base 2 "_law_pick" sp_pick := ⟨_, fd42, _, (ok_pick (P := P) (w := w) (base := base) (He5.fun_of F42) T2 c__law_take), (He.glo_ok X G (c.fact 86 rfl)), F42.kp, B42⟩
  obtain ⟨fd44, F44⟩ := c.def_ 44 (d := d44) rfl
  have B44 : Binds K fd44 ["schema", "rows"] [] := FunD.bindsN F44 fun _ _ _ _ _ _ us hl => match us, hl with | [_, _], _ => rfl
  have c__law_told : Cal P w K mg base 6 "_law_told" (sp_toldR (He.ga K "Table") (He.ga K "Schema")) := ⟨_, fd44, _, (ok_toldR (P := P) (w := w) (base := base) (He5.fun_of F44) T3 k_Report_parse c_Report_str), (He.glo_ok X G (c.fact 87 rfl)), F44.kp, B44⟩
  obtain ⟨fd45, F45⟩ := c.def_ 45 (d := d45) rfl
  have B45 : Binds K fd45 ["size", "row"] [] := FunD.bindsN F45 fun _ _ _ _ _ _ us hl => match us, hl with | [_, _], _ => rfl
  have c__law_many : Cal P w K mg base 1 "_law_many" sp_many := ⟨_, fd45, _, (ok_many (P := P) (w := w) (base := base) (He5.fun_of F45) T3), (He.glo_ok X G (c.fact 88 rfl)), F45.kp, B45⟩
  obtain ⟨fd43, F43⟩ := c.def_ 43 (d := d43) rfl
  have B43 : Binds K fd43 [] [] := FunD.bindsN F43 fun _ _ _ _ _ _ us hl => match us, hl with | [], _ => rfl
  have c__law_schema : Cal P w K mg base 9 "_law_schema" (sp_schema12 (He.ga K "Table") (He.ga K "Schema")) := ⟨_, fd43, _, (ok_schema12 (P := P) (w := w) (base := base) (He5.fun_of F43) T3 k_Schema_parse), (He.glo_ok X G (c.fact 89 rfl)), F43.kp, B43⟩
  obtain ⟨fd46, F46⟩ := c.def_ 46 (d := d46) rfl
  have B46 : Binds K fd46 ["name"] [] := FunD.bindsN F46 fun _ _ _ _ _ _ us hl => match us, hl with | [_], _ => rfl
  have c__law_many_cases : Cal P w K mg base 2 "_law_many_cases" (sp_cases manyC8) := ⟨_, fd46, _, (ok_many_cases (P := P) (w := w) (base := base) (He5.fun_of F46) T3 c__law_many), (He.glo_ok X G (c.fact 90 rfl)), F46.kp, B46⟩
  obtain ⟨fd47, F47⟩ := c.def_ 47 (d := d47) rfl
  have B47 : Binds K fd47 ["name"] [] := FunD.bindsN F47 fun _ _ _ _ _ _ us hl => match us, hl with | [_], _ => rfl
  have c__law_order_cases : Cal P w K mg base 2 "_law_order_cases" (sp_cases orderC11) := ⟨_, fd47, _, (ok_order_cases (P := P) (w := w) (base := base) (He5.fun_of F47) T3), (He.glo_ok X G (c.fact 91 rfl)), F47.kp, B47⟩
  obtain ⟨fd48, F48⟩ := c.def_ 48 (d := d48) rfl
  have B48 : Binds K fd48 [] [] := FunD.bindsN F48 fun _ _ _ _ _ _ us hl => match us, hl with | [], _ => rfl
  have c__law_wrong_rows : Cal P w K mg base 1 "_law_wrong_rows" sp_wrongRows := ⟨_, fd48, _, (ok_wrongRows (P := P) (w := w) (base := base) (He5.fun_of F48) T3), (He.glo_ok X G (c.fact 92 rfl)), F48.kp, B48⟩
  obtain ⟨fd49, F49⟩ := c.def_ 49 (d := d49) rfl
  have B49 : Binds K fd49 ["name"] [] := FunD.bindsN F49 fun _ _ _ _ _ _ us hl => match us, hl with | [_], _ => rfl
  have c__law_cases : Cal P w K mg base 3 "_law_cases" (sp_cases allC) := ⟨_, fd49, _, (ok_cases (P := P) (w := w) (base := base) (He5.fun_of F49) T3 c__law_many_cases c__law_order_cases c__law_wrong_rows), (He.glo_ok X G (c.fact 93 rfl)), F49.kp, B49⟩
  obtain ⟨fd50, F50⟩ := c.def_ 50 (d := d50) rfl
  have B50 : Binds K fd50 ["name"] [] := FunD.bindsN F50 fun _ _ _ _ _ _ us hl => match us, hl with | [_], _ => rfl
  have c__law_heads : Cal P w K mg base 1 "_law_heads" sp_heads := ⟨_, fd50, _, (ok_heads (P := P) (w := w) (base := base) (He5.fun_of F50) T3), (He.glo_ok X G (c.fact 94 rfl)), F50.kp, B50⟩
  exact (ok_law (P := P) (w := w) (base := base) (He5.fun_of FL) T3 c__law_schema c__law_feed c__law_take c__law_pick c__law_cases c__law_heads c__law_told)
end Cn
set_option Elab.async false
set_option linter.all false
set_option maxRecDepth 100000
set_option maxHeartbeats 0
namespace Cn
open PySem L2
def ob (s : PySem.W.SharedT) : He.AlD := obsZG 6 exK fnAll (HandSHeadRun.getT s)
theorem ob_eq (s : PySem.W.SharedT) : ob s = (hookZ 6 exK fnAll).obs s.abs := obsZ_eq (HandSHeadRun.getT_eq s)
theorem run (w : World) : HandSHeadRun.RunEq Rw (PySem.W.view Rw.prog [53]) (hookZ 6 exK fnAll) ob 6000 loose w := by
  intro os
  kernel_rfl
end Cn
set_option Elab.async false
set_option linter.all false
set_option maxRecDepth 100000
set_option maxHeartbeats 0
open PySem PySem.W PySem.Calls PyProof.Rows
theorem PySem.Challenge.cw_countonce_k12_bounds_of_reports_holds : PySem.Challenge.rw_countonce_k12_bounds_of_reports.Holds := by
  w_on; o_law
  refine HandSHeadRun.head_any (r := OpenLaw.row PySem.Challenge.rw_countonce_k12_bounds_of_reports) (q := view (OpenLaw.row PySem.Challenge.rw_countonce_k12_bounds_of_reports).prog [53]) (H := Cn.hookZ 6 Cn.exK Cn.fnAll) (ob := Cn.ob) (M := 6000) (loose := Cn.loose) (d := HandSHeadRun.topDef (OpenLaw.row PySem.Challenge.rw_countonce_k12_bounds_of_reports).prog 53) (kwd := []) Cn.ob_eq
    (by kernel_rfl) (fun s => by kernel_rfl) Cn.run (by kernel_rfl) (by kernel_rfl) (by kernel_rfl) (by rfl) (by first | assumption | decide +kernel) (by decide +kernel) ⟨rfl, rfl, rfl, rfl, rfl, by decide +kernel⟩ ?hw ?hc
  case hw => w_witness2
  case hc =>
    refine Cn.walkW (l := PySem.Challenge.rw_countonce_k12_bounds_of_reports) (n := 63) (k := 10) (x := "script") (CW := fun w => L2.CX (PySem.Challenge.rw_countonce_k12_bounds_of_reports).prog w) rfl (by decide) (by kernel_rfl) ⟨rfl, by decide, by decide⟩ ?F (fun _ _ _ _ _ h => by
      obtain ⟨_, _, _, _, _, _, _, _, _, _, _, _, z⟩ := h
      exact z.elim)
    intro w mg fa h Y G hmg0
    obtain ⟨K, KX, c⟩ := Y
    have hmg : mg ("law" : PySem.Str) = some (.ref fa) := by
      have e : (HandSHeadRun.topDef (OpenLaw.row PySem.Challenge.rw_countonce_k12_bounds_of_reports).prog 53).name = ("law" : PySem.Str) := by kernel_rfl
      rw [← e]
      exact hmg0
    obtain ⟨fd, hb, hF⟩ := Cn.facts (P := (PySem.Challenge.rw_countonce_k12_bounds_of_reports).prog) (w := w) KX G hmg (Cn.says_of c)
    exact ⟨K, fd, Cn.sp_law K, KX, hb, fun H a ns hl _ hS => ⟨a, ns, rfl, hS, fun _ => rfl⟩, hF⟩
