import PyProof.Rows.All
import Wide.All
import OpenK.AllK
import Wide.FinOn
import HandS.ForMost
import HandS.ForExc
import HandS.WordsExc
import HandS.Walk
import HandS.ExcInit
import HandS.ExcField
import HandS.ExcSuper
import HandS.TryMany
import HandS.CallSlots
import HandS.ClsMeth
import HandS.FStr
import HandS.IsInst
import HandS.OwnEq
import HandS.RaiseMore
import HandS.SetKeys
import HandS.Strs
import HandS.Zip
import HandS.Star
import HandS.Small
import HandS.Style
import HandS.Steps
import HandS.Defaults
import HandS.Head0
import HandS.Head1
import HandS.Head2
import HandS.Head3
import HandS.HeadEnd
import HandS.HeadHook1
import HandS.HeadHook2
import HandS.HeadNt
import HandS.ExcValue
import KE.KCallOwn
import KE.KStateDown
import KE.KExcInit
import HandS.Dict
import HandS.More
import KE.KExcIs
import HandS.ExcIs
import PyProof.ReprRoads
import PyProof.ReprLen
import HandS.TupSets
import HandS.Conv
import HandS.Iter
import HandS.DictComp
import PyProof.DictMoreH
import KE.KeyNested
import KE.GoesEnum
import KE.GoesMore
import HandS.Text
import HandS.Deep
import PyProof.P3In
import HandS.TupLen
import KE.KDictList
import HandS.TupAny
import HandS.ListItems
import HandS.TupMul
import HandS.TupLe
import PySem.Challenge.RW_countonce_k20_what_is_a_database
set_option Elab.async false
set_option linter.all false
set_option maxRecDepth 100000
set_option maxHeartbeats 2000000
/-! Cn: shared ground: calls by bundles, texts as lists of signs, heaps. -/
namespace Cn
open PySem L2

/-! ### calls -/
structure Cal (P : Program) (w : World) (K : PySem.W.Frag) (mg : Str → Option Value) (base : Heap) (k : Nat) (x : Str) (sp : Sp) : Prop where
  ex : ∃ (f : Addr) (fd : FuncData) (ps : List Str), FnOk P w K mg base (L2.CX P w) k f fd ps sp ∧ mg x = some (.ref f) ∧ PySem.W.keepIn K (.ref f) = true ∧ Binds K fd ps []
structure Met (P : Program) (w : World) (K : PySem.W.Frag) (mg : Str → Option Value) (base : Heap) (k : Nat) (C : Addr) (m : Str) (sp : Sp) : Prop where
  ex : ∃ (f : Addr) (fd : FuncData) (ps : List Str), Cls K C ∧ Meth K C m f ∧ FnOk P w K mg base (L2.CX P w) k f fd ps sp ∧ Binds K fd ps []
structure Mak (P : Program) (w : World) (K : PySem.W.Frag) (mg : Str → Option Value) (base : Heap) (k : Nat) (x : Str) (C : Addr) (sp : Sp) : Prop where
  ex : ∃ (f : Addr) (fd : FuncData) (ps : List Str), Mk K C f ∧ FnOk P w K mg base (L2.CX P w) k f fd ps sp ∧ mg x = some (.ref C) ∧ Binds K fd ps []
section
variable {X : Cx} {k j : Nat} {C : Addr} {x m : Str} {sp : Sp} {p pos apos : Pos} {e o : Expr} {es : List Expr} {ta : TE} {t : TA} {E : XK}
theorem passX (hs : X.stack = X.env :: X.outer) (hf : X.env.frame = some X.env.locals) (hex : X.ex = []) {E : XK}
    (tk : Takes X (fun c d _ H => E c d H)) : Passes (L2.CX X.prog X.w) X E := passes_call tk fun _ _ _ _ h => h
theorem p_call (E : XK) (c : Cal X.prog X.w X.K X.mg X.base k x sp) (hr : Room j X.A) (hk : k ≤ j) (hg : Gl X x) (hx : Passes (L2.CX X.prog X.w) X E) (ha : PA X (e :: es) t)
    (hdb : (x == ("__debug__" : Str)) = false := by decide) (he : starEach (e :: es) X.env = (false, eval e X.env) :: starEach es X.env := by rfl) (hpl : (backTo pos (starEach es X.env)).any (·.1) = false := by rfl) :
    PE X (.Call (.Name x p) (e :: es) [] pos) (tCall sp [] E t) := by
  obtain ⟨f, fd, ps, F, hm, kp, b⟩ := c.ex
  exact pe_call F (hr.mono hk) hg hm kp b .nil hx ha hdb he hpl
theorem p_call0 (E : XK) (c : Cal X.prog X.w X.K X.mg X.base k x sp) (hr : Room j X.A) (hk : k ≤ j) (hg : Gl X x) (hx : Passes (L2.CX X.prog X.w) X E)
    (hdb : (x == ("__debug__" : Str)) = false := by decide) : PE X (.Call (.Name x p) [] [] pos) (tCall sp [] E tNil) := by
  obtain ⟨f, fd, ps, F, hm, kp, b⟩ := c.ex
  exact pe_call0 F (hr.mono hk) hg hm kp b .nil hx hdb
theorem p_make (E : XK) (c : Mak X.prog X.w X.K X.mg X.base k x C sp) (hr : Room j X.A) (hk : k + 1 ≤ j) (hg : Gl X x) (hx : Passes (L2.CX X.prog X.w) X E) (ha : PA X (e :: es) t)
    (hdb : (x == ("__debug__" : Str)) = false := by decide) (he : starEach (e :: es) X.env = (false, eval e X.env) :: starEach es X.env := by rfl) (hpl : (backTo pos (starEach es X.env)).any (·.1) = false := by rfl) :
    PE X (.Call (.Name x p) (e :: es) [] pos) (tMake C sp [] E t) := by
  obtain ⟨f, fd, ps, M, F, hm, b⟩ := c.ex
  exact pe_make M F (hr.mono hk) hg hm b .nil hx ha hdb he hpl
theorem p_meth {pl : Sem Bool} (E : XK) (c : Met X.prog X.w X.K X.mg X.base k C m sp) (hr : Room j X.A) (hk : k ≤ j) (hx : Passes (L2.CX X.prog X.w) X E) (he : PE X o ta) (ha : PA X (e :: es) t)
    (hst : starEach (e :: es) X.env = (false, eval e X.env) :: starEach es X.env := by rfl) (hpl : (backTo pos (starEach es X.env)).any (·.1) = false := by rfl)
    (ht : eval (.Call (.Attribute o m apos) (e :: es) [] pos) X.env = (do
      let ov ← eval o X.env
      standAt apos.atName
      let (f, first) ← holding [ov] (getMethod ov m pl)
      callWith pos f first (backTo pos (starEach (e :: es) X.env)) (backToKw pos (keywordEach [] X.env))) := by rfl) :
    PE X (.Call (.Attribute o m apos) (e :: es) [] pos) (tMeth C m sp [] E ta t) := by
  obtain ⟨f, fd, ps, hc, hm, F, b⟩ := c.ex
  exact pe_meth (pl := pl) he hc hm F (hr.mono hk) b .nil hx ha hst hpl ht
theorem p_meth0 {pl : Sem Bool} (E : XK) (c : Met X.prog X.w X.K X.mg X.base k C m sp) (hr : Room j X.A) (hk : k ≤ j) (hx : Passes (L2.CX X.prog X.w) X E) (he : PE X o ta)
    (ht : eval (.Call (.Attribute o m apos) [] [] pos) X.env = (do
      let ov ← eval o X.env
      standAt apos.atName
      let (f, first) ← holding [ov] (getMethod ov m pl)
      callWith pos f first (backTo pos (starEach [] X.env)) (backToKw pos (keywordEach [] X.env))) := by rfl) :
    PE X (.Call (.Attribute o m apos) [] [] pos) (tMeth C m sp [] E ta tNil) := by
  obtain ⟨f, fd, ps, hc, hm, F, b⟩ := c.ex
  exact pe_meth0 (pl := pl) he hc hm F (hr.mono hk) b .nil hx ht
end
end Cn
set_option Elab.async false
set_option linter.all false
set_option maxRecDepth 100000
set_option maxHeartbeats 2000000
namespace Cn
open PySem L2

/-! ### heaps -/
/-- all that was tracked, but at l, is as it was -/
def But (l : List Addr) (H H' : Hp) : Prop := ∀ a o, a ∉ l → H a = some o → H' a = some o
theorem But.refl {l : List Addr} {H : Hp} : But l H H := fun _ _ _ h => h
theorem But.trans {l : List Addr} {H H1 H2 : Hp} (a : But l H H1) (b : But l H1 H2) : But l H H2 := fun x o n h => b x o n (a x o n h)
theorem But.of {l : List Addr} {H H' : Hp} (a : But [] H H') : But l H H' := fun x o _ h => a x o (by simp) h
theorem But.more {l m : List Addr} {H H' : Hp} (a : But l H H') (h : ∀ x ∈ l, x ∈ m) : But m H H' := fun x o n e => a x o (fun z => n (h x z)) e
theorem But.new {l : List Addr} {H H' : Hp} {p : Addr} {o : HO} (a : But l H H') (h : H' p = none) : But l H (upd H' p o) := fun x u n e => by
  rw [upd_ne (ne_of_none (a x u n e) h)]
  exact a x u n e
theorem But.put {l : List Addr} {H H' : Hp} {p : Addr} {o : HO} (a : But l H H') (h : p ∈ l) : But l H (upd H' p o) := fun x u n e => by
  rw [upd_ne (fun z => n (by rw [z]; exact h))]
  exact a x u n e
/-- a new object, changed afterwards -/
theorem But.put0 {l : List Addr} {H H' : Hp} {p : Addr} {o : HO} (a : But l H H') (h : H p = none) : But l H (upd H' p o) := fun x u n e => by
  rw [upd_ne (fun z => by rw [z, h] at e; cases e)]
  exact a x u n e
theorem But.drop {l : List Addr} {p : Addr} {H H' : Hp} (a : But (p :: l) H H') (h : H p = none) : But l H H' := fun x o n e => a x o (fun z => by
  rcases List.mem_cons.mp z with z | z
  · rw [z, h] at e; cases e
  · exact n z) e
theorem But.at {l : List Addr} {H H' : Hp} {a : Addr} {o : HO} (b : But l H H') (h : H a = some o) (n : a ∉ l := by simp) : H' a = some o := b a o n h
theorem But.same {H H' : Hp} (b : But [] H H') : Same H H' := fun a o h => b a o (by simp) h
theorem But.free {H H' : Hp} {l : List Addr} (b : But l H H') {p : Addr} (h : H' p = none) (n : p ∉ l) : H p = none := by
  cases e : H p with
  | none => rfl
  | some o => rw [b p o n e] at h; cases h
theorem not1 {a b : Addr} (h : a ≠ b) : a ∉ [b] := by simpa using h
theorem But.at1 {p : Addr} {H H' : Hp} {a : Addr} {o : HO} (b : But [p] H H') (h : H a = some o) (n : a ≠ p) : H' a = some o := b a o (not1 n) h

/-! ### texts as lists of signs -/
def S (l : List Nat) : Str := ⟨l.toArray⟩
theorem tl_S (l : List Nat) : TL.tl (S l) = l := rfl
theorem S_tl (x : Str) : S (TL.tl x) = x := TL.mk_tl x
theorem S_inj {a b : List Nat} (h : S a = S b) : a = b := by
  have := congrArg TL.tl h
  exact this
theorem S_len (l : List Nat) : (S l).length = l.length := by rw [TL.len_tl]; rfl
theorem S_app (a b : List Nat) : S a ++ S b = S (a ++ b) := TL.ext_tl (by rw [TL.tl_append]; rfl)
theorem S_eq (x : Str) {l : List Nat} (h : TL.tl x = l) : x = S l := by rw [← h, S_tl]
abbrev sv (l : List Nat) : V := .str (S l)
/-- a list of texts, as values -/
def svs (ls : List (List Nat)) : List V := ls.map sv
theorem svs_len (ls : List (List Nat)) : (svs ls).length = ls.length := by simp [svs]
theorem svs_get {ls : List (List Nat)} {i : Nat} {x : V} (h : (svs ls)[i]? = some x) : ∃ l, ls[i]? = some l ∧ x = sv l := by
  unfold svs at h
  rw [List.getElem?_map] at h
  cases e : ls[i]? with
  | none => rw [e] at h; cases h
  | some l => rw [e] at h; exact ⟨l, rfl, (Option.some.inj h).symm⟩
theorem svs_at {ls : List (List Nat)} {i : Nat} {l : List Nat} (h : ls[i]? = some l) : (svs ls)[i]? = some (sv l) := by
  unfold svs
  rw [List.getElem?_map, h]; rfl
theorem svs_app (a b : List (List Nat)) : svs (a ++ b) = svs a ++ svs b := by simp [svs]
theorem svs_str (ls : List (List Nat)) : svs ls = (ls.map S).map V.str := by simp [svs]

/-! ### names of the module -/
section
variable {X : Cx}
theorem p_gint {x : Str} {i : Int} {pos : Pos} (hm : ∃ t, X.mg x = some (.int i t)) (hg : Gl X x := by rfl) (hd : (x == ("__debug__" : Str)) = false := by decide) : PE X (.Name x pos) (tC (.int i)) := by
  obtain ⟨t, hm⟩ := hm
  exact pe_glob hg hm ⟨_, rfl⟩ hd
end

/-! ### errors of one field -/
/-- C's __init__: self.f = v -/
def sp_exinit (C : Addr) (f : Str) : Sp := fun vs H Q _ => ∃ a v, vs = [.ref a, v] ∧ H a = some (exo a C none) ∧ ∀ d, H d = none → d ≠ a → Q .non (upd (upd H d (exd d [(f, v)])) a (exo a C (some d)))
structure Xn (P : Program) (w : World) (K : PySem.W.Frag) (mg : Str → Option Value) (base : Heap) (k : Nat) (x f : Str) (C : Addr) : Prop where
  oex : OexC K C
  gC : mg x = some (.ref C)
  init : ∃ (fI : Addr) (fd : FuncData) (ps : List Str), PySem.W.findIn K (.ref C) "__init__" = some (some (.ref fI)) ∧ PySem.W.typeIn K (.ref fI) = some (.type "function") ∧
    FnOk P w K mg base (L2.CX P w) k fI fd ps (sp_exinit C f) ∧ Binds K fd ps []
section
variable {X : Cx} {k j : Nat} {C : Addr} {x f : Str} {p pos pos' : Pos} {e : Expr} {te : TE} {W : WX}
theorem pa_weak {es : List Expr} {t : TA} (ha : PA X es t) : PA X es (fun σ H R => ∃ M : List V → Hp → Prop, t σ H M ∧ ∀ vs H1, M vs H1 → R vs H1) :=
  ⟨fun pos pins s σ H Q I h => by
    obtain ⟨M, h1, h2⟩ := h
    exact thn (ha.run pos pins s σ H M I h1) fun us s1 ⟨vs, H1, I1, r, m⟩ => ⟨vs, H1, I1, r, h2 vs H1 m⟩⟩
theorem p_raise (T : Xn X.prog X.w X.K X.mg X.base k x f C) (hr : Room j X.A) (hk : k + 1 ≤ j) (tk : Takes X W) (hg : Gl X x) (ha : PA X [e] (tCons te tNil)) (hc : X.calm = true := by rfl)
    (hdb : (x == ("__debug__" : Str)) = false := by decide) (he : starEach [e] X.env = (false, eval e X.env) :: starEach [] X.env := by rfl) (hpl : (backTo pos (starEach [] X.env)).any (·.1) = false := by rfl) :
    PS X (.Raise (some (.Call (.Name x p) [e] [] pos)) none pos') (fun _ σ H => te σ H fun v H1 => ∀ H' d, But [] H1 H' → H1 d = none → H' d = some (.xd [(f, v)]) → W (.ref C) (some d) σ H') := by
  obtain ⟨fI, fd, ps, iC, tI, F1, b⟩ := T.init
  have r := ps_raise (pos := pos') hc tk (pmk_oex (p := p) (pos := pos) (ds := []) (dvs := []) T.oex iC tI F1 (hr.mono hk) b .nil passL hg T.gC (pa_weak ha) hdb he hpl)
  refine ⟨fun pins s σ H D I h => r.run pins s σ H D I ⟨fun vs H1 => ∃ v, vs = [v] ∧ ∀ H' d, But [] H1 H' → H1 d = none → H' d = some (.xd [(f, v)]) → W (.ref C) (some d) σ H', ?_, ?_⟩⟩
  · show te σ H fun v H1 => ∃ v', [v] = [v'] ∧ _
    have e1 : (fun (v : V) (H1 : Hp) => ∃ v', [v] = [v'] ∧ ∀ H' d, But [] H1 H' → H1 d = none → H' d = some (.xd [(f, v')]) → W (.ref C) (some d) σ H') = (fun v H1 => ∀ H' d, But [] H1 H' → H1 d = none → H' d = some (.xd [(f, v)]) → W (.ref C) (some d) σ H') := by
      funext v H1
      refine propext ⟨fun ⟨v', e, h⟩ => ?_, fun h => ⟨v, rfl, h⟩⟩
      cases e
      exact h
    rw [e1]
    exact h
  · rintro vs H1 ⟨v, rfl, q⟩
    refine ⟨by show 1 ≤ 1000; decide, fun a ha => ⟨a, v, rfl, upd_same, fun d hd hda => ⟨rfl, d, [(f, v)], upd_same, ?_, ?_, ?_⟩⟩⟩
    · rw [upd_ne hda, upd_same]
    · rw [upd_ne hda] at hd; exact hd
    · have hd1 : H1 d = none := by rw [upd_ne hda] at hd; exact hd
      refine q _ d (fun b o _ e => ?_) hd1 upd_same
      have nb : b ≠ a := ne_of_none e ha
      have nd : b ≠ d := ne_of_none e hd1
      rw [upd_ne nd, del_ne nb, upd_ne nb, upd_ne nd, upd_ne nb]
      exact e
end
end Cn
set_option Elab.async false
set_option linter.all false
set_option maxRecDepth 100000
set_option maxHeartbeats 4000000
/-! Cn.B2: len(set(t)), t a tuple of texts. -/
namespace Cn
open PySem PySem.Spec PyProof.Rows L2

/-- the different ones of xs, as a set meets them -/
def met (xs : List Str) (i : Nat) : List Str := (xs.take i).foldl (fun σ k => if σ.any (· == k) then σ else σ ++ [k]) []
theorem met_step {xs : List Str} {i : Nat} (h : i < xs.length) : met xs (i + 1) = if (met xs i).any (· == xs[i]) then met xs i else met xs i ++ [xs[i]] := by
  have e : xs.take (i + 1) = xs.take i ++ [xs[i]] := by rw [List.take_add_one, List.getElem?_eq_getElem h]; rfl
  unfold met
  rw [e, List.foldl_append]; rfl
theorem met_le (xs : List Str) : ∀ i, i ≤ xs.length → (met xs i).length ≤ i
  | 0, _ => by simp [met]
  | i + 1, h => by
    have ih := met_le xs i (by omega)
    rw [met_step (by omega)]
    split
    · omega
    · rw [List.length_append, List.length_singleton]; omega
theorem met_has {xs : List Str} {i : Nat} (h : i < xs.length) (k : Str) : (met xs (i + 1)).any (· == k) = ((met xs i).any (· == k) || decide (k = xs[i])) := by
  rw [met_step h]
  by_cases q : (met xs i).any (· == xs[i]) = true
  · rw [if_pos q]
    by_cases e : k = xs[i]
    · rw [e, q]; simp
    · simp [e]
  · rw [if_neg q, List.any_append]
    by_cases e : k = xs[i]
    · simp [e]
    · have e' : (xs[i] == k) = false := beq_eq_false_iff_ne.mpr fun z => e z.symm
      simp [e, e']
theorem met_num {xs : List Str} {i : Nat} (h : i < xs.length) : (met xs (i + 1)).length = if (met xs i).any (· == xs[i]) then (met xs i).length else (met xs i).length + 1 := by
  rw [met_step h]
  split <;> simp
theorem str_item {us : List Value} {xs : List Str} (h : StrsAre us xs) : ∀ (i : Nat) (v : Value) (hi : i < xs.length), us[i]? = some v → ∃ t, v = .str xs[i] t := by
  induction h with
  | nil => intro i v hi; exact absurd hi (by simp)
  | cons x t r ih =>
    intro i v hi e
    cases i with
    | zero => exact ⟨t, (Option.some.inj e).symm⟩
    | succ i => exact ih i v (by simpa using hi) e

section
variable {prog : Program} {w : World} {A : Around} {R : Result → Shared → Prop} {it : Addr} {fp wr : List Addr} {G : Array GenState → Array GenState → Prop} {n : Nat} {P : Nat → Value → Prop} {St : Nat → Shared → Prop}
/-- the loop that fills the set at T from the iterator it -/
theorem fill_texts (V : WalksS prog w A.in1 it fp wr G n P St) (T : Addr) (nT : T ∉ fp) (xs : List Str) (hn : xs.length = n) (hb : n + 1 < scanBound) (hv : ∀ i v (hi : i < xs.length), P i v → ∃ t, v = .str xs[i] t) :
    ∀ (m i : Nat) (s : Shared), n - i = m → i ≤ n → St i s → s.heap.SetOf (PySem.strKind prog w) T (fun k => (met xs i).any (· == k)) (met xs i).length →
      (∀ s', Moved (T :: wr) G s s' → s'.heap.SetOf (PySem.strKind prog w) T (fun k => (met xs n).any (· == k)) (met xs n).length → R (.ok (.ret .none)) s') →
      codeAny (model prog w) A (.builtin "set.update.loop" ⟨[.ref T, .ref it], []⟩) R s := by
  have nW : T ∉ wr := fun z => nT (V.sub _ z)
  have up : ∀ b ∈ wr, b ∈ T :: wr := fun b z => List.mem_cons_of_mem _ z
  have carry : ∀ {i : Nat} {s s' : Shared}, Moved wr G s s' → s.heap.SetOf (PySem.strKind prog w) T (fun k => (met xs i).any (· == k)) (met xs i).length → s'.heap.SetOf (PySem.strKind prog w) T (fun k => (met xs i).any (· == k)) (met xs i).length :=
    fun {i s s'} mv ⟨o, es, ep, tb, ho, more⟩ => ⟨o, es, ep, tb, mv.heap T _ nW ho, more⟩
  intro m
  induction m with
  | zero =>
    intro i s hm hi st hS hR
    obtain rfl : i = n := by omega
    refine codeAny_builtin F.entry_set_update_loop ?_
    rw [Around.under_plainId F.plain_set_update_loop _]
    show wpAny _ A.in1 (pyNext (.ref it) >>= _) _ _ s
    refine wpAny_bind (V.done s _ _ st fun s' mv => ?_)
    show wpAny _ A.in1 (ret Value.none) _ _ s'
    exact wpAny_pure (hR s' (mv.mono up) (carry mv hS))
  | succ m ih =>
    intro i s hm hi st hS hR
    have lt : i < n := by omega
    have ltx : i < xs.length := by omega
    refine codeAny_builtin F.entry_set_update_loop ?_
    rw [Around.under_plainId F.plain_set_update_loop _]
    show wpAny _ A.in1 (pyNext (.ref it) >>= _) _ _ s
    refine wpAny_bind (V.item i s _ _ lt st fun v s' hP st' mv => ?_)
    obtain ⟨tk, rfl⟩ := hv i v ltx hP
    have hS' := carry (i := i) mv hS
    show wpAny _ A.in1 (holding [Value.str xs[i] tk] (setAdd T (.str xs[i] tk)) >>= _) _ _ s'
    refine wpAny_bind (wpAny_holding ?_)
    unfold setAdd
    refine wpAny_holding (wpAny_bind ((PySem.strKind prog w).pyHash (k := xs[i]) (strKind_is _ _ _ _) ?_))
    have room : (met xs i).length + 1 < scanBound := by have := met_le xs i (by omega); omega
    refine wpAny_setAddHashed_of (knd := PySem.strKind prog w) (s := { s' with toks := s'.toks + 1 }) (strKind_is _ _ _ _) rfl hS' room fun h' sb hS2 => ?_
    have hS3 : h'.SetOf (PySem.strKind prog w) T (fun k => (met xs (i + 1)).any (· == k)) (met xs (i + 1)).length := SetOf_congr hS2 (fun k => (met_has ltx k).symm) (met_num ltx).symm
    refine wpAny_pure ⟨plainId_quiet F.plain_set_update_loop _, ih (i + 1) _ (by omega) lt (V.frame _ s' _ _ st' (Nat.le_succ _) fun b z o e => ?_) hS3 fun s2 mv2 hS4 => ?_⟩
    · rw [sb.2 b (fun q : b = T => nT (by rw [← q]; exact z))]; exact e
    · refine hR s2 (Moved.trans V.gtrans ((mv.mono up).then_heap (Nat.le_succ _) fun b o z e => ?_) mv2) hS4
      rw [sb.2 b (fun q : b = T => z (by rw [q]; exact List.mem_cons_self))]; exact e
end
section
variable {prog : Program} {w : World} {A : Around} {E : Value → Shared → Prop} {s : Shared}
abbrev newSet (led : Bool) : Obj := { cls := .type "set", dict := none, data := .set #[] 0 (.fresh 0 0 led) }
/-- set(t) -/
theorem set_of_tuple {l : Addr} {its : Array Value} {xs : List Str} {Q : Value → Shared → Prop} (hh : A.handled = none) (hl : s.heap.IsTuple l its) (hi : StrsAre its.toList xs) (hb : xs.length + 1 < scanBound)
    (h : ∀ (h' : Heap) (tk : Nat), h'.SetOf (PySem.strKind prog w) s.heap.objs.size (fun k => (met xs xs.length).any (· == k)) (met xs xs.length).length → (∀ b o, b < s.heap.objs.size → s.heap.get? b = some o → h'.get? b = some o) →
      Q (.ref s.heap.objs.size) { s with heap := h', toks := tk }) : wpAny (model prog w) A (call (.type "set") [.ref l]) Q E s := by
  obtain ⟨c, tl, mro⟩ := PySem.F.called_set.mro
  have made := PySem.F.called_set.made
  have sub := PySem.F.called_set.sub
  refine wpAny_call (codeAny_of_tree ?_)
  show wpAny _ _ (callAny (.type "set") _) _ _ _
  refine wpAny_pure ⟨Code.quiet_builtin _ (by decide +kernel), codeAny_builtin PySem.F.entry_type_call ?_⟩
  rw [Around.under_plain (weight_type_call_type "set" [.ref l] []) rfl]
  have nt := PySem.F.called_set.notType
  have cc := PySem.F.called_set.canCreate
  have tc := PySem.F.typeCall_set_1 (.ref l)
  repeat (any_goals (first | assumption | wp_step))
  refine codeAny_mono (code_set_new_1 (.ref l) (E := E) (Q₁ := fun u s1 => ∃ led, u = .ref s.heap.objs.size ∧ s1 = { s with heap := s.heap.push (newSet led) }) fun led => ⟨led, rfl, rfl⟩) fun r s1 hr => ?_
  cases r with
  | error e => exact hr
  | ok fl =>
    cases fl with
    | ret u =>
      obtain ⟨led, rfl, rfl⟩ := hr
      have atS : (s.heap.push (newSet led)).get? s.heap.objs.size = some (newSet led) := Heap.get?_push_size _ rfl
      have isS : Shared.TypeIs { s with heap := s.heap.push (newSet led) } (.ref s.heap.objs.size) "set" := ⟨_, atS, rfl⟩
      have il := PySem.F.called_set.init.lookup
      have ib := PySem.F.called_set.init.bind (.ref s.heap.objs.size)
      repeat (any_goals (first | assumption | wp_step))
      refine codeAny_mono (codeAny_call_builtin (R := wants (fun u s2 => u = .none ∧ ∃ h' tk, s2 = { s with heap := h', toks := tk } ∧ h'.SetOf (PySem.strKind prog w) s.heap.objs.size (fun k => (met xs xs.length).any (· == k)) (met xs xs.length).length ∧
        (∀ b o, b < s.heap.objs.size → s.heap.get? b = some o → h'.get? b = some o)) E) PySem.F.called_set.init.plain PySem.F.entry_set_init (check_set_init_1 isS ?_)) fun r2 s2 hr2 => ?_
      · obtain ⟨⟨oc, od, odt, osl⟩, ho, ec, nl, ed⟩ := hl
        simp only at ec ed
        subst ec; subst ed
        have ho' : (s.heap.push (newSet led)).get? l = some { cls := .type "tuple", dict := od, data := .seq its nl, slots := osl } := Heap.get?_push_of_some _ ho
        have s1 := PySem.F.sub_tuple_set
        have s2 := PySem.F.sub_tuple_frozenset
        have nd : (Value.type "tuple" == Value.type "dict") = false := by decide
        have hl1 : (s.heap.push (newSet led)).IsTuple l its := ⟨_, ho', rfl, nl, rfl⟩
        unfold Builtin.«set.__init__» noKeywords Builtin.Frozenset.updateFrom
        generalize gP : pyIter = PI
        wp_walk
        subst gP
        refine wpAny_pyIter_tuple hl1 (wpAny_bind (wpAny_runValue ?_))
        have ltl : l < s.heap.objs.size := Heap.lt_size ho
        have h3 : A.in1.in1.in1.handled = none := by simp [hh]
        have nI : l ≠ (s.heap.push (newSet led)).objs.size := by
          rw [Heap.size_push]
          exact Nat.ne_of_lt (Nat.lt_succ_of_lt ltl)
        have nF : s.heap.objs.size ∉ [(s.heap.push (newSet led)).objs.size, l] := by
          rw [Heap.size_push]
          simp only [List.mem_cons, List.not_mem_nil, or_false, not_or]
          exact ⟨Nat.ne_of_lt (Nat.lt_succ_self _), Nat.ne_of_gt ltl⟩
        have sz : xs.length = its.size := by rw [← StrsAre.len_eq hi, Array.length_toList]
        refine fill_texts ((Walks.tuple h3 _ l nI its).toS) s.heap.objs.size nF xs sz (by rw [← sz]; exact hb) (fun i v hix e => str_item hi i v hix (by rw [Array.getElem?_toList]; exact e)) (its.size - 0) 0 _ (by omega) (Nat.zero_le _)
          ⟨⟨_, Heap.get?_push_size _ rfl, rfl, rfl⟩, (hl1.push _)⟩ ?c1 ?c2
        case c1 =>
          exact SetOf_congr ((setObjOf_fresh (knd := PySem.strKind prog w) led).setOf (Heap.get?_push_of_some _ atS) (by unfold scanBound; omega)) (fun _ => rfl) rfl
        case c2 =>
          rw [← sz]
          rintro ⟨h', g', d', tk', os'⟩ mv hS'
          have eg : g' = s.gens := mv.gens
          have ed : d' = s.drawn := mv.drawn
          have eo : os' = s.os := mv.os
          subst eg; subst ed; subst eo
          show wpAny _ _ _ _ _ _
          refine wpAny_pure ?_
          show wpAny _ _ (ret Value.none) _ _ _
          refine wpAny_pure ⟨rfl, h', tk', rfl, hS', fun b o hlt e => ?_⟩
          refine mv.heap b o ?_ (Heap.get?_push_of_some _ (Heap.get?_push_of_some _ e))
          rw [Heap.size_push]
          simp only [List.mem_cons, List.not_mem_nil, or_false, not_or]
          exact ⟨Nat.ne_of_lt hlt, Nat.ne_of_lt (Nat.lt_succ_of_lt hlt)⟩
      · cases r2 with
        | error e => exact hr2
        | ok f2 =>
          cases f2 with
          | ret u2 =>
            obtain ⟨rfl, h', tk, rfl, hS', hk⟩ := hr2
            repeat (any_goals (first | assumption | wp_step))
            exact h _ _ hS' hk
          | _ => exact hr2.elim
    | _ => exact hr.elim
end
section
variable {X : Cx}
/-- len(set(t)) -/
def tLenSet2 (K : PySem.W.Frag) (ta : TE) : TE := fun σ H Q => ta σ H fun x H1 => ∃ l, ∃ xs : List Str, x = .ref l ∧ SqT K H1 l (xs.map V.str) ∧ xs.length ≤ 4000 ∧ Q (.int ((met xs xs.length).length : Nat)) H1
theorem p_lenSet {a : Expr} {ta : TE} {p p2 q pos : Pos} (hc : X.calm = true) (hg : Gl X "len") (hm : X.mg "len" = none) (hg2 : Gl X "set") (hm2 : X.mg "set" = none) (ha : PE X a ta)
    (na : starEach [a] X.env = (false, eval a X.env) :: starEach [] X.env := by rfl) : PE X (.Call (.Name "len" p) [.Call (.Name "set" p2) [a] [] q] [] pos) (tLenSet2 X.K ta) := by
  refine ⟨fun pins s σ H Q I h => Call_ (ld_blt I hg hm boot_len (callWith_builtin1 (args_cons ?_ rfl) rfl rfl))⟩
  refine Call_ (ld_blt I hg2 hm2 boot_set (callWith_type1 (args_cons (thn (ha.run pins s σ H _ I h) fun v s1 ⟨x, H1, I1, r1, q1⟩ => args_nil ?_) na) na rfl))
  obtain ⟨l, xs, rfl, hq, hz, q1⟩ := q1
  cases r1
  obtain ⟨its, r, pl, _⟩ := I1.tuple hq
  refine set_of_tuple (I1.ok.hd hc) pl (by simpa using strsAre_of r) (by unfold scanBound; omega) fun h' tk hS hk => args_nil ?_
  obtain ⟨o, es, ep, t, ho, hex, hd, _, _, _, hf, hn⟩ := hS
  have I2 : Inv X pins σ H1 { s1 with heap := h', toks := tk } := I1.kept fun b o e => hk b o (Heap.lt_size e) e
  have le := met_le xs xs.length (Nat.le_refl _)
  exact call_len_set ho hex hd hf (by rw [hn]; omega) ⟨.int ((met xs xs.length).length : Nat), H1, I2.tok _, ⟨_, by rw [hn]⟩, q1⟩
/-- C(..) where a name of the def holds the class -/
def tClsL (i : Nat) (C : Addr) (sp : Sp) (E : XK) (t : TA) : TE := fun σ H Q => σ[i]? = some (some (.ref C)) ∧ tMake C sp [] E t σ H Q
theorem p_cls {k j i : Nat} {C : Addr} {y x : Str} {sp : Sp} {e : Expr} {es : List Expr} {t : TA} {p pos : Pos} (E : XK) (c : Mak X.prog X.w X.K X.mg X.base k y C sp) (hr : Room j X.A) (hk : k + 1 ≤ j) (hx : Passes (L2.CX X.prog X.w) X E) (ha : PA X (e :: es) t)
    (hN : X.N[i]? = some x := by rfl) (hv : Vis X.env.scope x := by first | exact Or.inl rfl | exact Or.inr (Or.inl rfl) | exact Or.inr (Or.inr rfl)) (hdb : (x == ("__debug__" : Str)) = false := by decide) (hcd : (x == ("__classdict__" : Str)) = false := by decide)
    (he : starEach (e :: es) X.env = (false, eval e X.env) :: starEach es X.env := by rfl) (hpl : (backTo pos (starEach es X.env)).any (·.1) = false := by rfl) : PE X (.Call (.Name x p) (e :: es) [] pos) (tClsL i C sp E t) := by
  obtain ⟨f, fd, ps, M, F, hm, b⟩ := c.ex
  refine ⟨fun pins s σ H Q I ⟨hs, ht⟩ => ?_⟩
  refine wpAny_Call_Name_kw (thn ((pe_var (pos := p) hN hv hdb hcd).run pins s σ H (fun v H1 => v = .ref C ∧ H1 = H) I ⟨.ref C, hs, rfl, rfl⟩) fun u s1 ⟨v, H1, I1, r1, q1⟩ => ?_)
  obtain ⟨rfl, rfl⟩ := q1
  cases r1
  exact PySem.W.callWith_K (h₀ := X.base) I.ok.mod.kin M.kp (thn (ha.run pos pins s1 σ _ _ I1 ht) fun us s2 ⟨vs, H2, I2, r, q⟩ => ⟨I2.kIn, run_make M F (hr.mono hk) b .nil hx I2 r q⟩) he hpl
end
end Cn
set_option linter.all false
/-! Cn.M0: the program as plain functions over lists of signs. -/
namespace Cn
abbrev T := List Nat

def isPre : T → T → Bool
  | [], _ => true
  | _ :: _, [] => false
  | x :: a, y :: b => x == y && isPre a b
def splitC (c : Nat) : T → List T
  | [] => [[]]
  | x :: r => if x == c then [] :: splitC c r else match splitC c r with
    | [] => [[x]]
    | h :: t => (x :: h) :: t
theorem splitC_ne (c : Nat) : ∀ l, splitC c l ≠ []
  | [] => by simp [splitC]
  | x :: r => by
    unfold splitC
    split
    · simp
    · split <;> simp
def joinT (sep : T) : List T → T
  | [] => []
  | [p] => p
  | p :: q :: r => p ++ (sep ++ joinT sep (q :: r))
def isName (w : T) : Bool := decide (1 ≤ w.length) && (decide (w.length ≤ 8) && w.all fun c => decide (97 ≤ c) && decide (c ≤ 122))
/-- written texts -/
def kTable : T := [116, 97, 98, 108, 101, 32]
def kColumn : T := [32, 32, 99, 111, 108, 117, 109, 110, 32]
def kKey : T := [32, 32, 107, 101, 121, 32]
def kRef : T := [32, 32, 114, 101, 102, 32]
def kOpt : T := [32, 32, 111, 112, 116, 105, 111, 110, 97, 108, 32]
def kEnd : T := [101, 110, 100]
def kArrow : T := [45, 62]

structure Tbl where
  name : T
  cols : List T
  keys : List (List T)
  refs : List (List T × T × Bool)
  deriving DecidableEq

section
variable (L : List T)
def begins (n : Nat) (st : T) : Bool := match L[n]? with
  | some r => isPre st r
  | none => false
def words (n : Nat) (st : T) : Option (List T) := match L[n]? with
  | some r => if isPre st r then some (splitC 32 (r.drop st.length)) else none
  | none => none
def newName (n : Nat) (st : T) (taken : List T) : Except Nat T := match words L n st with
  | some ws => if ws.length == 1 && (isName (ws.headD []) && !taken.contains (ws.headD [])) then .ok (ws.headD []) else .error n
  | none => .error n
def exactly (n : Nat) (row : T) : Bool := L[n]? == some row
def colsLoop : Nat → Nat → List T → Except Nat (List T × Nat)
  | 0, n, cols => .ok (cols, n)
  | f + 1, n, cols =>
    if cols.isEmpty || begins L n kColumn then
      match newName L n kColumn cols with
      | .error e => .error e
      | .ok w => if cols.length + 1 ≤ 5 then colsLoop f (n + 1) (cols ++ [w]) else .error n
    else .ok (cols, n)
def hasAll (cols others : List T) : Bool := others.all fun o => cols.contains o
def areDiff (ws cols : List T) : Bool := decide ws.Nodup && hasAll cols ws
def keysLoop (cols : List T) : Nat → Nat → List (List T) → Except Nat (List (List T) × Nat)
  | 0, n, keys => .ok (keys, n)
  | f + 1, n, keys =>
    if keys.isEmpty || begins L n kKey then
      match words L n kKey with
      | none => .error n
      | some k =>
        if decide (k.length ≤ 3) && areDiff k cols then
          if keys.any fun o => hasAll k o || hasAll o k then .error n
          else if keys.length + 1 ≤ 3 then keysLoop cols f (n + 1) (keys ++ [k]) else .error n
        else .error n
    else .ok (keys, n)
def refStart (req : Bool) : T := if req then kRef else kOpt
def targets (req : Bool) (t : Tbl) (above : List Tbl) : List Tbl := if req then above else above ++ [t]
def foundIn (req : Bool) (t : Tbl) (above : List Tbl) (tgt : T) : List Tbl := (targets req t above).filter fun a => a.name == tgt
def fits (found : List Tbl) (cols : List T) : Bool := match found with
  | [f] => (f.keys.headD []).length == cols.length
  | _ => false
def barred (req : Bool) (t : Tbl) (cols : List T) : Bool := !req && t.keys.any (fun k => cols.any fun c => k.contains c)
def readRef (n : Nat) (t : Tbl) (above : List Tbl) : Except Nat (List T × T × Bool) :=
  match words L n (refStart (begins L n kRef)) with
  | none => .error n
  | some ws =>
    if decide (3 ≤ ws.length) && (ws.getD (ws.length - 2) [] == kArrow) then
      if fits (foundIn (begins L n kRef) t above (ws.getD (ws.length - 1) [])) (ws.take (ws.length - 2)) then
        if areDiff (ws.take (ws.length - 2)) t.cols then
          if barred (begins L n kRef) t (ws.take (ws.length - 2)) then .error n else .ok (ws.take (ws.length - 2), ws.getD (ws.length - 1) [], begins L n kRef)
        else .error n
      else .error n
    else .error n
def refsLoop (t : Tbl) (above : List Tbl) : Nat → Nat → List (List T × T × Bool) → Except Nat (List (List T × T × Bool) × Nat)
  | 0, n, refs => .ok (refs, n)
  | f + 1, n, refs =>
    if begins L n kRef || begins L n kOpt then
      match readRef L n t above with
      | .error e => .error e
      | .ok r =>
        if r.1.any fun c => (refs.flatMap (·.1)).contains c then .error n
        else if refs.length + 1 ≤ 2 then refsLoop t above f (n + 1) (refs ++ [r]) else .error n
    else .ok (refs, n)
def readTable (n : Nat) (above : List Tbl) : Except Nat (Tbl × Nat) :=
  match newName L n kTable (above.map (·.name)) with
  | .error e => .error e
  | .ok name =>
    if above.length < 5 then
      match colsLoop L 6 (n + 1) [] with
      | .error e => .error e
      | .ok (cols, n1) =>
        match keysLoop L cols 4 n1 [] with
        | .error e => .error e
        | .ok (keys, n2) =>
          match refsLoop L ⟨name, cols, keys, []⟩ above 3 n2 [] with
          | .error e => .error e
          | .ok (refs, n3) => if exactly L n3 kEnd then .ok (⟨name, cols, keys, refs⟩, n3 + 1) else .error n3
    else .error n
def tablesLoop : Nat → Nat → List Tbl → Except Nat (List Tbl × Nat)
  | 0, n, ts => .ok (ts, n)
  | f + 1, n, ts =>
    if ts.isEmpty || !(n == L.length) then
      match readTable L n ts with
      | .error e => .error e
      | .ok (t, n1) => tablesLoop f n1 (ts ++ [t])
    else .ok (ts, n)
end
def parseRows (L : List T) : Except Nat (List Tbl) := match tablesLoop L 6 0 [] with
  | .error e => .error e
  | .ok (ts, _) => .ok ts
def refRow (r : List T × T × Bool) : T := [32, 32] ++ ((if r.2.2 then [114, 101, 102] else [111, 112, 116, 105, 111, 110, 97, 108]) ++ ([32] ++ (joinT [32] r.1 ++ ([32, 45, 62, 32] ++ r.2.1))))
def tableRows (t : Tbl) : List T := [kTable ++ t.name] ++ (t.cols.map (fun c => kColumn ++ c) ++ (t.keys.map (fun k => kKey ++ joinT [32] k) ++ (t.refs.map refRow ++ [kEnd])))
def schemaText (ts : List Tbl) : T := joinT [10] (ts.flatMap tableRows)

/-! ### what a read table is -/
structure WfT (t : Tbl) : Prop where
  name : t.name.length ≤ 8
  cols0 : t.cols ≠ []
  cols : t.cols.length ≤ 5
  col : ∀ c ∈ t.cols, c.length ≤ 8
  keys0 : t.keys ≠ []
  keys : t.keys.length ≤ 3
  key : ∀ k ∈ t.keys, k.length ≤ 3 ∧ ∀ c ∈ k, c ∈ t.cols
  refs : t.refs.length ≤ 2
  ref : ∀ r ∈ t.refs, r.1.length ≤ 3 ∧ r.2.1.length ≤ 8 ∧ ∀ c ∈ r.1, c ∈ t.cols
theorem isName_len {w : T} (h : isName w = true) : w.length ≤ 8 := by
  unfold isName at h
  simp only [Bool.and_eq_true, decide_eq_true_eq] at h
  exact h.2.1
theorem newName_ok {L : List T} {n : Nat} {st : T} {taken : List T} {w : T} (h : newName L n st taken = .ok w) : isName w = true ∧ w ∉ taken := by
  unfold newName at h
  split at h
  · split at h
    · rename_i ws _ q
      cases h
      simp only [Bool.and_eq_true, Bool.not_eq_true', beq_iff_eq] at q
      exact ⟨q.2.1, fun z => by have := q.2.2; rw [List.contains_iff_mem.mpr z] at this; cases this⟩
    · cases h
  · cases h
theorem words_lt {L : List T} {n : Nat} {st : T} {ws : List T} (h : words L n st = some ws) : n < L.length := by
  unfold words at h
  split at h
  · rename_i r hr
    exact (List.getElem?_eq_some_iff.mp hr).1
  · cases h
theorem newName_lt {L : List T} {n : Nat} {st : T} {taken : List T} {w : T} (h : newName L n st taken = .ok w) : n < L.length := by
  unfold newName at h
  split at h
  · rename_i ws hw
    exact words_lt hw
  · cases h
theorem words_len {L : List T} {n : Nat} {st : T} {ws : List T} (h : words L n st = some ws) : ws ≠ [] := by
  unfold words at h
  split at h
  · split at h
    · cases h; exact splitC_ne _ _
    · cases h
  · cases h
theorem colsLoop_ok {L : List T} : ∀ {f n : Nat} {cols r : List T} {n' : Nat}, colsLoop L f n cols = .ok (r, n') → cols.length ≤ 5 → (∀ c ∈ cols, c.length ≤ 8) → f + cols.length = 6 → r ≠ [] ∧ r.length ≤ 5 ∧ ∀ c ∈ r, c.length ≤ 8
  | 0, n, cols, r, n', h, h5, h8, hf => by omega
  | f + 1, n, cols, r, n', h, h5, h8, hf => by
    unfold colsLoop at h
    split at h
    · split at h
      · cases h
      · rename_i w hw
        split at h
        · exact colsLoop_ok h (by simp; omega) (fun c hc => by
            rcases List.mem_append.mp hc with z | z
            · exact h8 c z
            · rw [List.mem_singleton.mp z]; exact isName_len (newName_ok hw).1) (by simp; omega)
        · cases h
    · rename_i q
      cases h
      simp only [Bool.or_eq_true, not_or, List.isEmpty_iff] at q
      exact ⟨q.1, h5, h8⟩
theorem hasAll_ok {cols others : List T} (h : hasAll cols others = true) : ∀ c ∈ others, c ∈ cols := fun c hc => by
  have := List.all_eq_true.mp h c hc
  exact List.contains_iff_mem.mp this
theorem areDiff_ok {ws cols : List T} (h : areDiff ws cols = true) : ws.Nodup ∧ ∀ c ∈ ws, c ∈ cols := by
  unfold areDiff at h
  simp only [Bool.and_eq_true, decide_eq_true_eq] at h
  exact ⟨h.1, hasAll_ok h.2⟩
theorem keysLoop_ok {L : List T} {cols : List T} : ∀ {f n : Nat} {keys r : List (List T)} {n' : Nat}, keysLoop L cols f n keys = .ok (r, n') → keys.length ≤ 3 → (∀ k ∈ keys, k.length ≤ 3 ∧ ∀ c ∈ k, c ∈ cols) → f + keys.length = 4 →
    r ≠ [] ∧ r.length ≤ 3 ∧ ∀ k ∈ r, k.length ≤ 3 ∧ ∀ c ∈ k, c ∈ cols
  | 0, n, keys, r, n', h, h3, hk, hf => by omega
  | f + 1, n, keys, r, n', h, h3, hk, hf => by
    unfold keysLoop at h
    split at h
    · split at h
      · cases h
      · split at h
        · rename_i k _ q
          simp only [Bool.and_eq_true, decide_eq_true_eq] at q
          split at h
          · cases h
          · split at h
            · exact keysLoop_ok h (by simp; omega) (fun c hc => by
                rcases List.mem_append.mp hc with z | z
                · exact hk c z
                · rw [List.mem_singleton.mp z]; exact ⟨q.1, (areDiff_ok q.2).2⟩) (by simp; omega)
            · cases h
        · cases h
    · rename_i q
      cases h
      simp only [Bool.or_eq_true, not_or, List.isEmpty_iff] at q
      exact ⟨q.1, h3, hk⟩
theorem fits_ok {fl : List Tbl} {cols : List T} (h : fits fl cols = true) : ∃ f, fl = [f] ∧ (f.keys.headD []).length = cols.length := by
  unfold fits at h
  split at h
  · exact ⟨_, rfl, eq_of_beq h⟩
  · cases h
theorem foundIn_mem {req : Bool} {t f : Tbl} {above : List Tbl} {tgt : T} (h : f ∈ foundIn req t above tgt) : (f ∈ above ∨ f = t) ∧ f.name = tgt := by
  obtain ⟨f1, f2⟩ := List.mem_filter.mp h
  refine ⟨?_, eq_of_beq f2⟩
  unfold targets at f1
  split at f1
  · exact .inl f1
  · rcases List.mem_append.mp f1 with z | z
    · exact .inl z
    · exact .inr (List.mem_singleton.mp z)
theorem readRef_ok {L : List T} {n : Nat} {t : Tbl} {above : List Tbl} {r : List T × T × Bool} (h : readRef L n t above = .ok r) (hn : t.name.length ≤ 8) (ha : ∀ a ∈ above, WfT a) (ht : ∀ k ∈ t.keys, k.length ≤ 3) (h0 : t.keys ≠ []) :
    r.1.length ≤ 3 ∧ r.2.1.length ≤ 8 ∧ ∀ c ∈ r.1, c ∈ t.cols := by
  unfold readRef at h
  split at h
  · cases h
  · rename_i ws _
    split at h
    · split at h
      · rename_i q
        split at h
        · rename_i qd
          split at h
          · cases h
          · cases h
            obtain ⟨f, ef, el⟩ := fits_ok q
            obtain ⟨hf, hfn⟩ := foundIn_mem (f := f) (by rw [ef]; exact List.mem_singleton.mpr rfl)
            have hk : (f.keys.headD []).length ≤ 3 := by
              have key : ∀ k ∈ f.keys, k.length ≤ 3 := by
                rcases hf with z | z
                · exact fun k hk => ((ha f z).key k hk).1
                · rw [z]; exact ht
              cases e : f.keys with
              | nil => simp
              | cons k r => exact key k (by rw [e]; exact List.mem_cons_self)
            refine ⟨by rw [← el]; exact hk, ?_, (areDiff_ok qd).2⟩
            show (ws.getD (ws.length - 1) []).length ≤ 8
            rw [← hfn]
            rcases hf with z | z
            · exact (ha f z).name
            · rw [z]; exact hn
        · cases h
      · cases h
    · cases h
theorem refsLoop_ok {L : List T} {t : Tbl} {above : List Tbl} (hn : t.name.length ≤ 8) (ha : ∀ a ∈ above, WfT a) (ht : ∀ k ∈ t.keys, k.length ≤ 3) (h0 : t.keys ≠ []) : ∀ {f n : Nat} {refs r : List (List T × T × Bool)} {n' : Nat}, refsLoop L t above f n refs = .ok (r, n') → refs.length ≤ 2 →
    (∀ r ∈ refs, r.1.length ≤ 3 ∧ r.2.1.length ≤ 8 ∧ ∀ c ∈ r.1, c ∈ t.cols) → f + refs.length = 3 → r.length ≤ 2 ∧ ∀ q ∈ r, q.1.length ≤ 3 ∧ q.2.1.length ≤ 8 ∧ ∀ c ∈ q.1, c ∈ t.cols
  | 0, n, refs, r, n', h, h2, hr, hf => by omega
  | f + 1, n, refs, r, n', h, h2, hr, hf => by
    unfold refsLoop at h
    split at h
    · split at h
      · cases h
      · rename_i q hq
        split at h
        · cases h
        · split at h
          · exact refsLoop_ok hn ha ht h0 h (by simp; omega) (fun c hc => by
              rcases List.mem_append.mp hc with z | z
              · exact hr c z
              · rw [List.mem_singleton.mp z]; exact readRef_ok hq hn ha ht h0) (by simp; omega)
          · cases h
    · cases h
      exact ⟨h2, hr⟩
theorem readTable_ok {L : List T} {n : Nat} {above : List Tbl} {t : Tbl} {n' : Nat} (h : readTable L n above = .ok (t, n')) (ha : ∀ a ∈ above, WfT a) : WfT t ∧ above.length < 5 ∧ t.name ∉ above.map (·.name) := by
  unfold readTable at h
  split at h
  · cases h
  · rename_i name hname
    split at h
    · rename_i h5
      split at h
      · cases h
      · rename_i cols n1 hc
        split at h
        · cases h
        · rename_i keys n2 hk
          split at h
          · cases h
          · rename_i refs n3 hr
            split at h
            · cases h
              have c := colsLoop_ok hc (by simp) (by simp) (by simp)
              have k := keysLoop_ok hk (by simp) (by simp) (by simp)
              have nm := newName_ok hname
              have r := refsLoop_ok (t := ⟨name, cols, keys, []⟩) (isName_len nm.1) ha (fun k' hk' => (k.2.2 k' hk').1) k.1 hr (by simp) (by simp) (by simp)
              exact ⟨⟨isName_len nm.1, c.1, c.2.1, c.2.2, k.1, k.2.1, k.2.2, r.1, r.2⟩, h5, nm.2⟩
            · cases h
    · cases h
theorem tablesLoop_ok {L : List T} : ∀ {f n : Nat} {ts r : List Tbl} {n' : Nat}, tablesLoop L f n ts = .ok (r, n') → ts.length ≤ 5 → (∀ t ∈ ts, WfT t) → f + ts.length = 6 → r ≠ [] ∧ r.length ≤ 5 ∧ ∀ t ∈ r, WfT t
  | 0, n, ts, r, n', h, h5, hw, hf => by omega
  | f + 1, n, ts, r, n', h, h5, hw, hf => by
    unfold tablesLoop at h
    split at h
    · split at h
      · cases h
      · rename_i t n1 ht
        obtain ⟨w, l, _⟩ := readTable_ok ht hw
        exact tablesLoop_ok h (by simp; omega) (fun c hc => by
          rcases List.mem_append.mp hc with z | z
          · exact hw c z
          · rw [List.mem_singleton.mp z]; exact w) (by simp; omega)
    · rename_i q
      cases h
      simp only [Bool.or_eq_true, not_or, List.isEmpty_iff] at q
      exact ⟨q.1, h5, hw⟩
theorem parseRows_ok {L : List T} {ts : List Tbl} (h : parseRows L = .ok ts) : ts ≠ [] ∧ ts.length ≤ 5 ∧ ∀ t ∈ ts, WfT t := by
  unfold parseRows at h
  split at h
  · cases h
  · rename_i r n' hr
    cases h
    exact tablesLoop_ok hr (by simp) (by simp) (by simp)
end Cn
set_option Elab.async false
set_option linter.all false
set_option maxRecDepth 100000
set_option maxHeartbeats 2000000
/-! Cn.B3: the model's texts and the plain lists of signs; what stands for a table. -/
namespace Cn
open PySem L2

theorem isPre_take : ∀ (a b : T), isPre a b = (b.take a.length == a)
  | [], b => by simp [isPre]
  | _ :: _, [] => by simp [isPre]
  | x :: a, y :: b => by
    have ih := isPre_take a b
    show (x == y && isPre a b) = (y :: b.take a.length == x :: a)
    rw [ih]
    by_cases e : x = y
    · subst e; simp
    · have e1 : (x == y) = false := beq_eq_false_iff_ne.mpr e
      have e2 : (y :: b.take a.length == x :: a) = false := beq_eq_false_iff_ne.mpr fun z => e (List.cons.inj z).1.symm
      rw [e1, e2]; rfl
theorem starts_S (a b : T) : Txt.startswith (S a) (S b) = isPre b a := by
  unfold Txt.startswith
  rw [PySem.StrLaws.subAt_eq, isPre_take, S_len, S_len]
  show (decide (0 + b.length ≤ a.length) && ((a.drop 0).take b.length == b)) = (a.take b.length == b)
  rw [List.drop_zero]
  by_cases h : b.length ≤ a.length
  · rw [decide_eq_true (by omega), Bool.true_and]
  · have e : (a.take b.length == b) = false := beq_eq_false_iff_ne.mpr fun z => h (by rw [← z, List.length_take]; omega)
    rw [e, Bool.and_false]
theorem spl_one (c : Nat) : ∀ (l acc : T), TL.spl [c] 0 acc l = match splitC c l with
    | [] => [acc]
    | h :: t => (acc ++ h) :: t
  | [], acc => by rw [TL.spl_nil]; simp [splitC]
  | x :: r, acc => by
    have ih := spl_one c r
    by_cases e : x = c
    · subst e
      have h : TL.pre [x] (x :: r) = true := by simp [TL.pre]
      rw [TL.spl_hit h]
      show acc :: TL.spl [x] 0 [] r = _
      rw [ih]
      simp only [splitC, beq_self_eq_true, if_true]
      cases q : splitC x r with
      | nil => exact absurd q (splitC_ne x r)
      | cons h t => simp
    · have h : TL.pre [c] (x :: r) = false := TL.pre_of_head _ _ e
      rw [TL.spl_miss h, ih]
      have e1 : (x == c) = false := beq_eq_false_iff_ne.mpr e
      simp only [splitC, e1, Bool.false_eq_true, if_false]
      cases q : splitC c r with
      | nil => exact absurd q (splitC_ne c r)
      | cons h t => simp
theorem split_S (c : Nat) (hc : c < 256) (l : T) : Txt.split (S l) (S [c]) = (splitC c l).map S := by
  refine TL.map_tl_inj ?_
  rw [TL.split_spl _ _ (by simp [tl_S]) (TL.kind_ok (by simp [S, hc])), tl_S, tl_S, spl_one, List.map_map]
  have e : (TL.tl ∘ S) = id := by funext x; exact tl_S x
  rw [e, List.map_id]
  cases q : splitC c l with
  | nil => exact absurd q (splitC_ne c l)
  | cons h t => simp
theorem joinT_L (sep : T) : ∀ ps : List T, TL.joinL sep ps = joinT sep ps
  | [] => rfl
  | [_] => rfl
  | p :: q :: r => by
    show p ++ (sep ++ TL.joinL sep (q :: r)) = p ++ (sep ++ joinT sep (q :: r))
    rw [joinT_L sep (q :: r)]
theorem join_S (sep : T) (ps : List T) : Txt.join (S sep) (ps.map S) = S (joinT sep ps) := by
  refine TL.ext_tl ?_
  rw [TL.join_eq, TL.tl_join, tl_S, tl_S, ← joinT_L, List.map_map]
  have e : (TL.tl ∘ S) = id := by funext x; exact tl_S x
  rw [e, List.map_id]
theorem cutS_drop (l : T) (k : Nat) : cutS (S l) (some (k : Int)) none = S (l.drop k) := by
  refine TL.ext_tl ?_
  show ((l.drop (HT.sIx (S l).length 0 (some (k : Int)))).take (HT.sIx (S l).length (S l).length none - HT.sIx (S l).length 0 (some (k : Int)))) = l.drop k
  rw [HT.sIx_nat, HT.sIx_none, S_len]
  by_cases h : k ≤ l.length
  · rw [Nat.min_eq_left h, List.take_of_length_le (by rw [List.length_drop]; omega)]
  · rw [Nat.min_eq_right (by omega), List.drop_of_length_le (Nat.le_refl _), List.drop_of_length_le (by omega)]; simp
/-- words[:-2] -/
theorem cutV_m2 (xs : List V) : cutV xs none (some (-2)) = xs.take (xs.length - 2) := by
  unfold cutV
  have e1 : HT.sIx xs.length 0 none = 0 := rfl
  have e2 : HT.sIx xs.length xs.length (some (-2)) = xs.length - 2 := by
    show (if (-2 : Int) < 0 then ((-2 : Int) + (xs.length : Int)).toNat else min (-2 : Int).toNat xs.length) = xs.length - 2
    rw [if_pos (by decide)]; omega
  rw [e1, e2, List.drop_zero, Nat.sub_zero]
theorem svs_take (ls : List T) (k : Nat) : (svs ls).take k = svs (ls.take k) := by simp [svs, List.map_take]
theorem splitC_len (c : Nat) : ∀ l : T, (splitC c l).length ≤ l.length + 1
  | [] => by simp [splitC]
  | x :: r => by
    have ih := splitC_len c r
    unfold splitC
    split
    · simp; omega
    · split
      · simp
      · rename_i h t e; rw [e] at ih; simp at ih ⊢; omega
theorem splitC_mem (c : Nat) : ∀ (l p : T), p ∈ splitC c l → p.length ≤ l.length
  | [], p, h => by simp [splitC] at h; rw [h]; simp
  | x :: r, p, h => by
    have ih := splitC_mem c r
    unfold splitC at h
    split at h
    · rcases List.mem_cons.mp h with z | z
      · rw [z]; simp
      · have := ih p z; simp; omega
    · split at h
      · rw [List.mem_singleton.mp h]; simp
      · rename_i g t e
        rw [e] at ih
        rcases List.mem_cons.mp h with z | z
        · have := ih g List.mem_cons_self; rw [z]; simp; omega
        · have := ih p (List.mem_cons_of_mem _ z); simp; omega
theorem eqV_sv (a b : T) : eqV (sv a) (sv b) = (a == b) := by
  show (S a == S b) = (a == b)
  by_cases e : a = b
  · subst e; simp
  · have h1 : (S a == S b) = false := beq_eq_false_iff_ne.mpr fun z => e (S_inj z)
    have h2 : (a == b) = false := beq_eq_false_iff_ne.mpr e
    rw [h1, h2]
theorem inV_svs (a : T) (ls : List T) : inV (sv a) (svs ls) = ls.contains a := by
  unfold inV svs
  rw [List.any_map]
  induction ls with
  | nil => rfl
  | cons b r ih =>
    rw [List.any_cons, List.contains_cons, ih]
    show (eqV (sv b) (sv a) || _) = _
    rw [eqV_sv]
    congr 1
    by_cases e : a = b
    · subst e; rfl
    · rw [beq_eq_false_iff_ne.mpr e, beq_eq_false_iff_ne.mpr fun z => e z.symm]
theorem flat_svs (ls : List T) : (svs ls).all flatV = true := by
  rw [List.all_eq_true]
  intro x hx
  obtain ⟨l, _, rfl⟩ := List.mem_map.mp hx
  rfl

/-! ### rows of things -/
def Each {α : Type} (R : V → α → Prop) (vs : List V) (xs : List α) : Prop := vs.length = xs.length ∧ ∀ (i : Nat) v x, vs[i]? = some v → xs[i]? = some x → R v x
section
variable {α : Type} {R R' : V → α → Prop} {vs : List V} {xs : List α}
theorem Each.nil : Each R [] [] := ⟨rfl, fun i v x h => by simp at h⟩
theorem Each.mono (e : Each R vs xs) (h : ∀ v x, R v x → R' v x) : Each R' vs xs := ⟨e.1, fun i v x a b => h v x (e.2 i v x a b)⟩
theorem Each.snoc {v : V} {x : α} (e : Each R vs xs) (h : R v x) : Each R (vs ++ [v]) (xs ++ [x]) := by
  refine ⟨by rw [List.length_append, List.length_append, e.1]; rfl, fun i v' x' a b => ?_⟩
  by_cases hi : i < vs.length
  · rw [List.getElem?_append_left hi] at a
    rw [List.getElem?_append_left (by rw [← e.1]; exact hi)] at b
    exact e.2 i v' x' a b
  · have h1 : i = vs.length := by
      have := (List.getElem?_eq_some_iff.mp a).1
      rw [List.length_append] at this; simp at this; omega
    subst h1
    rw [List.getElem?_append_right (Nat.le_refl _)] at a
    rw [e.1, List.getElem?_append_right (Nat.le_refl _)] at b
    simp at a b
    subst a; subst b
    exact h
theorem Each.at {i : Nat} {v : V} (e : Each R vs xs) (h : vs[i]? = some v) : ∃ x, xs[i]? = some x ∧ R v x := by
  have hi := (List.getElem?_eq_some_iff.mp h).1
  have hx : xs[i]? = some (xs[i]'(by rw [← e.1]; exact hi)) := List.getElem?_eq_getElem _
  exact ⟨_, hx, e.2 i v _ h hx⟩
theorem Each.atx {i : Nat} {x : α} (e : Each R vs xs) (h : xs[i]? = some x) : ∃ v, vs[i]? = some v ∧ R v x := by
  have hi := (List.getElem?_eq_some_iff.mp h).1
  have hx : vs[i]? = some (vs[i]'(by rw [e.1]; exact hi)) := List.getElem?_eq_getElem _
  exact ⟨_, hx, e.2 i _ x hx h⟩
end

/-! ### what stays -/
/-- things that are never changed: tuples, instances of other classes than CR -/
def imm (CR : Addr) : HO → Prop
  | .tup _ => True
  | .ins C _ _ => C ≠ CR
  | .frz _ (.tup _) => True
  | _ => False
/-- a tuple whose object is known to have no dict (its methods can be called) -/
def TupZ (H : Hp) (a : Addr) (xs : List V) : Prop := ∃ o : Obj, o.dict = none ∧ o.cls = .type "tuple" ∧ H a = some (.frz o (.tup xs))
theorem TupZ.sq {K : PySem.W.Frag} {H : Hp} {a : Addr} {xs : List V} (h : TupZ H a xs) : SqT K H a xs := let ⟨o, _, _, z⟩ := h; .inl (.inr ⟨o, z⟩)
theorem TupZ.to {H H' : Hp} {a : Addr} {xs : List V} (h : TupZ H a xs) (f : ∀ o, H a = some o → H' a = some o) : TupZ H' a xs := let ⟨o, d, c, z⟩ := h; ⟨o, d, c, f _ z⟩
theorem TupZ.ne {H : Hp} {a b : Addr} {xs : List V} {u : HO} (h : TupZ H a xs) (hb : H b = some u) (n : ∀ o, u ≠ .frz o (.tup xs)) : a ≠ b := fun e => by
  obtain ⟨o, _, _, z⟩ := h
  rw [e, hb] at z
  exact n o (Option.some.inj z)
def Fix (CR : Addr) (H H' : Hp) : Prop := ∀ a o, H a = some o → imm CR o → H' a = some o
theorem Fix.trans {CR : Addr} {H H1 H2 : Hp} (a : Fix CR H H1) (b : Fix CR H1 H2) : Fix CR H H2 := fun x o h i => b x o (a x o h i) i
theorem But.fix {CR : Addr} {l : List Addr} {H H' : Hp} (b : But l H H') (h : ∀ a ∈ l, ∀ o, H a = some o → ¬ imm CR o) : Fix CR H H' := fun a o e i =>
  b a o (fun z => h a z o e i) e
theorem But.fix0 {CR : Addr} {H H' : Hp} (b : But [] H H') : Fix CR H H' := b.fix fun a z => by cases z
theorem Fix.new {CR : Addr} {H H' : Hp} {p : Addr} {o : HO} (f : Fix CR H H') (h : H' p = none) : Fix CR H (upd H' p o) := fun a u e i => by
  rw [upd_ne (ne_of_none (f a u e i) h)]; exact f a u e i
theorem Fix.refl {CR : Addr} {H : Hp} : Fix CR H H := fun _ _ h _ => h

def KeyR (H : Hp) (v : V) (k : List T) : Prop := ∃ a, v = .ref a ∧ H a = some (.tup (svs k))
def RefR (H : Hp) (v : V) (r : List T × T × Bool) : Prop := ∃ a c, v = .ref a ∧ H a = some (.tup [.ref c, sv r.2.1, .bl r.2.2]) ∧ H c = some (.tup (svs r.1))
def tf (n : T) (ca ua ra : Addr) : List (Str × V) := [("name", sv n), ("columns", .ref ca), ("unique", .ref ua), ("refers", .ref ra)]
def TblR (CT : Addr) (H : Hp) (v : V) (t : Tbl) : Prop := ∃ a dx ca ua ra ks rs, v = .ref a ∧ H a = some (.ins CT dx (tf t.name ca ua ra)) ∧ TupZ H ca (svs t.cols) ∧
  H ua = some (.tup ks) ∧ Each (KeyR H) ks t.keys ∧ H ra = some (.tup rs) ∧ Each (RefR H) rs t.refs
section
variable {CR CT : Addr} {H H' : Hp}
theorem KeyR.fix (f : Fix CR H H') {v : V} {k : List T} (h : KeyR H v k) : KeyR H' v k := let ⟨a, e, z⟩ := h; ⟨a, e, f a _ z trivial⟩
theorem RefR.fix (f : Fix CR H H') {v : V} {r : List T × T × Bool} (h : RefR H v r) : RefR H' v r := let ⟨a, c, e, z, y⟩ := h; ⟨a, c, e, f a _ z trivial, f c _ y trivial⟩
theorem TblR.fix (n : CT ≠ CR) (f : Fix CR H H') {v : V} {t : Tbl} (h : TblR CT H v t) : TblR CT H' v t := by
  obtain ⟨a, dx, ca, ua, ra, ks, rs, e, h1, h2, h3, h4, h5, h6⟩ := h
  exact ⟨a, dx, ca, ua, ra, ks, rs, e, f a _ h1 n, let ⟨o, d, c, z⟩ := h2; ⟨o, d, c, f ca _ z trivial⟩, f ua _ h3 trivial, h4.mono fun _ _ q => q.fix f, f ra _ h5 trivial, h6.mono fun _ _ q => q.fix f⟩
end

/-! ### the rows that are read -/
def rf (l : Addr) (n : Nat) : List (Str × V) := [("_rows", .ref l), ("_at", .int n)]
structure RowsAt (CR : Addr) (H : Hp) (p d r : Addr) (L : List T) (n : Nat) : Prop where
  at_ : H p = some (.ins CR d (rf r n))
  rows : H r = some (.lst (svs L))
  size : L.length ≤ 1000000 ∧ ∀ r ∈ L, r.length ≤ 1000000
section
variable {CR : Addr} {H H' : Hp} {p d r : Addr} {L : List T} {n : Nat}
theorem RowsAt.keep {m : List Addr} (R : RowsAt CR H p d r L n) (b : But m H H') (hp : p ∉ m) (hr : r ∉ m) : RowsAt CR H' p d r L n := ⟨b p _ hp R.at_, b r _ hr R.rows, R.size⟩
theorem RowsAt.keep0 (R : RowsAt CR H p d r L n) (b : But [] H H') : RowsAt CR H' p d r L n := R.keep b (by simp) (by simp)
theorem RowsAt.put (R : RowsAt CR H p d r L n) {l : Addr} {o : HO} (hp : p ≠ l) (hr : r ≠ l) : RowsAt CR (upd H l o) p d r L n := ⟨by rw [upd_ne hp]; exact R.at_, by rw [upd_ne hr]; exact R.rows, R.size⟩
theorem RowsAt.ne (R : RowsAt CR H p d r L n) : r ≠ p := ne_of R.rows R.at_ (by intro z; cases z)
theorem RowsAt.fix (R : RowsAt CR H p d r L n) (b : But [p] H H') : Fix CR H H' := b.fix fun a z o e i => by
  rw [List.mem_singleton.mp z, R.at_] at e
  cases e
  exact i rfl
end
/-- how the error of a wrong row is wished for -/
def ErrE (CI : Addr) (p : Addr) (H : Hp) (E : XK) (e : Nat) : Prop := ∀ H' d, But [p] H H' → H' d = some (.xd [("row", .int e)]) → E (.ref CI) (some d) H'
theorem ErrE.later {CI p : Addr} {H H1 : Hp} {E : XK} {e : Nat} (h : ErrE CI p H E e) (b : But [p] H H1) : ErrE CI p H1 E e := fun H' d b' hx => h H' d (b.trans b') hx
end Cn
set_option Elab.async false
set_option linter.all false
set_option maxRecDepth 100000
set_option maxHeartbeats 2000000
/-! Cn.B4: the layer's rules with the written part K told (within a comprehension's block the context's own is not to be written out). -/
namespace Cn
open PySem PyProof.Rows L2
section
variable {X : Cx} (K : PySem.W.Frag) (h : X.K = K)
include h
theorem op_in_seqK : OpR X (compareOp .In) (rIn K false) := by subst h; exact op_in_seq
theorem op_notIn_seqK : OpR X (compareOp .NotIn) (rIn K true) := by subst h; exact op_notIn_seq
theorem ix_listK : IxR X (rIxL K) := by subst h; exact ix_list
theorem ix_tupK : IxR X (rIxT K) := by subst h; exact ix_tup
theorem ix_seqK : IxR X (rIx K) := by subst h; exact ix_seq
theorem sl_listK : SlR X (rSlL K) := by subst h; exact sl_list
theorem sl_tupK : SlR X (rSlT K) := by subst h; exact sl_tup
theorem call_len_seqK : CallR X (.builtin "len") (fun xs H Q => ∃ p ys, xs = [.ref p] ∧ (SqL K H p ys ∨ SqT K H p ys) ∧ Q (.int ys.length) H) := by subst h; exact call_len_seq
theorem call_list_ofK : CallR X (.type "list") (fun xs H Q => ∃ p ys, xs = [.ref p] ∧ (SqL K H p ys ∨ SqT K H p ys) ∧ ∀ l, H l = none → Q (.ref l) (upd H l (.lst ys))) := by subst h; exact call_list_of
theorem call_tuple_ofK : CallR X (.type "tuple") (fun xs H Q => ∃ p ys, xs = [.ref p] ∧ ((SqL K H p ys ∧ ∀ l, H l = none → Q (.ref l) (upd H l (.tup ys))) ∨ (SqT K H p ys ∧ Q (.ref p) H))) := by subst h; exact call_tuple_of
theorem call_tuple_ofZ : CallR X (.type "tuple") (fun xs H Q => ∃ p ys, xs = [.ref p] ∧ SqL K H p ys ∧ ∀ l (o : Obj), o.dict = none → o.cls = .type "tuple" → H l = none → Q (.ref l) (upd H l (.frz o (.tup ys)))) := by
  subst h
  intro pins s σ H xs us Q I r h
  obtain ⟨p, ys, rfl, hq, q⟩ := h
  obtain ⟨u, rfl, rx⟩ := vals1 r
  cases rx
  obtain ⟨its, r', pl, hz⟩ := I.list hq
  have hlen := r'.length
  refine call_tuple_list pl.isList (fun h' kp => ?_) (by simp only [List.size_toArray] <;> omega)
  have I1 : Inv X pins σ H { s with heap := h' } := I.kept (t' := s.toks) kp
  have I2 : Inv X pins σ (upd H h'.objs.size (.frz { cls := .type "tuple", data := .seq its.toArray } (.tup ys))) { s with heap := h'.push { cls := .type "tuple", data := .seq its.toArray } } :=
    I1.laid (t' := s.toks) (fun b o e => Heap.get?_push_of_some _ e) (Nat.le_refl _) (show ObjOk X.prog X.w _ _ _ (.frz _ (.tup ys)) from ⟨Heap.get?_push_size _ rfl, hz, its, r', IsTup.new _ _⟩)
  exact ⟨.ref h'.objs.size, _, I2, rfl, q _ _ rfl rfl (I1.hok.fresh (Nat.le_refl _))⟩
theorem cr_allK (hc : X.calm = true) : CallR X (.builtin "all") (rAll K) := by subst h; exact cr_all hc
theorem cr_anyK (hc : X.calm = true) : CallR X (.builtin "any") (rAny K) := by subst h; exact cr_any hc
theorem op_eqDK (hu : X.A.units + 64 < cLine) : OpR X (compareOp .Eq) (rEqD K) := by subst h; exact op_eqD hu
theorem op_neDK (hu : X.A.units + 64 < cLine) : OpR X (compareOp .NotEq) (rNeD K) := by subst h; exact op_neD hu
theorem call_isiK' : CallR X (.builtin "isinstance") (rIsi K) := by subst h; exact call_isi
theorem call_isiTK : CallR X (.builtin "isinstance") (rIsiT K) := by subst h; exact call_isiT
section
variable {e o : Expr} {f : Str} {pos : Pos} {te to ta tv : TE}
theorem pe_fldK (he : PE X e te) (hb : attributeBase e f X.env (eval e X.env) = eval e X.env) : PE X (.Attribute e f pos) (tFld K te f) := by subst h; exact pe_fld he hb
theorem pi_listK {tg : Expr} (he : PE X e te) : PI X tg e (iList K te) := by subst h; exact pi_list he
theorem pi_tupK {tg : Expr} (he : PE X e te) : PI X tg e (iTup K te) := by subst h; exact pi_tup he
theorem pg_tupK {es : List Expr} {k : Nat} {t : TGs} {n : Nat} (hc : X.calm = true) (g : PGs X es t) (hn : es.length = n := by rfl) (r : PG X (.Tuple es k pos) (gTup X.K n t)) : PG X (.Tuple es k pos) (gTup K n t) := by subst h; exact r
theorem pt_truthK (ha : PE X e te) (he : ∀ whole, isTrue e X.env whole = (do let v ← whole; standAt e.pos; holding [v] (truthy v))) : PT X e (tTru K te) := by subst h; exact pt_truth ha he
theorem p_lenSetK {a : Expr} {p p2 q pos : Pos} (hc : X.calm = true) (hg : Gl X "len") (hm : X.mg "len" = none) (hg2 : Gl X "set") (hm2 : X.mg "set" = none) (ha : PE X a ta)
    (na : starEach [a] X.env = (false, eval a X.env) :: starEach [] X.env := by rfl) : PE X (.Call (.Name "len" p) [.Call (.Name "set" p2) [a] [] q] [] pos) (tLenSet2 K ta) := by subst h; exact p_lenSet hc hg hm hg2 hm2 ha na
theorem ps_fldK {value : Expr} {pos' : Pos} (ha : PE X o ta) (hv : PE X value tv) (hs : swapsWith value (some (.Attribute o f pos')) pos.line X.env = pure false) : PS X (.Assign [.Attribute o f pos'] value pos) (sFld K ta tv f) := by subst h; exact ps_fld ha hv hs
theorem ps_fldaugK {value : Expr} {tpos : Pos} {op : Operator} {rd : V → V → Hp → VK → Prop} (ha : PE X o ta) (hv : PE X value tv) (hop : InOp X op rd) : PS X (.AugAssign (.Attribute o f tpos) op value pos) (sFldAug K ta tv rd f) := by subst h; exact ps_fldaug ha hv hop
theorem pe_joinK {apos : Pos} (ho : PE X o to) (he : PE X e te) (hs : starEach [e] X.env = [(false, eval e X.env)] := by rfl) (hbase : attributeBase o "join" X.env (eval o X.env) = eval o X.env := by rfl) (hline : (apos.endLine == pos.line) = true := by rfl) :
    PE X (.Call (.Attribute o "join" apos) [e] [] pos) (tM1 (fun x xs H Q => ∃ a p, ∃ ys : List Str, x = .str a ∧ xs = [.ref p] ∧ (SqL K H p (ys.map V.str) ∨ SqT K H p (ys.map V.str)) ∧
      (ys.map (·.length)).sum + ys.length * a.length ≤ 16777216 ∧ Q (.str (Txt.join a ys)) H) to te) := by subst h; exact pe_join ho he hs hbase hline
theorem pe_appendK {es : List Expr} {t : TA} {apos : Pos} (ho : PE X o to) (ha : PA X (e :: es) t) (r : PE X (.Call (.Attribute o "append" apos) (e :: es) [] pos) (tBM X.K "list" rAppend to t)) : PE X (.Call (.Attribute o "append" apos) (e :: es) [] pos) (tBM K "list" rAppend to t) := by subst h; exact r
end
end
end Cn
set_option Elab.async false
set_option linter.all false
set_option maxRecDepth 100000
set_option maxHeartbeats 2000000
/-! Cn.B5: comprehensions and loops in short; what is kept. -/
namespace Cn
open PySem L2
theorem sqt_keep {K : PySem.W.Frag} {H H' : Hp} {a : Addr} {xs : List V} (b : But [] H H') (h : SqT K H a xs) : SqT K H' a xs := by
  rcases h with (h | ⟨o, h⟩) | h
  · exact .inl (.inl (b _ _ (by simp) h))
  · exact .inl (.inr ⟨o, b _ _ (by simp) h⟩)
  · exact .inr h
theorem sql_keep {K : PySem.W.Frag} {H H' : Hp} {a : Addr} {xs : List V} (b : But [] H H') (h : SqL K H a xs) : SqL K H' a xs := by
  rcases h with (h | ⟨o, h⟩) | h
  · exact .inl (.inl (b _ _ (by simp) h))
  · exact .inl (.inr ⟨o, b _ _ (by simp) h⟩)
  · exact .inr h
theorem sq_keep {K : PySem.W.Frag} {H H' : Hp} {a : Addr} {xs : List V} (b : But [] H H') (h : SqL K H a xs ∨ SqT K H a xs) : SqL K H' a xs ∨ SqT K H' a xs := h.elim (fun h => .inl (sql_keep b h)) fun h => .inr (sqt_keep b h)
theorem newB {H : Hp} {p : Addr} {o : HO} (h : H p = none) : But [] H (upd H p o) := But.refl.new h
theorem szl {n : Nat} (h : n ≤ 16777216) : n ≤ sizeLine := by rw [sizeLine_eq]; exact h
theorem szt {n : Nat} (h : n < 16777216) : n < sizeLine := by rw [sizeLine_eq]; exact h

section
variable {J : It} {n : Nat} {G : Hp → Prop} {Y : Nat → Hp → V → Hp → Prop}
/-- a comprehension over the values xs whose parts change nothing: the list of F x -/
theorem lc_pure (xs : List V) (F : V → Option V) (w : Walk J n G Y) (hn : n = xs.length) (hY : ∀ i H x H', Y i H x H' → H' = H ∧ xs[i]? = some x) {g : TG} {tt : TT} {te : TE} {vs : List Nat} {σ : St} {H1 : Hp} {D : Addr} {Qd : Hp → Prop}
    (hG : ∀ acc, G (upd H1 D (.lst acc)))
    (hs : ∀ i x acc (N : Hp → Prop), xs[i]? = some x → acc.length ≤ i → (∀ y, F x = some y → N (upd H1 D (.lst (acc ++ [y])))) → (F x = none → N (upd H1 D (.lst acc))) →
      g x (wipe σ vs) (upd H1 D (.lst acc)) fun σ2 H2 => wipe σ2 vs = wipe σ vs ∧ tt σ2 H2 fun b H3 =>
        if b = true then te σ2 H3 fun y H4 => ∃ acc, H4 D = some (.lst acc) ∧ acc.length < sizeLine ∧ N (upd H4 D (.lst (acc ++ [y]))) else N H3)
    (hd : Qd (upd H1 D (.lst (xs.filterMap F)))) :
    ∃ W : Nat → Nat → Hp → Prop, (∃ m, W 0 m (upd H1 D (.lst []))) ∧ ∀ i m H, W i m H →
      (J.stop i H ∧ Qd H) ∨ (J.go i H ∧ ∃ Nx : Hp → Prop, (∀ H', Nx H' → ∃ m', m' < m ∧ W (i + 1) m' H') ∧ ∀ x H', J.yld i H x H' → g x (wipe σ vs) H' fun σ2 H2 => wipe σ2 vs = wipe σ vs ∧ tt σ2 H2 fun b H3 =>
        if b = true then te σ2 H3 fun y H4 => ∃ acc, H4 D = some (.lst acc) ∧ acc.length < sizeLine ∧ Nx (upd H4 D (.lst (acc ++ [y]))) else Nx H3) := by
  refine lc_it w (fun i H' => i ≤ n ∧ H' = upd H1 D (.lst ((xs.take i).filterMap F))) ⟨Nat.zero_le _, by simp⟩ (fun i H' _ e => by rw [e.2]; exact hG _) (fun i x H2 H3 hi e y => ?_) (fun H' e => by rw [e.2, hn, List.take_length]; exact hd)
  obtain ⟨rfl, hx⟩ := hY i _ x _ y
  rw [e.2]
  have st : xs.take (i + 1) = xs.take i ++ [x] := by rw [List.take_add_one, hx]; rfl
  refine hs i x _ (fun H' => i + 1 ≤ n ∧ H' = upd H1 D (.lst ((xs.take (i + 1)).filterMap F))) hx (Nat.le_trans (List.length_filterMap_le ..) (by rw [List.length_take]; omega)) (fun y hy => ⟨hi, ?_⟩) (fun hy => ⟨hi, ?_⟩)
  · rw [st, List.filterMap_append]; simp [hy]
  · rw [st, List.filterMap_append]; simp [hy]
/-- the end of a turn that keeps y -/
theorem lc_put {H1 : Hp} {D : Addr} {acc : List V} {y : V} {N : Hp → Prop} (hz : acc.length < sizeLine) (h : N (upd H1 D (.lst (acc ++ [y])))) :
    ∃ acc', (upd H1 D (.lst acc)) D = some (.lst acc') ∧ acc'.length < sizeLine ∧ N (upd (upd H1 D (.lst acc)) D (.lst (acc' ++ [y]))) :=
  ⟨acc, upd_same, hz, by rw [upd_upd]; exact h⟩
end
section
variable {K : PySem.W.Frag} {a : Addr} {xs : List V}
theorem yat {xs : List V} : ∀ (i : Nat) (H : Hp) (x : V) (H' : Hp), YAt xs i H x H' → H' = H ∧ xs[i]? = some x := fun _ _ _ _ h => h
theorem chars_at {l : T} {i : Nat} {c : Nat} (h : (S l).cps[i]? = some c) : l[i]? = some c := by
  have e : (S l).cps = l.toArray := rfl
  rw [e, List.getElem?_toArray] at h
  exact h
/-- the signs of a text, as values -/
def chs (l : T) : List V := l.map fun c => V.str ⟨#[c]⟩
theorem walk_S {l : T} : Walk (Its (S l)) (chs l).length (fun _ => True) (YAt (chs l)) := by
  have e : (S l).cps.size = (chs l).length := by simp [S, chs]
  rw [← e]
  refine walk_str.mono (fun _ _ => trivial) fun i H x H' _ _ y => ?_
  obtain ⟨h1, c, h2, h3⟩ := y
  refine ⟨h1, ?_⟩
  unfold chs
  rw [List.getElem?_map, chars_at h2, h3]; rfl
end
theorem met_prefix {xs : List Str} : ∀ i, i ≤ xs.length → (xs.take i).Nodup → met xs i = xs.take i
  | 0, _, _ => by simp [met]
  | i + 1, h, nd => by
    have e : xs.take (i + 1) = xs.take i ++ [xs[i]] := by rw [List.take_add_one, List.getElem?_eq_getElem (by omega)]; rfl
    rw [e] at nd ⊢
    have ih := met_prefix i (by omega) (List.nodup_append.mp nd).1
    rw [met_step (by omega), ih]
    have no : ¬ ((xs.take i).any (· == xs[i])) = true := fun z => by
      obtain ⟨y, hy, ey⟩ := List.any_eq_true.mp z
      exact (List.nodup_append.mp nd).2.2 y hy xs[i] (List.mem_singleton.mpr rfl) (eq_of_beq ey)
    rw [if_neg no]
theorem met_full {xs : List Str} : ∀ i, i ≤ xs.length → (met xs i).length = i → (xs.take i).Nodup
  | 0, _, _ => by simp
  | i + 1, h, hl => by
    have e : xs.take (i + 1) = xs.take i ++ [xs[i]] := by rw [List.take_add_one, List.getElem?_eq_getElem (by omega)]; rfl
    have le := met_le xs i (by omega)
    rw [met_step (show i < xs.length by omega)] at hl
    split at hl
    · omega
    · rename_i no
      rw [List.length_append, List.length_singleton] at hl
      have nd := met_full (xs := xs) i (by omega) (by omega)
      have ep := met_prefix i (by omega) nd
      rw [ep] at no
      rw [e]
      refine List.nodup_append.mpr ⟨nd, by simp, fun a ha b hb q => no ?_⟩
      rw [List.mem_singleton.mp hb] at q
      exact List.any_eq_true.mpr ⟨a, ha, by rw [q]; exact beq_self_eq_true _⟩
theorem met_all (xs : List Str) : (met xs xs.length).length = xs.length ↔ xs.Nodup := by
  constructor
  · intro h
    have := met_full xs.length (Nat.le_refl _) h
    rwa [List.take_length] at this
  · intro h
    rw [met_prefix xs.length (Nat.le_refl _) (by rwa [List.take_length]), List.take_length]
theorem nodup_S : ∀ ws : List (List Nat), (ws.map S).Nodup ↔ ws.Nodup
  | [] => by simp
  | a :: r => by
    rw [List.map_cons, List.nodup_cons, List.nodup_cons, nodup_S r]
    have e : S a ∈ r.map S ↔ a ∈ r := ⟨fun z => by
      obtain ⟨b, hb, eb⟩ := List.mem_map.mp z
      rw [← S_inj eb]; exact hb, fun z => List.mem_map.mpr ⟨a, z, rfl⟩⟩
    rw [e]
theorem met_nodup (ws : List (List Nat)) : decide (V.int (((met (ws.map S) (ws.map S).length).length : Nat) : Int) = V.int (((ws.length : Nat)) : Int)) = decide ws.Nodup := by
  have h := met_all (ws.map S)
  rw [nodup_S] at h
  have hl : (ws.map S).length = ws.length := List.length_map ..
  by_cases q : ws.Nodup
  · rw [decide_eq_true q, h.mpr q, hl, decide_eq_true rfl]
  · rw [decide_eq_false q]
    refine decide_eq_false fun z => ?_
    injection z with z
    exact q (h.mp (by omega))
theorem le_sign (c d : Nat) : (!decide ((S [c]).cps.toList < (S [d]).cps.toList)) = decide (d ≤ c) := by
  show (!decide ([c] < [d])) = decide (d ≤ c)
  have e : ([c] < [d]) ↔ c < d := by simp [List.cons_lt_cons_iff]
  by_cases h : d ≤ c
  · rw [decide_eq_true h, decide_eq_false (fun z => by have := e.mp z; omega)]; rfl
  · rw [decide_eq_false h, decide_eq_true (e.mpr (by omega))]; rfl
theorem filterMap_some {α β : Type} (f : α → β) : ∀ l : List α, l.filterMap (fun x => some (f x)) = l.map f := fun l => by
  induction l with
  | nil => rfl
  | cons a r ih => rw [List.map_cons, ← ih]; rfl
theorem in_all (cols others : List T) : (svs others).filterMap (fun v => some (V.bl (inV v (svs cols)))) = (others.map fun o => cols.contains o).map V.bl := by
  rw [filterMap_some]
  show (others.map sv).map _ = _
  rw [List.map_map, List.map_map]
  exact List.map_congr_left fun o _ => by show V.bl (inV (sv o) (svs cols)) = _; rw [inV_svs]; rfl
end Cn
set_option Elab.async false
set_option linter.all false
set_option maxRecDepth 100000
set_option maxHeartbeats 4000000
/-! the program's text, its promises: words and rows -/
namespace Cn
open PySem L2
def top (i : Nat) : Stmt := PySem.Challenge.pw_countonce_k20_what_is_a_database.main.body.getD i (.Pass ⟨0, 0, 0, 0⟩)
abbrev s__wall : Stmt := top 0
abbrev s_InvalidText_init : Stmt := inClass (top 3) 0
abbrev s_UnknownTable_init : Stmt := inClass (top 4) 0
abbrev s_is_name : Stmt := top 7
abbrev s_Rows_init : Stmt := inClass (top 8) 0
abbrev s_Rows_all_read : Stmt := inClass (top 8) 1
abbrev s_Rows_begins : Stmt := inClass (top 8) 2
abbrev s_Rows_words : Stmt := inClass (top 8) 3
abbrev s_Rows_need : Stmt := inClass (top 8) 4
abbrev s_Rows_new_name : Stmt := inClass (top 8) 5
abbrev s_Rows_exactly : Stmt := inClass (top 8) 6
abbrev s_Rows_finish : Stmt := inClass (top 8) 7
abbrev s_Table_init : Stmt := inClass (top 15) 0
abbrev s_Schema_init : Stmt := inClass (top 16) 0
abbrev s_Schema_parse : Stmt := inClass (top 16) 1
abbrev s_Schema_table : Stmt := inClass (top 16) 2
abbrev s_Schema_str : Stmt := inClass (top 16) 3
abbrev s_Schema_eq : Stmt := inClass (top 16) 4
abbrev s_table_rows : Stmt := top 17
abbrev s_read_tables : Stmt := top 18
abbrev s_read_table : Stmt := top 19
abbrev s_read_columns : Stmt := top 20
abbrev s_read_keys : Stmt := top 21
abbrev s_are_different : Stmt := top 22
abbrev s_has_all : Stmt := top 23
abbrev s_read_references : Stmt := top 24
abbrev s_read_reference : Stmt := top 25
abbrev s_is_integer : Stmt := top 27
abbrev s_is_cell : Stmt := top 28
abbrev s_is_row : Stmt := top 29
abbrev s_are_rows : Stmt := top 30
abbrev s_is_database : Stmt := top 31
abbrev s__law_feed : Stmt := top 33
abbrev s__law_take : Stmt := top 34
abbrev s__law_pick : Stmt := top 35
abbrev s__law_names : Stmt := top 36
abbrev s__law_words : Stmt := top 37
abbrev s__law_table : Stmt := top 38
abbrev s__law_refer : Stmt := top 39
abbrev s__law_schema : Stmt := top 40
abbrev s__law_schema_text : Stmt := top 41
abbrev s__law_row : Stmt := top 42
abbrev s__law_database : Stmt := top 43
abbrev s__law_is_cell : Stmt := top 44
abbrev s__law_is_database : Stmt := top 45
abbrev s__law_other : Stmt := top 46
abbrev s_law : Stmt := top 47
structure Txt (K : PySem.W.Frag) (mg : Str → Option Value) (CR CT CS : Addr) : Prop where
  b_len : mg "len" = none
  b_all : mg "all" = none
  b_any : mg "any" = none
  b_tuple : mg "tuple" = none
  b_list : mg "list" = none
  b_str : mg "str" = none
  b_set : mg "set" = none
  b_isinstance : mg "isinstance" = none
  clR : Cls K CR
  clT : Cls K CT
  clS : Cls K CS
  naR1 : NoAttr K CR "_rows"
  naR2 : NoAttr K CR "_at"
  naT1 : NoAttr K CT "name"
  naT2 : NoAttr K CT "columns"
  naT3 : NoAttr K CT "unique"
  naT4 : NoAttr K CT "refers"
  naS1 : NoAttr K CS "tables"
  naS2 : NoAttr K CS "_text"
  g_Schema : mg "Schema" = some (.ref CS)
  g_Table : mg "Table" = some (.ref CT)
  g_MOST_TABLES : ∃ t, mg "MOST_TABLES" = some (.int 5 t)
  g_MOST_COLUMNS : ∃ t, mg "MOST_COLUMNS" = some (.int 5 t)
  g_MOST_KEYS : ∃ t, mg "MOST_KEYS" = some (.int 3 t)
  g_MOST_KEY_COLUMNS : ∃ t, mg "MOST_KEY_COLUMNS" = some (.int 3 t)
  g_MOST_REFERENCES : ∃ t, mg "MOST_REFERENCES" = some (.int 2 t)
  nT : CT ≠ CR
  nS : CS ≠ CR
  nTS : CT ≠ CS
section
variable {P : Program} {w : World} {K : PySem.W.Frag} {mg : Str → Option Value} {base : Heap} {CR CT CS CI : Addr} {f : Addr} {fd : FuncData}

/-! ### has_all -/
theorem sc_has_all : FnScope ["columns", "others", "other"] ["columns", "others"] (defScope s_has_all) := ⟨rfl, rfl, rfl, by decide +kernel, rfl, by decide +kernel, by decide +kernel⟩
def sp_has_all (K : PySem.W.Frag) : Sp := fun vs H Q _ => ∃ a b cols others, vs = [.ref a, .ref b] ∧ (SqL K H a (svs cols) ∨ SqT K H a (svs cols)) ∧ SqT K H b (svs others) ∧ others.length ≤ 1000001 ∧
  ∀ H', But [] H H' → Q (.bl (hasAll cols others)) H'
theorem ok_has_all (F : Fun K "has_all" "has_all" s_has_all f fd) (T : Txt K mg CR CT CS) : FnOk P w K mg base (L2.CX P w) 1 f fd ["columns", "others"] (sp_has_all K) := by
  refine F.okX sc_has_all (fun vs H Q E h => ?_) (fun cdv A outer s H vs Q E hr h => ?_)
  · obtain ⟨a, b, cols, others, rfl, _⟩ := h
    rfl
  · obtain ⟨a, b, cols, others, rfl, ha, hb, hz, k⟩ := h
    refine ⟨_, (pss_one (ps_ret (pe_callB (cr_allK K rfl (by rfl)) (by rfl) T.b_all (by decide +kernel) (pa_cons (pe_lc (own := [("other", 2)]) (g := gName 2) (tt := tYes) (by rfl) sc_has_all.nd (pi_tupK K rfl (pv 1)) (blkOk_by (own := [("other", 2)]) (N := ["columns", "others", "other"]) (sc := (defScope s_has_all)) (by decide +kernel)) (fun _ _ _ _ _ => (pg_name (i := 2) sc_has_all.nd rfl (Or.inl rfl))) (fun _ _ _ _ _ => pts_nil) (fun _ _ _ _ _ => (pe_cmpR (op_in_seqK K rfl) (pv 2) (pv 0) (by rfl)))) pa_nil)))), ?_⟩
    refine ⟨_, rfl, b, rfl, ⟨_, hb⟩, fun D hD => ?_⟩
    refine lc_pure (svs others) (fun v => some (.bl (inV v (svs cols)))) (walk_tup (K := K) (a := b)) rfl yat (fun acc => sqt_keep (newB hD) hb) (fun i x acc N hx hl hy _ => ?_) ?_
    · obtain ⟨l, hl', rfl⟩ := svs_get hx
      refine ⟨rfl, _, rfl, _, rfl, _, svs cols, rfl, sq_keep (newB hD) ha, rfl, flat_svs cols, lc_put (szt ?_) (hy _ rfl)⟩
      have := (List.getElem?_eq_some_iff.mp hl').1
      omega
    · refine ⟨D, others.map fun o => cols.contains o, rfl, .inl (.inl (by rw [upd_same, in_all])), ?_⟩
      show Q (.bl ((others.map fun o => cols.contains o).all id)) _
      rw [List.all_map]
      exact k _ (newB hD)

/-! ### are_different -/
theorem sc_are_different : FnScope ["words", "columns"] ["words", "columns"] (defScope s_are_different) := ⟨rfl, rfl, rfl, by decide +kernel, rfl, by decide +kernel, by decide +kernel⟩
def sp_are_diff (K : PySem.W.Frag) : Sp := fun vs H Q _ => ∃ a b ws cols, vs = [.ref a, .ref b] ∧ SqT K H a (svs ws) ∧ (SqL K H b (svs cols) ∨ SqT K H b (svs cols)) ∧ ws.length ≤ 4000 ∧
  ∀ H', But [] H H' → Q (.bl (areDiff ws cols)) H'
theorem ok_are_diff (F : Fun K "are_different" "are_different" s_are_different f fd) (T : Txt K mg CR CT CS) (c_has_all : Cal P w K mg base 1 "has_all" (sp_has_all K)) : FnOk P w K mg base (L2.CX P w) 2 f fd ["words", "columns"] (sp_are_diff K) := by
  refine F.okX sc_are_different (fun vs H Q E h => ?_) (fun cdv A outer s H vs Q E hr h => ?_)
  · obtain ⟨a, b, ws, cols, rfl, _⟩ := h
    rfl
  · obtain ⟨a, b, ws, cols, rfl, ha, hb, hz, k⟩ := h
    refine ⟨_, (pss_one (ps_ret (pe_and (pe_cmpR op_eq (p_lenSetK K rfl (by rfl) (by rfl) T.b_len (by rfl) T.b_set (pv 0)) (pe_callB (call_len_seqK K rfl) (by rfl) T.b_len (by decide +kernel) (pa_cons (pv 0) pa_nil)) (nomark _)) (pe_one (p_call E c_has_all hr (by decide) (by rfl) (passX rfl rfl rfl (takes_of rfl rfl rfl rfl)) (pa_cons (pv 1) (pa_cons (pv 0) pa_nil))))))), ?_⟩
    refine ⟨_, rfl, a, ws.map S, rfl, by rw [← svs_str]; exact ha, by rw [List.length_map]; exact hz, _, rfl, a, _, rfl, .inr ha, rfl, _, rfl, ?_⟩
    have e : decide (V.int (((met (ws.map S) (ws.map S).length).length : Nat) : Int) = V.int ((svs ws).length : Nat)) = decide ws.Nodup := by
      rw [svs_len, met_nodup]
    rw [e]
    unfold areDiff at k
    refine ite2 (fun hd => ?_) (fun hd => ?_)
    · rw [hd, Bool.true_and] at k
      exact ⟨_, rfl, _, rfl, b, a, cols, ws, rfl, hb, ha, by omega, k⟩
    · rw [Bool.not_eq_true] at hd
      rw [hd, Bool.false_and] at k
      exact k _ But.refl

/-! ### is_name -/
theorem sc_is_name : FnScope ["word", "letter"] ["word"] (defScope s_is_name) := ⟨rfl, rfl, rfl, by decide +kernel, rfl, by decide +kernel, by decide +kernel⟩
def sp_is_name : Sp := fun vs H Q _ => ∃ l : T, vs = [sv l] ∧ l.length ≤ 1000001 ∧ ∀ H', But [] H H' → Q (.bl (isName l)) H'
theorem ok_is_name (F : Fun K "is_name" "is_name" s_is_name f fd) (T : Txt K mg CR CT CS) : FnOk P w K mg base (L2.CX P w) 1 f fd ["word"] sp_is_name := by
  refine F.okX sc_is_name (fun vs H Q E h => ?_) (fun cdv A outer s H vs Q E hr h => ?_)
  · obtain ⟨l, rfl, _⟩ := h
    rfl
  · obtain ⟨l, rfl, hz, k⟩ := h
    have hz' : (S l).length ≤ sizeLine := szl (by rw [S_len]; omega)
    refine ⟨_, (pss_one (ps_ret (pe_and (pe_chain op_le op_le pe_int (pe_callB call_len_str (by rfl) T.b_len (by decide +kernel) (pa_cons (pv 0) pa_nil)) pe_int) (pe_one (pe_callB (cr_allK K rfl (by rfl)) (by rfl) T.b_all (by decide +kernel) (pa_cons (pe_lc (own := [("letter", 1)]) (g := gName 1) (tt := tYes) (by rfl) sc_is_name.nd (pi_str (pv 0)) (blkOk_by (own := [("letter", 1)]) (N := ["word", "letter"]) (sc := (defScope s_is_name)) (by decide +kernel)) (fun _ _ _ _ _ => (pg_name (i := 1) sc_is_name.nd rfl (Or.inl rfl))) (fun _ _ _ _ _ => pts_nil) (fun _ _ _ _ _ => (pe_chain op_le_str op_le_str pe_str (pv 1) pe_str))) pa_nil)))))), ?_⟩
    unfold isName at k
    refine ⟨_, rfl, _, rfl, hz', 1, ((S l).length : Nat), rfl, rfl, _, rfl, ?_⟩
    rw [S_len]
    refine ite2 (fun h1 => ?_) (fun h1 => ?_)
    · have h1' : 1 ≤ l.length := by have := of_decide_eq_true h1; omega
      rw [decide_eq_true h1', Bool.true_and] at k
      refine ⟨_, 8, rfl, rfl, _, rfl, ?_⟩
      refine ite2 (fun h2 => ?_) (fun h2 => ?_)
      · have h2' : l.length ≤ 8 := by have := of_decide_eq_true h2; omega
        rw [decide_eq_true h2', Bool.true_and] at k
        refine ⟨_, rfl, _, rfl, fun D hD => ?_⟩
        refine lc_pure (chs l) (fun v => match v with | .str z => some (.bl (decide (97 ≤ z.cps.toList.headD 0) && decide (z.cps.toList.headD 0 ≤ 122))) | _ => none) walk_S rfl yat (fun _ => trivial) (fun i x acc N hx hl hy _ => ?_) ?_
        · obtain ⟨c, hc, rfl⟩ : ∃ c, l[i]? = some c ∧ x = .str ⟨#[c]⟩ := by
            unfold chs at hx
            rw [List.getElem?_map] at hx
            cases e : l[i]? with
            | none => rw [e] at hx; cases hx
            | some c => rw [e] at hx; exact ⟨c, rfl, (Option.some.inj hx).symm⟩
          have hl' : acc.length < sizeLine := szt (by have := (List.getElem?_eq_some_iff.mp hc).1; omega)
          refine ⟨rfl, _, rfl, S [97], S [c], rfl, rfl, _, rfl, ?_⟩
          have e1 : (!decide ((S [c]).cps.toList < (S [97]).cps.toList)) = decide (97 ≤ c) := le_sign c 97
          have hy' := hy _ rfl
          rw [e1]
          refine ite2 (fun h3 => ?_) (fun h3 => ?_)
          · refine ⟨S [c], S [122], rfl, rfl, lc_put hl' ?_⟩
            have e2 : (!decide ((S [122]).cps.toList < (S [c]).cps.toList)) = decide (c ≤ 122) := le_sign 122 c
            rw [e2]
            have e3 : (decide (97 ≤ c) && decide (c ≤ 122)) = decide (c ≤ 122) := by rw [h3, Bool.true_and]
            rw [← e3]
            exact hy'
          · refine lc_put hl' ?_
            have e3 : (decide (97 ≤ c) && decide (c ≤ 122)) = false := by rw [Bool.not_eq_true] at h3; rw [h3, Bool.false_and]
            rw [← e3]
            exact hy'
        · refine ⟨D, l.map fun c => decide (97 ≤ c) && decide (c ≤ 122), rfl, .inl (.inl ?_), ?_⟩
          · rw [upd_same]
            congr 2
            unfold chs
            rw [List.filterMap_map, List.map_map, ← filterMap_some]
            rfl
          · show Q (.bl ((l.map fun c => decide (97 ≤ c) && decide (c ≤ 122)).all id)) _
            rw [List.all_map]
            exact k _ (newB hD)
      · have h2' : ¬ l.length ≤ 8 := fun z => h2 (decide_eq_true (by omega))
        rw [decide_eq_false h2', Bool.false_and] at k
        exact k _ But.refl
    · have h1' : ¬ 1 ≤ l.length := fun z => h1 (decide_eq_true (by omega))
      rw [decide_eq_false h1', Bool.false_and] at k
      exact ⟨_, rfl, iteF (k _ But.refl)⟩
end
end Cn
set_option Elab.async false
set_option linter.all false
set_option maxRecDepth 100000
set_option maxHeartbeats 2000000
/-! Cn.B6: comprehensions whose parts make new things. -/
namespace Cn
open PySem L2
section
variable {J : It} {n : Nat} {G : Hp → Prop} {Y : Nat → Hp → V → Hp → Prop}
theorem range_succ_fm (F : Nat → Option V) (i : Nat) : (List.range (i + 1)).filterMap F = (List.range i).filterMap F ++ (F i).toList := by
  rw [List.range_succ, List.filterMap_append]
  cases h : F i <;> simp [h]
/-- the i-th turn gives F i (none: nothing is kept); what stood before stays -/
theorem lc_grow (F : Nat → Option V) (w : Walk J n G Y) {g : TG} {tt : TT} {te : TE} {vs : List Nat} {σ : St} {H1 : Hp} {D : Addr} {Qd : Hp → Prop} (hD : H1 D = none)
    (hG : ∀ H', But [] H1 H' → G H')
    (hs : ∀ i x acc H2 H' (N : Hp → Prop), i < n → acc.length ≤ i → But [] H1 H2 → H2 D = some (.lst acc) → Y i H2 x H' → (∀ y H'', F i = some y → But [] H1 H'' → H'' D = some (.lst (acc ++ [y])) → N H'') → (∀ H'', F i = none → But [] H1 H'' → H'' D = some (.lst acc) → N H'') →
      g x (wipe σ vs) H' fun σ2 H2 => wipe σ2 vs = wipe σ vs ∧ tt σ2 H2 fun b H3 =>
        if b = true then te σ2 H3 fun y H4 => ∃ acc, H4 D = some (.lst acc) ∧ acc.length < sizeLine ∧ N (upd H4 D (.lst (acc ++ [y]))) else N H3)
    (hd : ∀ H', But [] H1 H' → H' D = some (.lst ((List.range n).filterMap F)) → Qd H') :
    ∃ W : Nat → Nat → Hp → Prop, (∃ m, W 0 m (upd H1 D (.lst []))) ∧ ∀ i m H, W i m H →
      (J.stop i H ∧ Qd H) ∨ (J.go i H ∧ ∃ Nx : Hp → Prop, (∀ H', Nx H' → ∃ m', m' < m ∧ W (i + 1) m' H') ∧ ∀ x H', J.yld i H x H' → g x (wipe σ vs) H' fun σ2 H2 => wipe σ2 vs = wipe σ vs ∧ tt σ2 H2 fun b H3 =>
        if b = true then te σ2 H3 fun y H4 => ∃ acc, H4 D = some (.lst acc) ∧ acc.length < sizeLine ∧ Nx (upd H4 D (.lst (acc ++ [y]))) else Nx H3) := by
  refine lc_it w (fun i H' => i ≤ n ∧ But [] H1 H' ∧ H' D = some (.lst ((List.range i).filterMap F))) ⟨Nat.zero_le _, But.refl.new hD, upd_same⟩ (fun i H' _ e => hG _ e.2.1) (fun i x H2 H3 hi e y => ?_) (fun H' e => hd H' e.2.1 e.2.2)
  refine hs i x _ H2 H3 (fun H' => i + 1 ≤ n ∧ But [] H1 H' ∧ H' D = some (.lst ((List.range (i + 1)).filterMap F))) hi (Nat.le_trans (List.length_filterMap_le ..) (by rw [List.length_range]; exact Nat.le_refl _)) e.2.1 e.2.2 y (fun y H'' hy b hx => ⟨hi, b, ?_⟩) (fun H'' hy b hx => ⟨hi, b, ?_⟩)
  · rw [range_succ_fm, hy]; exact hx
  · rw [range_succ_fm, hy]; simpa using hx
/-- the end of a turn that keeps y -/
theorem lc_putG {H1 H4 : Hp} {D : Addr} {acc : List V} {y : V} {N : Hp → Prop} (b : But [] H1 H4) (hD : H1 D = none) (h4 : H4 D = some (.lst acc)) (hz : acc.length < 16777216) (h : ∀ H'', But [] H1 H'' → H'' D = some (.lst (acc ++ [y])) → N H'') :
    ∃ acc', H4 D = some (.lst acc') ∧ acc'.length < sizeLine ∧ N (upd H4 D (.lst (acc' ++ [y]))) :=
  ⟨acc, h4, szt hz, h _ (b.put0 hD) upd_same⟩
theorem range_map {α β : Type} (f : α → β) : ∀ xs : List α, (List.range xs.length).filterMap (fun i => (xs[i]?).map f) = xs.map f
  | [] => rfl
  | a :: r => by
    have ih := range_map f r
    rw [List.length_cons, List.range_succ_eq_map, List.filterMap_cons]
    show f a :: ((List.range r.length).map Nat.succ).filterMap _ = _
    rw [List.filterMap_map, List.map_cons, ← ih]
    congr 1
end
end Cn
namespace Cn
open PySem L2
/-- what is kept of rows of things, by a test on the things -/
theorem each_filter {α : Type} {R : V → α → Prop} (c : α → Bool) : ∀ {vs : List V} {xs : List α}, Each R vs xs → Each R ((List.range vs.length).filterMap fun i => (xs[i]?).bind fun x => if c x then vs[i]? else none) (xs.filter c)
  | [], [], _ => Each.nil
  | [], _ :: _, h => by have := h.1; simp at this
  | _ :: _, [], h => by have := h.1; simp at this
  | v :: vs, x :: xs, h => by
    have hv : R v x := h.2 0 v x rfl rfl
    have ht : Each R vs xs := ⟨by have := h.1; simpa using this, fun i a b p q => h.2 (i + 1) a b (by simpa using p) (by simpa using q)⟩
    have ih := each_filter c ht
    have e : (List.range (v :: vs).length).filterMap (fun i => ((x :: xs)[i]?).bind fun x => if c x then (v :: vs)[i]? else none) = (if c x then [v] else []) ++ (List.range vs.length).filterMap (fun i => (xs[i]?).bind fun x => if c x then vs[i]? else none) := by
      rw [List.length_cons, List.range_succ_eq_map, List.filterMap_cons, List.filterMap_map]
      have e2 : ((fun i => ((x :: xs)[i]?).bind fun x => if c x then (v :: vs)[i]? else none) ∘ Nat.succ) = (fun i => (xs[i]?).bind fun x => if c x then vs[i]? else none) := rfl
      rw [e2]
      cases h : c x <;> simp [h]
    rw [e]
    cases hc : c x with
    | true =>
      have e3 : (x :: xs).filter c = x :: xs.filter c := by rw [List.filter_cons, if_pos hc]
      rw [e3]
      refine ⟨by simp [ih.1], fun i a b p q => ?_⟩
      cases i with
      | zero => simp at p q; subst p; subst q; exact hv
      | succ i => exact ih.2 i a b (by simpa using p) (by simpa using q)
    | false =>
      have e3 : (x :: xs).filter c = xs.filter c := by rw [List.filter_cons, if_neg (by rw [hc]; exact Bool.false_ne_true)]
      rw [e3]
      simpa using ih
/-- any turn-by-turn walk within a comprehension: Z N x H' says what a turn with x at H' owes, N what it hands on -/
theorem turns {J : It} {n : Nat} {G : Hp → Prop} {Y : Nat → Hp → V → Hp → Prop} (w : Walk J n G Y) {Z : (Hp → Prop) → V → Hp → Prop} {Hs : Hp} {Qd : Hp → Prop} (Pv : Nat → Hp → Prop) (h0 : Pv 0 Hs) (hG : ∀ i H, i ≤ n → Pv i H → G H)
    (hs : ∀ i x H H', i < n → Pv i H → Y i H x H' → Z (Pv (i + 1)) x H') (hd : ∀ H, Pv n H → Qd H) :
    ∃ W : Nat → Nat → Hp → Prop, (∃ m, W 0 m Hs) ∧ ∀ i m H, W i m H → (J.stop i H ∧ Qd H) ∨ (J.go i H ∧ ∃ Nx : Hp → Prop, (∀ H', Nx H' → ∃ m', m' < m ∧ W (i + 1) m' H') ∧ ∀ x H', J.yld i H x H' → Z Nx x H') := by
  refine ⟨fun i m H => m = n - i ∧ i ≤ n ∧ Pv i H, ⟨n, by simp, Nat.zero_le _, h0⟩, ?_⟩
  rintro i m H ⟨rfl, hi, p⟩
  have q := hG i H hi p
  by_cases lt : i < n
  · exact .inr ⟨w.goes i H lt q, Pv (i + 1), fun H' p' => ⟨n - (i + 1), by omega, rfl, lt, p'⟩, fun x H' y => hs i x H H' lt p (w.yields i H x H' lt q y)⟩
  · have e : i = n := by omega
    subst e
    exact .inl ⟨w.stops H q, hd H p⟩
end Cn
namespace Cn
open PySem L2
theorem atI_neg {ls : List T} {k : Nat} (h1 : 1 ≤ k) (h : k ≤ ls.length) : atI (svs ls) (-(k : Int)) = some (sv (ls.getD (ls.length - k) [])) := by
  unfold atI ixN
  rw [svs_len, if_neg (by omega), if_pos (by omega)]
  show (svs ls)[((-(k : Int)) + (ls.length : Int)).toNat]? = _
  have e : ((-(k : Int)) + (ls.length : Int)).toNat = ls.length - k := by omega
  have hx : ls[ls.length - k]? = some (ls[ls.length - k]'(by omega)) := List.getElem?_eq_getElem _
  rw [e, svs_at hx, List.getD_eq_getElem?_getD, hx]; rfl
theorem str_go {a b : Str} {σ : L2.St} {H : Hp} {Q : VK} {c : Bool} (h : Q (.str (if c then a else b)) H) : if c = true then tC (.str a) σ H Q else tC (.str b) σ H Q := by
  cases c with
  | true => exact iteT h
  | false => exact iteF h
theorem tgt_go {K : PySem.W.Frag} {σ : L2.St} {H : Hp} {Q : VK} {c : Bool} {va : List V} {ab tb : Addr} (h2 : σ[2]? = some (some (.ref ab))) (h1 : σ[1]? = some (some (.ref tb))) (hab : H ab = some (.lst va)) (hz : va.length ≤ 1000)
    (h : ∀ l, H l = none → Q (.ref l) (upd H l (.lst (if c then va else va ++ [.ref tb])))) :
    if c = true then tCB (fun xs H Q => ∃ p ys, xs = [.ref p] ∧ (SqL K H p ys ∨ SqT K H p ys) ∧ ∀ l, H l = none → Q (.ref l) (upd H l (.lst ys))) (tCons (tVar 2) tNil) σ H Q else tLst (StX.tStar K (tVar 2) (tCons (tVar 1) tNil)) σ H Q := by
  cases c with
  | true => exact iteT ⟨_, h2, ab, va, rfl, .inl (SqL.of hab), h⟩
  | false => exact iteF ⟨_, h2, ab, va, rfl, .inr (SqL.of hab), _, h1, szl (by simp; omega), h⟩
theorem sv_eq (a b : T) : decide (sv a = sv b) = (a == b) := by
  by_cases e : a = b
  · subst e; simp
  · rw [beq_eq_false_iff_ne.mpr e]
    exact decide_eq_false fun z => e (by injection z with z; exact S_inj z)
theorem nat_eq (a b : Nat) : decide (V.int (a : Int) = V.int (b : Int)) = (a == b) := by
  by_cases e : a = b
  · subst e; simp
  · rw [beq_eq_false_iff_ne.mpr e]
    exact decide_eq_false fun z => e (by injection z with z; omega)
theorem ge_lit {n k : Nat} : decide ((k : Int) ≤ ((n : Nat) : Int)) = decide (k ≤ n) := by
  by_cases h : k ≤ n
  · rw [decide_eq_true h, decide_eq_true (by omega)]
  · rw [decide_eq_false h, decide_eq_false (by omega)]
end Cn

namespace Cn
/-- as ite2, the false way first -/
theorem ite2n {c A B : Prop} [Decidable c] (h2 : ¬ c → B) (h1 : c → A) : if c then A else B := L2.ite2 h1 h2
end Cn
set_option Elab.async false
set_option linter.all false
set_option maxRecDepth 100000
set_option maxHeartbeats 2000000
/-! Cn.B7: a caught error that is kept in a local: it is tracked behind the try; a classmethod called in a try. -/
namespace Cn
open PySem PySem.Spec PyProof.Rows L2
/-- a caught error of the class cls at a, its own dict at d -/
def XV (cls : Value) (d : Option Addr) (a : Addr) : HO := .ext fun h => ∃ (oe : Obj) (vs : Array Value), h.get? a = some oe ∧ Zc cls d oe ∧ oe.data = .fields vs
section
variable {X : Cx} {pins : List (Addr × Obj)} {σ : L2.St} {H : Hp} {s : Shared} {a : Addr}
/-- an untracked object of ours, new since the entry, is tracked from now on -/
theorem Inv.track {oe : Obj} {cls : Value} {d : Option Addr} {vs : Array Value} (I : Inv X ((a, oe) :: pins) σ H s) (hz : Zc cls d oe) (hd : oe.data = .fields vs) (n0 : X.s_0.heap.get? a = none) (hp : ∀ p ∈ X.pn ++ pins, p.1 ≠ a) : Inv X pins σ (upd H a (XV cls d a)) s := by
  obtain ⟨ga, na, nL, nF, _⟩ := I.pin (a, oe) (List.mem_append_right _ List.mem_cons_self)
  have old : ∀ b o, X.s_0.heap.get? b = some o → b ≠ a := fun b o e z => by rw [z, n0] at e; cases e
  have none' : ∀ {b o}, H b = some o → b ≠ a := fun e => ne_of_none e na
  have cne : ∀ x c, X.env.cells.lookup x = some c → c ≠ a := fun x c e z => by
    obtain ⟨v, o, ho, hd'⟩ := I.cell x c e
    rw [z, ga] at ho
    cases ho
    rw [hd] at hd'
    cases hd'
  refine ⟨I.ok, I.os, I.bare, ⟨I.base.keep, I.base.slot, fun b o e n hx => ?_, I.base.there, fun b xs e => ?_, fun b o u e => ?_, fun b ps e => ?_⟩, I.loc, I.cell, ?_, fun x c e => ?_, fun p hm => ?_, I.hok.laidN (fun b u q => q) na ?_, I.len⟩
  · rw [upd_ne (old b o e)]; exact I.base.free b o e n hx
  · have := I.base.tups b xs e
    rw [upd_ne (none' this)]; exact this
  · have := I.base.frzs b o u e
    rw [upd_ne (none' this)]; exact this
  · obtain ⟨m, this⟩ := I.base.tbls b ps e
    exact ⟨m, by rw [upd_ne (none' this)]; exact this⟩
  · rw [upd_ne nL.symm]; exact I.free
  · rw [upd_ne (cne x c e)]; exact I.freeC x c e
  · have pm : p ∈ X.pn ++ (a, oe) :: pins := (List.mem_append.mp hm).elim (fun z => List.mem_append_left _ z) fun z => List.mem_append_right _ (List.mem_cons_of_mem _ z)
    obtain ⟨p1, p2, p3⟩ := I.pin p pm
    exact ⟨p1, by rw [upd_ne (hp p hm)]; exact p2, p3⟩
  · exact ⟨⟨oe, vs, ga, hz, hd⟩, ⟨oe, ga⟩, fun _ _ ⟨o, v, q, r⟩ k => ⟨o, v, k o q, r⟩⟩
end
/-- what 'except x as n: ..' wishes of an error, which stays tracked behind the suite -/
def wKp (K : PySem.W.Frag) (c : Value) (i : Nat) (ts : Addr → Value → Option Addr → TS) (Wout : WX) (D : Ends) : WX := fun cls d σ H =>
  ∃ b, PySem.W.exmOne K cls c = some b ∧ (b = true → ∀ a, H a = none → ts a cls d { nx := fun σ' H' => D.nx (σ'.set i none) (upd H' a (XV cls d a)), rt := fun _ _ => False, bk := fun _ _ => False, ct := fun _ _ => False } (σ.set i (some (.ref a))) H) ∧ (b = false → Wout cls d σ H)
section
variable {X : Cx} {x n : Str} {c : Value} {i : Nat} {body suite : List Stmt} {b₀ : Stmt} {np pos pos' : Pos} {tb : WX → TS} {ts : Addr → Value → Option Addr → TS} {Wout : WX}
theorem ps_try_keep (hs : X.stack = X.env :: X.outer) (hf : X.env.frame = some X.env.locals) (hx0 : X.ex = []) (hN : X.N.Nodup) (hi : X.N[i]? = some n) (hln : X.env.kindOf n = some .local) (hc : Names X x c) (tk : Takes X Wout)
    (hb : ∀ (W : WX) (pn : List (Addr × Obj)) (xe : Value → Shared → Prop), Takes (X.tr pn xe) W → PassesOwn (model X.prog X.w) X.A X.env xe → PSs (X.tr pn xe) body (tb W))
    (hsu : ∀ (a : Addr) (oe : Obj) (cls : Value) (d : Option Addr) (pn : List (Addr × Obj)), Zc cls d oe → (∃ vs, oe.data = .fields vs) → PSs (X.suite a ((a, oe) :: pn)) (b₀ :: suite) (ts a cls d)) :
    PS X (.Try body [.ExceptHandler (some (.Name x np)) (some n) (b₀ :: suite) pos'] [] [] pos) (fun D σ H => tb (wKp X.K c i ts Wout D) D σ H) := by
  refine ⟨fun pins s σ H D I h => ?_⟩
  have ok := I.ok
  have fr : X.A.frames = some (X.env :: X.outer) := ok.frames.trans (congrArg some hs)
  refine wpAny_Try_except (wpAny_mono ((hb (wKp X.K c i ts Wout D) (X.pn ++ pins) (fun e s₁ => wpAny (model X.prog X.w) X.A (noteFrame e X.env) (fun _ s₂ => wpAny (model X.prog X.w) X.A (setFlight e none) (fun _ s₃ =>
    wpAny (model X.prog X.w) X.A (handleBy e X.env [.ExceptHandler (some (.Name x np)) (some n) (b₀ :: suite) pos']) (SP X pins D) X.xe s₃) X.xe s₂) X.xe s₁) (fun u s' caught => ?g1) PassesOwn.looking).run [] s σ H D (I.toTry _) h) (fun f s1 e => ?g2) (fun e s1 he => he))
  case g2 =>
    rcases f with _ | _ | _ | _
    all_goals first
      | (obtain ⟨σ', H', J, q⟩ := e; first | exact wpAny_execs_nil ⟨σ', H', J.ofTry ok, q⟩ | exact ⟨σ', H', J.ofTry ok, q⟩)
      | (obtain ⟨v, σ', H', J, r, q⟩ := e; exact ⟨v, σ', H', J.ofTry ok, r, q⟩)
  case g1 =>
    obtain ⟨a, B, sI, ps, σ1, H1, cls, d, rfl, J0, ground, up, sky, na, os, ag, b, hb1, yes, no⟩ := caught
    have J : Inv X pins σ1 H1 sI := J0.ofTry ok
    have sky : Sky B (X.env :: X.outer) a (Zc cls d) X.env.locals s'.heap := by rw [← hs]; exact sky
    -- the error is new since the entry
    have Ba : B.get? a = none := by
      rcases sky with z | z | z
      · exact z.2.1
      · exact z.2.1
      · exact z.2.1
    show wpAny (model X.prog X.w) X.A (noteFrame (.ref a) X.env) _ _ _
    refine Sky.land Zc.steady fr hf sky fun h3 fl3 up3 => ?_
    have J3 : Inv X pins σ1 H1 { s' with heap := h3 } := J.landed ground fl3.1 (up.trans up3) os ag
    obtain ⟨oe3, vs3, he3, hz3, hd3⟩ := fl3.there
    have nfr : a ∉ frs (X.env :: X.outer) := fun hm => by
      obtain ⟨_, o', e', hnf⟩ := fl3.2.2.1.mem hm
      rw [he3] at e'
      cases e'
      exact hnf _ hd3
    have nL : a ≠ X.env.locals := fun z => nfr (List.mem_filterMap.mpr ⟨X.env, List.mem_cons_self, by rw [hf, z]⟩)
    have nF : a ∉ X.fs := fun hm => by
      obtain ⟨e, he, q⟩ := List.mem_filterMap.mp hm
      exact nfr (List.mem_filterMap.mpr ⟨e, List.mem_cons_of_mem _ he, q⟩)
    have nst : a ∉ frs X.stack := by rw [hs]; exact nfr
    have gI : sI.heap.get? a = none := by
      cases q : sI.heap.get? a with
      | none => rfl
      | some o => have z := ground a o q nst; rw [Ba] at z; cases z
    have n0 : X.s_0.heap.get? a = none := by
      cases q : X.s_0.heap.get? a with
      | none => rfl
      | some o => obtain ⟨o', z⟩ := J.base.there a o q (by rw [hx0]; simp); rw [gI] at z; cases z
    have npin : ∀ p ∈ X.pn ++ pins, p.1 ≠ a := fun p hp z => by
      have q := (J.pin p hp).1
      rw [z, gI] at q
      cases q
    have S3 := J3.suite he3 hd3 na nL nF
    refine wpAny_handleBy_cons (codeAny_handlers_test ?_) (by intro q; cases q)
    have LT : PySem.W.Looks (model X.prog X.w) h3 (typeOf (.ref a)) cls := fun A Q E s k q => wpAny_typeOf_ref (k _ _ he3) (by rw [hz3.1]; exact q)
    have LM := PySem.W.exm_one (M := model X.prog X.w) J3.kIn LT hb1
    have test : ∀ {Q E : Value → Shared → Prop}, Q c { s' with heap := h3 } → wpAny (model X.prog X.w) (X.A.mark (some (.ref a))) (eval (.Name x np) X.env) Q E { s' with heap := h3 } := fun {Q E} q => by
      obtain ⟨g, dbg, m | ⟨m, v, nn⟩⟩ := hc
      · exact ld_glob (X := X.suite a ((a, oe3) :: (X.pn ++ pins))) S3 g m q dbg
      · exact ld_blt (X := X.suite a ((a, oe3) :: (X.pn ++ pins))) S3 g m v q nn dbg
    refine test (LM.here ?_)
    cases b with
    | true =>
      refine codeAny_handlers_suite_as (HandSPX.lands_againZ fl3 fun h4 fl4 up4 => ?_)
      have J4 : Inv X pins σ1 H1 { s' with heap := h4 } := J.landed ground fl4.1 ((up.trans up3).trans up4) os ag
      obtain ⟨oe4, vs4, he4, hz4, hd4⟩ := fl4.there
      have S4 := J4.suite he4 hd4 na nL nF
      refine store_ok (X := X.suite a ((a, oe4) :: (X.pn ++ pins))) (v := .ref a) S4 hN hi (.inl hln) rfl (fun s5 S5 => ?_) (.inr hln)
      refine wpAny_mono ((hsu a oe4 cls d (X.pn ++ pins) hz4 ⟨_, hd4⟩).run [] s5 _ H1 _ S5 (yes rfl a na)) (fun f s6 e => ?_) (fun _ _ z => False.elim z)
      cases f with
      | next =>
        obtain ⟨σ6, H6, S6, q6⟩ := e
        have pa := S6.pin (a, oe4) (List.mem_append_left _ List.mem_cons_self)
        have J6 : Inv X ((a, oe4) :: pins) σ6 H6 s6 := (S6.unsuite ok).pins_of fun p hp => by
          rcases List.mem_cons.mp hp with z | z
          · rw [z]; exact pa
          · exact (S6.unsuite ok).pin p (List.mem_append_right _ z)
        show wpAny (model X.prog X.w) X.A (do bindName X.env n .none; unbindBehindTheSuite X.env n pos') _ _ _
        exact gone_ok J6 hN hi hln fun s7 J7 => ⟨_, _, Inv.track J7 hz4 hd4 n0 npin, q6⟩
      | brk => obtain ⟨_, _, _, z⟩ := e; exact z.elim
      | cont => obtain ⟨_, _, _, z⟩ := e; exact z.elim
      | ret u => obtain ⟨_, _, _, _, _, z⟩ := e; exact z.elim
    | false =>
      show wpAny _ X.A (handleBy (.ref a) X.env []) _ _ _
      refine wpAny_handleBy_nil ?_
      obtain ⟨k1, k2, k3, oe, vs, tb', oT, ts', he, hz, hd, h1, hr⟩ := id fl3
      unfold PySem.passOn
      refine wpAny_bind (wpAny_field he hd h1 ?_)
      rw [if_neg (show ¬ ((Value.ref tb' == Value.none) = true) from by simp)]
      have fin : wpAny (model X.prog X.w) X.A (setFlight (.ref a) X.env.frame) (fun _ s4 => wpAny (model X.prog X.w) X.A (throw (.ref a) : Sem Flow) (SP X pins D) X.xe s4) X.xe { s' with heap := h3 } := by
        rw [hf]
        refine HandSPX.setFlight_upZ fl3 fun h4 hh4 up4 => wpAny_throw (tk _ _ ?_)
        exact ⟨a, B, sI, pins, σ1, H1, cls, d, rfl, J, ground, (up.trans up3).trans up4, .inr (.inr (by rw [hs]; exact hh4)), na, os, ag, no rfl⟩
      first
        | exact wpAny_bind (wpAny_pure (wpAny_bind fin))
        | exact wpAny_bind fin
end
section
variable {X : Cx} {C : Addr} {e : Expr} {te : TE} {pos : Pos} {n : Str}
/-- err.f of a kept error -/
def tXv (C : Addr) (f : Str) (te : TE) : TE := fun σ H Q => te σ H fun x H1 => ∃ (a dd : Addr) (fs : List (Str × V)) (v : V), x = .ref a ∧ H1 a = some (XV (.ref C) (some dd) a) ∧ H1 dd = some (.xd fs) ∧ fs.lookup f = some v ∧ Q v H1
theorem pe_xv (T : XfC X.K C) (hno : PySem.W.findIn X.K (.ref C) n = some none) (he : PE X e te) (hb : attributeBase e n X.env (eval e X.env) = eval e X.env := by rfl) : PE X (.Attribute e n pos) (tXv C n te) := by
  refine ⟨fun pins s σ H Q I h => attr_of hb (thn (he.run pins s σ H _ I h) fun u s1 ⟨x, H1, I1, rx, a, dd, fs, v, ex, ea, ed, l, q⟩ => ?_)⟩
  subst ex
  obtain rfl : u = Value.ref a := rx
  have hx : ObjOk X.prog X.w H1 s1.heap dd (.xd fs) := I1.hok dd _ ed
  obtain ⟨mA, hns, hr⟩ := hx
  have hA : ObjOk X.prog X.w H1 s1.heap a (XV (.ref C) (some dd) a) := I1.hok a _ ea
  obtain ⟨⟨oe, vs, ha, hz, hd⟩, _⟩ := hA
  obtain ⟨od, ho, hl⟩ := lookIn_ns hns
  obtain ⟨w', hu, ru⟩ := RelO.some_of (v := v) (o := mA n) (by rw [← l]; exact hr n)
  have J : PySem.W.InstAt s1.heap a oe C (some od) := ⟨ha, hz.1, by unfold PySem.W.notCls; rw [hd], by rw [hz.2]; exact ho⟩
  exact HandSPX.exc_get I1.kIn J T.ga T.gg T.exC (PySem.W.findObj_own T.hdC hno rfl (by rw [hl, hu])) (handed_of ru) ⟨v, H1, I1.tok _, ru, q⟩
end
/-! ### a classmethod's call in a try -/
section
variable {X : Cx} {CX : CXT} {k : Nat} {C p g : Addr} {mc : Value} {sp : Sp} {E : L2.St → XK} {o e : Expr} {es : List Expr} {f m : Str} {pos apos : Pos} {ta : TE} {t : TA} {pl : Sem Bool}
def tCMethS (C : Addr) (sp : Sp) (E : L2.St → XK) (ta : TE) (t : TA) : TE := fun σ H Q => ta σ H fun x H1 => x = .ref C ∧ t σ H1 fun vs H2 => sp (.ref C :: vs) H2 Q (E σ)
theorem p_cmethS (he : PE X o ta) (r : ClX.CRead X.K C mc) (c : ClX.CMet X.K C mc m p g) (F : FnR X.prog X.w X.K X.mg X.base CX k g sp) (hr : Room k X.A) (hx : ∀ σ, PassesAt CX X σ (E σ)) (ha : PA X (e :: es) t)
    (hst : starEach (e :: es) X.env = (false, eval e X.env) :: starEach es X.env := by rfl) (hpl : (backTo pos (starEach es X.env)).any (·.1) = false := by rfl)
    (ht : eval (.Call (.Attribute o m apos) (e :: es) [] pos) X.env = (do
      let ov ← eval o X.env
      standAt apos.atName
      let (f, first) ← holding [ov] (getMethod ov m pl)
      callWith pos f first (backTo pos (starEach (e :: es) X.env)) (backToKw pos (keywordEach [] X.env))) := by rfl) :
    PE X (.Call (.Attribute o m apos) (e :: es) [] pos) (tCMethS C sp E ta t) := by
  refine ⟨fun pins s σ H Q I h => PySem.W.methodCall_KW (pl := pl) (thn (he.run pins s σ H _ I h) fun u s1 ⟨x, H1, I1, rx, ex, q⟩ => ?_) ht⟩
  subst ex
  obtain rfl : u = Value.ref C := rx
  refine ClX.getmethcm_ok I1 r c fun s2 I2 => ?_
  refine ClX.callwith_cm I2 (ClX.base_none I1 (Nat.le_refl _)) c.fi (thn (ha.run pos _ s2 σ H1 _ I2 q) fun us s3 ⟨vs, H2, I3, rv, q2⟩ => ⟨⟨ClX.pin_at I3, I3.kIn⟩, ?_⟩) hst hpl
  refine thn (Q := EP X ((s1.heap.objs.size, PySem.W.methodObj (.ref g) (.ref C)) :: pins) σ Q) (wpAny_call (PySem.W.method_call (ClX.pin_at I3) (codeAny_mono (F X.A X.stack s3 H2 (.ref C :: us) (.ref C :: vs) Q (E σ) hr I3.env0 (.cons rfl rv) q2) fun r s' hq => ?_))) fun _ _ y => ClX.unpinE y
  cases r with
  | error e => exact hx σ _ H2 s3 e s' I3 hq
  | ok fl =>
    cases fl with
    | ret u => exact I3.after hq
    | next => exact False.elim hq
    | brk => exact False.elim hq
    | cont => exact False.elim hq
end
end Cn
set_option Elab.async false
set_option linter.all false
set_option maxRecDepth 100000
set_option maxHeartbeats 2000000
/-! Cn.B8: str(x) of an own class. -/
namespace Cn
open PySem PySem.Spec PyProof.Rows L2
section
variable {X : Cx} {k j : Nat} {C : Addr} {sp : Sp} {E : XK}
theorem call_str_own (E : XK) (c : Met X.prog X.w X.K X.mg X.base k C "__str__" sp) (hr : Room j X.A) (hk : k + 2 ≤ j) (hx : Passes (L2.CX X.prog X.w) X E) :
    CallR X (.type "str") (fun xs H Q => ∃ a dx fs, xs = [.ref a] ∧ H a = some (.ins C dx fs) ∧ sp [.ref a] H (fun v H' => (∃ t, v = .str t) ∧ Q v H') E) := by
  intro pins s σ H xs us Q I r h
  obtain ⟨f, fd, ps, hC, hm, F, hb⟩ := c.ex
  obtain ⟨a, dx, fs, rfl, ha, q⟩ := h
  obtain ⟨u, rfl, ru⟩ := vals1 r
  obtain rfl : u = Value.ref a := ru
  obtain ⟨mA, J, _⟩ := ins_get I.hok ha
  obtain ⟨od, J, _⟩ := J.look
  have sb : Sub X k X.A.in1.in1 := Sub.in1 (Sub.in1 ⟨hr.mono hk, rfl⟩)
  refine PySem.W.kso_call sb.room.units0 I.kIn J hm.at_ hm.fn ?_
  have e0 : Env0 X.prog X.w X.K X.mg X.base X.A.in1.in1 X.stack s H := by
    have e := I.env0
    exact ⟨by rw [sb.fr]; exact e.frames, e.mod, e.bs, e.bsz, e.funs, e.frf, e.hok, e.bare⟩
  have hl := F.len _ _ _ _ q
  have r2 : Vals [V.ref a] [Value.ref a] := .cons rfl .nil
  refine wpAny_call (codeAny_mono (F.run X.A.in1.in1 X.stack s H ⟨[.ref a], []⟩ [.ref a] [.ref a] _ E sb.room e0 (by
    have := hb s [.ref a] I.kIn (by simpa using hl)
    simpa using this) r2 q) fun r s' hq => ?_)
  cases r with
  | error e => exact hx pins σ H s e s' I hq
  | ok fl =>
    cases fl with
    | ret w =>
      obtain ⟨z, H', I', rz, ⟨t, ez⟩, q⟩ := I.after hq
      subst ez
      obtain ⟨tk, rfl⟩ := rz
      exact ⟨.str t, H', I', ⟨tk, rfl⟩, q⟩
    | next => exact False.elim hq
    | brk => exact False.elim hq
    | cont => exact False.elim hq
end
end Cn
namespace Cn
open PySem PySem.Spec PyProof.Rows L2
theorem foldl_arr : ∀ (L : List (Array Nat)) (acc : Array Nat), (L.foldl (· ++ ·) acc) = acc ++ (L.map Array.toList).flatten.toArray
  | [], acc => by simp
  | a :: r, acc => by
    rw [List.foldl_cons, foldl_arr r]
    apply Array.ext'
    simp
def repT (n : Nat) (a : T) : T := (List.replicate n a).flatten
theorem repT_len (n : Nat) (a : T) : (repT n a).length = n * a.length := by simp [repT]
theorem rep_S (n : Nat) (a : T) : (⟨(List.replicate n (S a).cps).foldl (· ++ ·) #[]⟩ : Str) = S (repT n a) := by
  rw [foldl_arr]
  unfold S repT
  congr 1
  simp
section
variable {X : Cx}
theorem op_repS : OpR X (binaryOp .Mult) (fun x y H Q => ∃ (a : T) (n : Nat), x = sv a ∧ y = .int (n : Int) ∧ 1 ≤ n ∧ n ≤ 100000 ∧ a.length ≤ 100 ∧ a ≠ [] ∧ Q (sv (repT n a)) H) := by
  intro pins s σ H x y v u Q I rx ry h
  obtain ⟨a, n, rfl, rfl, h1, h2, h3, h4, q⟩ := h
  obtain ⟨t, rfl⟩ := rx
  obtain ⟨t', rfl⟩ := ry
  have hx : (S a).length = a.length := S_len a
  have hb : n * a.length ≤ 10000000 := by have := Nat.mul_le_mul h2 h3; omega
  refine PySem.P.mul_str ?_ (fun _ _ => ?_) (fun _ _ => ?_) ?_
  · rw [decide_eq_false (by omega), decide_eq_false (by omega)]; rfl
  · rw [hx]
    have : (100000 : Int) ≤ (2 ^ 63 - 1) / (n : Int) := by
      refine (Int.le_ediv_iff_mul_le (by omega)).mpr ?_
      omega
    omega
  · rw [hx]
    unfold PySem.Builtin.Str.tooLong
    have : a.length * n ≤ 10000000 := by rw [Nat.mul_comm]; exact hb
    have e : ((n : Int)).toNat = n := by omega
    rw [e, sizeLine_eq]
    exact decide_eq_false (by omega)
  · rw [if_neg (by omega)]
    by_cases e1 : ((n : Int) == 1 || (S a).length == 0) = true
    · rw [if_pos e1]
      have n1 : n = 1 := by
        rcases Bool.or_eq_true _ _ ▸ e1 with z | z
        · have := eq_of_beq z; omega
        · have z2 := eq_of_beq z
          rw [hx] at z2
          exact absurd (List.length_eq_zero_iff.mp z2) h4
      subst n1
      have : repT 1 a = a := by simp [repT]
      rw [this] at q
      exact ⟨sv a, H, I, ⟨t, rfl⟩, q⟩
    · rw [if_neg e1]
      have e : ((n : Int)).toNat = n := by omega
      rw [e, rep_S]
      refine ⟨szl (by rw [S_len, repT_len]; omega), sv (repT n a), H, I.tok _, ⟨_, rfl⟩, q⟩
end
end Cn

namespace Cn
open PySem PySem.Spec PyProof.Rows L2
/-- a classmethod of our own -/
structure CMt (P : Program) (w : World) (K : PySem.W.Frag) (mg : Str → Option Value) (base : Heap) (k : Nat) (C : Addr) (m : Str) (sp : Sp) : Prop where
  ex : ∃ (mc : Value) (p g : Addr), ClX.CRead K C mc ∧ ClX.CMet K C mc m p g ∧ FnR P w K mg base (L2.CX P w) k g sp
section
variable {X : Cx} {k j : Nat} {C : Addr} {sp : Sp} {E : L2.St → XK} {o e : Expr} {es : List Expr} {m : Str} {pos apos : Pos} {ta : TE} {t : TA} {pl : Sem Bool}
theorem p_cmt (he : PE X o ta) (c : CMt X.prog X.w X.K X.mg X.base k C m sp) (hr : Room j X.A) (hk : k ≤ j) (hx : ∀ σ, PassesAt (L2.CX X.prog X.w) X σ (E σ)) (ha : PA X (e :: es) t)
    (hst : starEach (e :: es) X.env = (false, eval e X.env) :: starEach es X.env := by rfl) (hpl : (backTo pos (starEach es X.env)).any (·.1) = false := by rfl)
    (ht : eval (.Call (.Attribute o m apos) (e :: es) [] pos) X.env = (do
      let ov ← eval o X.env
      standAt apos.atName
      let (f, first) ← holding [ov] (getMethod ov m pl)
      callWith pos f first (backTo pos (starEach (e :: es) X.env)) (backToKw pos (keywordEach [] X.env))) := by rfl) :
    PE X (.Call (.Attribute o m apos) (e :: es) [] pos) (tCMethS C sp E ta t) := by
  obtain ⟨mc, p, g, r, cm, F⟩ := c.ex
  exact p_cmethS he r cm F (hr.mono hk) hx ha hst hpl ht
theorem passE {E : XK} (h : Passes (L2.CX X.prog X.w) X E) (σ : L2.St) : PassesAt (L2.CX X.prog X.w) X σ E := fun pins H s e s' I c => h pins σ H s e s' I c
end
end Cn
set_option Elab.async false
set_option linter.all false
set_option maxRecDepth 100000
set_option maxHeartbeats 0
/-! Cn.B15: the head's words that are the same for every law. -/
namespace Cn
open PySem L2
def oexB (K : PySem.W.Frag) (C : Addr) : Bool := (match K.lookup C with
  | some ⟨.type "type", _, .cls cd, sl⟩ => (match cd.mro, sl.toList with
    | .ref C' :: bm, [_, _, _, _, some (.builtin n), _] => C' == C && (n == "ValueError.__new__" && (!cd.hasDel && (cd.hasDict && PySem.HandSPX.refsVE bm)))
    | _, _ => false)
  | _ => false) && (decide (PySem.W.findIn K (.ref C) "__setattr__" = some (some (.builtin "object.__setattr__"))) && (decide (PySem.W.subIn K (.ref C) (.type "BaseException") = some true) && (decide (PySem.W.typeIn K (.ref C) = some (.type "type")) && PySem.W.keepIn K (.ref C))))
theorem oexB_ok {K : PySem.W.Frag} {C : Addr} (h : oexB K C = true) : OexC K C := by
  obtain ⟨h1, h⟩ := He.ba h
  obtain ⟨h2, h⟩ := He.ba h
  obtain ⟨h3, h⟩ := He.ba h
  obtain ⟨h4, h5⟩ := He.ba h
  refine ⟨?_, of_decide_eq_true h2, of_decide_eq_true h3, of_decide_eq_true h4, h5⟩
  clear h2 h3 h4 h5 h
  split at h1
  · rename_i dd cd sl ho
    split at h1
    · rename_i C' bm k0 k1 k2 k3 n k5 hm hs
      simp only [Bool.and_eq_true, beq_iff_eq, Bool.not_eq_true'] at h1
      obtain ⟨rfl, rfl, hdel, hdict, ht⟩ := h1
      obtain ⟨nm, bs, mro, ns, qn, hd, sn, sub, ab, col, del⟩ := cd
      dsimp only at hm hdel hdict
      subst hm hdel hdict
      have hsl : sl = #[k0, k1, k2, k3, some (.builtin "ValueError.__new__"), k5] := by
        obtain ⟨l⟩ := sl
        simp only at hs
        rw [hs]
      subst hsl
      exact ⟨_, _, _, _, _, _, _, _, _, _, _, _, _, _, _, ho, ht⟩
    · cases h1
  · cases h1
theorem cread_of2 {K : PySem.W.Frag} {C : Addr} (h0 : PySem.W.readsIn K C (.type "type") = true) : ClX.CRead K C (.type "type") := by
  refine ⟨h0, ?_⟩
  have h := h0
  unfold PySem.W.readsIn at h
  obtain ⟨h, _⟩ := He.ba h
  obtain ⟨h, _⟩ := He.ba h
  obtain ⟨h, h3⟩ := He.ba h
  obtain ⟨_, h2⟩ := He.ba h
  unfold PySem.W.specialIn
  rw [beq_iff_eq.mp h2, Option.bind_some]
  exact beq_iff_eq.mp h3
def xinitB (K : PySem.W.Frag) (C : Addr) : Bool := decide (PySem.W.findIn K (.ref C) "__init__" = some (some (.ref (He.ma K C "__init__")))) && decide (PySem.W.typeIn K (.ref (He.ma K C "__init__")) = some (.type "function"))
def obsZ (ex : PySem.W.Frag → Bool) (fn : List He5.DefA) (K : PySem.W.Frag) : He.AlD := (ex K && fn.all fun d => d.ok K, fn.map fun d => He5.fnA K (d.at_ K))
def SaysZ (ex : PySem.W.Frag → Bool) (fn : List He5.DefA) (K : PySem.W.Frag) : Prop := obsZ ex fn K = He5.valA fn
def obsZG (n : Nat) (ex : PySem.W.Frag → Bool) (fn : List He5.DefA) (g : Addr → Option Obj) : He.AlD := obsZ ex fn (He.frG g (He5.asA g n))
def hookZ (n : Nat) (ex : PySem.W.Frag → Bool) (fn : List He5.DefA) : PySem.W.Hook where
  α := He.AlD
  obs := fun s => obsZG n ex fn s.heap.get?
  val := fun _ => He5.valA fn
  says := fun _ h => ∃ K : PySem.W.Frag, K.In h ∧ SaysZ ex fn K
  of := fun _ _ e => ⟨_, He.frG_in, e⟩
  keeps := fun _ _ _ ⟨K, hK, c⟩ k => ⟨K, PySem.W.Frag.In.keeps hK k, c⟩
theorem obsZ_eq {n : Nat} {ex : PySem.W.Frag → Bool} {fn : List He5.DefA} {g : Addr → Option Obj} {s : Shared} (h : ∀ a, g a = s.heap.get? a) : obsZG n ex fn g = (hookZ n ex fn).obs s := by
  have e : g = s.heap.get? := funext h
  rw [e]; rfl
/-- the end, where what is let out is told by the world too -/
theorem walkW {l : PySem.W.OpenLaw} {n k : Nat} {q : Program} {loose : List Str} {XP : (Str → Option Value) → Heap → Prop} {YP : World → Heap → Prop} {d : DefRec} {CW : World → CXT} {x : Str} (hn : l.most = some n) (hn2 : n ≤ sizeLine) (hdf : d.params.defaults = []) (hr : Room k callerA)
    (F : ∀ (w : World) (mg : Str → Option Value) (fa : Addr) (h : Heap), YP w h → h.Ns mainGlobals mg → mg d.name = some (.ref fa) → ∃ (K : PySem.W.Frag) (fd : FuncData) (sp : Sp), K.In h ∧ (∀ (s : Shared) (u : Value), BindsTo s fd ⟨[u], []⟩ [(x, u)]) ∧
      (∀ (H : Hp) (a : Addr) (ns : List Int), ns.length ≤ n → Only H → SqL K H a (ns.map V.int) → sp [.ref a] H (fun v _ => v = .bl true) fun _ _ _ => False) ∧ ∀ base : Heap, K.In base → base.Ns mainGlobals mg → FnOk l.prog w K mg base (CW w) k fa fd [x] sp)
    (hX : ∀ (w : World) (H : Hp) (s : Shared) (e : Value) (s' : Shared), CW w [] H s (fun _ _ _ => False) e s' → False) : PySem.W.WalkO q loose XP YP l.row.toRowW d [] (fun f vs => PySem.call f vs) := by
  refine Att.attach_call hn hdf fun w t₀ t₁ mg mb fa ob p1 p2 p3 b us ns G Y g1 g2 g3 g4 g5 g6 g7 g8 => ?_
  obtain ⟨K, fd, sp, KX, hb, hsp, hF⟩ := F w mg fa _ Y G.T.g g4
  exact law_call KX G.T.g G.T.b G.T.builtins G.T.nolimit g8 g5 g6 (Nat.le_trans g7 hn2) hr hF hb (fun H hO hS => hsp H b ns g7 hO hS) fun H e s' => hX w H t₁ e s'
end Cn
set_option Elab.async false
set_option linter.all false
set_option maxRecDepth 100000
set_option maxHeartbeats 0
namespace Cn
open PySem L2
abbrev Rw : PySem.W.OpenRow := PySem.W.OpenLaw.row PySem.Challenge.rw_countonce_k20_what_is_a_database
def loose1 : List PySem.Str := ["_wall", "CountError", "InvalidText", "UnknownTable", "HIGHEST", "is_name", "Rows", "MOST_TABLES", "MOST_COLUMNS", "MOST_KEYS", "MOST_KEY_COLUMNS", "MOST_REFERENCES", "Table", "Schema", "table_rows", "read_tables", "read_table", "read_columns", "read_keys", "are_different", "has_all", "read_references", "read_reference", "is_integer", "is_cell"]
def loose2 : List PySem.Str := ["is_row", "are_rows", "is_database", "_law_feed", "_law_take", "_law_pick", "_law_names", "_law_words", "_law_table", "_law_refer", "_law_schema", "_law_schema_text", "_law_row", "_law_database", "_law_is_cell", "_law_is_database", "_law_other"]
def loose : List PySem.Str := loose1 ++ (loose2)
def fnAll : List He5.DefA := [
  ⟨(fun K => He.fAd K ("_wall", none)), "_wall", "_wall", defArgs s__wall, defBody s__wall, defScope s__wall, [], []⟩,
  ⟨(fun K => He.fAd K ("InvalidText", some "__init__")), "__init__", "InvalidText.__init__", defArgs s_InvalidText_init, defBody s_InvalidText_init, defScope s_InvalidText_init, [], []⟩,
  ⟨(fun K => He.fAd K ("UnknownTable", some "__init__")), "__init__", "UnknownTable.__init__", defArgs s_UnknownTable_init, defBody s_UnknownTable_init, defScope s_UnknownTable_init, [], []⟩,
  ⟨(fun K => He.fAd K ("is_name", none)), "is_name", "is_name", defArgs s_is_name, defBody s_is_name, defScope s_is_name, [], []⟩,
  ⟨(fun K => He.fAd K ("Rows", some "__init__")), "__init__", "Rows.__init__", defArgs s_Rows_init, defBody s_Rows_init, defScope s_Rows_init, [], []⟩,
  ⟨(fun K => He.fAd K ("Rows", some "all_read")), "all_read", "Rows.all_read", defArgs s_Rows_all_read, defBody s_Rows_all_read, defScope s_Rows_all_read, [], []⟩,
  ⟨(fun K => He.fAd K ("Rows", some "begins")), "begins", "Rows.begins", defArgs s_Rows_begins, defBody s_Rows_begins, defScope s_Rows_begins, [], []⟩,
  ⟨(fun K => He.fAd K ("Rows", some "words")), "words", "Rows.words", defArgs s_Rows_words, defBody s_Rows_words, defScope s_Rows_words, [], []⟩,
  ⟨(fun K => He.fAd K ("Rows", some "need")), "need", "Rows.need", defArgs s_Rows_need, defBody s_Rows_need, defScope s_Rows_need, [], []⟩,
  ⟨(fun K => He.fAd K ("Rows", some "new_name")), "new_name", "Rows.new_name", defArgs s_Rows_new_name, defBody s_Rows_new_name, defScope s_Rows_new_name, [], []⟩,
  ⟨(fun K => He.fAd K ("Rows", some "exactly")), "exactly", "Rows.exactly", defArgs s_Rows_exactly, defBody s_Rows_exactly, defScope s_Rows_exactly, [], []⟩,
  ⟨(fun K => He.fAd K ("Rows", some "finish")), "finish", "Rows.finish", defArgs s_Rows_finish, defBody s_Rows_finish, defScope s_Rows_finish, [], []⟩,
  ⟨(fun K => He.fAd K ("Table", some "__init__")), "__init__", "Table.__init__", defArgs s_Table_init, defBody s_Table_init, defScope s_Table_init, [], []⟩,
  ⟨(fun K => He.fAd K ("Schema", some "__init__")), "__init__", "Schema.__init__", defArgs s_Schema_init, defBody s_Schema_init, defScope s_Schema_init, [], []⟩,
  ⟨(fun K => He5.wf K (He.ga K "Schema") "classmethod" "parse"), "parse", "Schema.parse", defArgs s_Schema_parse, defBody s_Schema_parse, defScope s_Schema_parse, [], []⟩,
  ⟨(fun K => He.fAd K ("Schema", some "table")), "table", "Schema.table", defArgs s_Schema_table, defBody s_Schema_table, defScope s_Schema_table, [], []⟩,
  ⟨(fun K => He.fAd K ("Schema", some "__str__")), "__str__", "Schema.__str__", defArgs s_Schema_str, defBody s_Schema_str, defScope s_Schema_str, [], []⟩,
  ⟨(fun K => He.fAd K ("Schema", some "__eq__")), "__eq__", "Schema.__eq__", defArgs s_Schema_eq, defBody s_Schema_eq, defScope s_Schema_eq, [], []⟩,
  ⟨(fun K => He.fAd K ("table_rows", none)), "table_rows", "table_rows", defArgs s_table_rows, defBody s_table_rows, defScope s_table_rows, [], []⟩,
  ⟨(fun K => He.fAd K ("read_tables", none)), "read_tables", "read_tables", defArgs s_read_tables, defBody s_read_tables, defScope s_read_tables, [], []⟩,
  ⟨(fun K => He.fAd K ("read_table", none)), "read_table", "read_table", defArgs s_read_table, defBody s_read_table, defScope s_read_table, [], []⟩,
  ⟨(fun K => He.fAd K ("read_columns", none)), "read_columns", "read_columns", defArgs s_read_columns, defBody s_read_columns, defScope s_read_columns, [], []⟩,
  ⟨(fun K => He.fAd K ("read_keys", none)), "read_keys", "read_keys", defArgs s_read_keys, defBody s_read_keys, defScope s_read_keys, [], []⟩,
  ⟨(fun K => He.fAd K ("are_different", none)), "are_different", "are_different", defArgs s_are_different, defBody s_are_different, defScope s_are_different, [], []⟩,
  ⟨(fun K => He.fAd K ("has_all", none)), "has_all", "has_all", defArgs s_has_all, defBody s_has_all, defScope s_has_all, [], []⟩,
  ⟨(fun K => He.fAd K ("read_references", none)), "read_references", "read_references", defArgs s_read_references, defBody s_read_references, defScope s_read_references, [], []⟩,
  ⟨(fun K => He.fAd K ("read_reference", none)), "read_reference", "read_reference", defArgs s_read_reference, defBody s_read_reference, defScope s_read_reference, [], []⟩,
  ⟨(fun K => He.fAd K ("is_integer", none)), "is_integer", "is_integer", defArgs s_is_integer, defBody s_is_integer, defScope s_is_integer, [], []⟩,
  ⟨(fun K => He.fAd K ("is_cell", none)), "is_cell", "is_cell", defArgs s_is_cell, defBody s_is_cell, defScope s_is_cell, [], []⟩,
  ⟨(fun K => He.fAd K ("is_row", none)), "is_row", "is_row", defArgs s_is_row, defBody s_is_row, defScope s_is_row, [], []⟩,
  ⟨(fun K => He.fAd K ("are_rows", none)), "are_rows", "are_rows", defArgs s_are_rows, defBody s_are_rows, defScope s_are_rows, [], []⟩,
  ⟨(fun K => He.fAd K ("is_database", none)), "is_database", "is_database", defArgs s_is_database, defBody s_is_database, defScope s_is_database, [], []⟩,
  ⟨(fun K => He.fAd K ("_law_feed", none)), "_law_feed", "_law_feed", defArgs s__law_feed, defBody s__law_feed, defScope s__law_feed, [], []⟩,
  ⟨(fun K => He.fAd K ("_law_take", none)), "_law_take", "_law_take", defArgs s__law_take, defBody s__law_take, defScope s__law_take, [], []⟩,
  ⟨(fun K => He.fAd K ("_law_pick", none)), "_law_pick", "_law_pick", defArgs s__law_pick, defBody s__law_pick, defScope s__law_pick, [], []⟩,
  ⟨(fun K => He.fAd K ("_law_names", none)), "_law_names", "_law_names", defArgs s__law_names, defBody s__law_names, defScope s__law_names, [], []⟩,
  ⟨(fun K => He.fAd K ("_law_words", none)), "_law_words", "_law_words", defArgs s__law_words, defBody s__law_words, defScope s__law_words, [], []⟩,
  ⟨(fun K => He.fAd K ("_law_table", none)), "_law_table", "_law_table", defArgs s__law_table, defBody s__law_table, defScope s__law_table, [], []⟩,
  ⟨(fun K => He.fAd K ("_law_refer", none)), "_law_refer", "_law_refer", defArgs s__law_refer, defBody s__law_refer, defScope s__law_refer, [], []⟩,
  ⟨(fun K => He.fAd K ("_law_schema", none)), "_law_schema", "_law_schema", defArgs s__law_schema, defBody s__law_schema, defScope s__law_schema, [], []⟩,
  ⟨(fun K => He.fAd K ("_law_schema_text", none)), "_law_schema_text", "_law_schema_text", defArgs s__law_schema_text, defBody s__law_schema_text, defScope s__law_schema_text, [], []⟩,
  ⟨(fun K => He.fAd K ("_law_row", none)), "_law_row", "_law_row", defArgs s__law_row, defBody s__law_row, defScope s__law_row, [], []⟩,
  ⟨(fun K => He.fAd K ("_law_database", none)), "_law_database", "_law_database", defArgs s__law_database, defBody s__law_database, defScope s__law_database, [], []⟩,
  ⟨(fun K => He.fAd K ("_law_is_cell", none)), "_law_is_cell", "_law_is_cell", defArgs s__law_is_cell, defBody s__law_is_cell, defScope s__law_is_cell, [], []⟩,
  ⟨(fun K => He.fAd K ("_law_is_database", none)), "_law_is_database", "_law_is_database", defArgs s__law_is_database, defBody s__law_is_database, defScope s__law_is_database, [], []⟩,
  ⟨(fun K => He.fAd K ("_law_other", none)), "_law_other", "_law_other", defArgs s__law_other, defBody s__law_other, defScope s__law_other, [], []⟩,
  ⟨(fun K => He.fAd K ("law", none)), "law", "law", defArgs s_law, defBody s_law, defScope s_law, [], []⟩]
def faAll : List He.Fa := [.free "len", .free "all", .free "any", .free "tuple", .free "list", .free "str", .free "set", .free "isinstance", .cls "Rows", .cls "Table", .cls "Schema", .noat "Rows" "_rows", .noat "Rows" "_at", .noat "Table" "name", .noat "Table" "columns", .noat "Table" "unique", .noat "Table" "refers", .noat "Schema" "tables", .noat "Schema" "_text", .glo "Schema", .glo "Table", .int "MOST_TABLES" 5, .int "MOST_COLUMNS" 5, .int "MOST_KEYS" 3, .int "MOST_KEY_COLUMNS" 3, .int "MOST_REFERENCES" 2, .free "max", .free "min", .free "abs", .free "range", .free "int", .free "dict", .free "sorted", .free "sum", .free "enumerate", .free "repr", .free "bool", .int "HIGHEST" 1000000000, .glo "has_all", .glo "are_different", .glo "is_name", .glo "InvalidText", .mkr "Rows", .glo "Rows", .meth "Rows" "all_read", .meth "Rows" "begins", .meth "Rows" "words", .meth "Rows" "need", .meth "Rows" "new_name", .meth "Rows" "exactly", .glo "read_columns", .glo "read_keys", .glo "read_reference", .glo "read_references", .mkr "Table", .glo "read_table", .glo "read_tables", .glo "table_rows", .mkr "Schema", .meth "Schema" "__str__", .glo "_law_take", .glo "_law_feed", .glo "_law_pick", .glo "_law_names", .glo "_law_words", .glo "_law_refer", .glo "_law_table", .glo "_law_schema", .glo "_law_schema_text", .glo "_law_row", .glo "_law_database", .glo "is_integer", .glo "is_cell", .glo "_law_is_cell", .glo "is_row", .glo "are_rows", .glo "is_database", .glo "_law_is_database", .glo "_law_other", .glo "law"]
structure ExR (K : PySem.W.Frag) : Prop where
  oeI : (oexB K (He.ga K "InvalidText")) = true
  xiI : (xinitB K (He.ga K "InvalidText")) = true
  noI : (decide (PySem.W.findIn K (.ref (He.ga K "InvalidText")) "row" = some none)) = true
  rdS : (PySem.W.readsIn K (He.ga K "Schema") (.type "type")) = true
  wrS : (He5.wrapB K (He.ga K "Schema") "classmethod" "classmethod.__get__" "parse") = true
  wfS : (PySem.W.fnIn K (He5.wf K (He.ga K "Schema") "classmethod" "parse")) = true
  nT : (decide ((He.ga K "Table") ≠ (He.ga K "Rows"))) = true
  nS : (decide ((He.ga K "Schema") ≠ (He.ga K "Rows"))) = true
  nTS : (decide ((He.ga K "Table") ≠ (He.ga K "Schema"))) = true
  oeU : (oexB K (He.ga K "UnknownTable")) = true
  xiU : (xinitB K (He.ga K "UnknownTable")) = true
  noU : (decide (PySem.W.findIn K (.ref (He.ga K "UnknownTable")) "name" = some none)) = true
def exL (K : PySem.W.Frag) : Bool := oexB K (He.ga K "InvalidText") && (xinitB K (He.ga K "InvalidText") && (decide (PySem.W.findIn K (.ref (He.ga K "InvalidText")) "row" = some none) && (PySem.W.readsIn K (He.ga K "Schema") (.type "type") && (He5.wrapB K (He.ga K "Schema") "classmethod" "classmethod.__get__" "parse" && (PySem.W.fnIn K (He5.wf K (He.ga K "Schema") "classmethod" "parse") && (decide ((He.ga K "Table") ≠ (He.ga K "Rows")) && (decide ((He.ga K "Schema") ≠ (He.ga K "Rows")) && (decide ((He.ga K "Table") ≠ (He.ga K "Schema")) && (oexB K (He.ga K "UnknownTable") && (xinitB K (He.ga K "UnknownTable") && (decide (PySem.W.findIn K (.ref (He.ga K "UnknownTable")) "name" = some none))))))))))))
theorem exL_ok {K : PySem.W.Frag} (h : exL K = true) : ExR K := by
  unfold exL at h
  obtain ⟨h0, h⟩ := He.ba h
  obtain ⟨h1, h⟩ := He.ba h
  obtain ⟨h2, h⟩ := He.ba h
  obtain ⟨h3, h⟩ := He.ba h
  obtain ⟨h4, h⟩ := He.ba h
  obtain ⟨h5, h⟩ := He.ba h
  obtain ⟨h6, h⟩ := He.ba h
  obtain ⟨h7, h⟩ := He.ba h
  obtain ⟨h8, h⟩ := He.ba h
  obtain ⟨h9, h⟩ := He.ba h
  obtain ⟨h10, h⟩ := He.ba h
  exact ⟨h0, h1, h2, h3, h4, h5, h6, h7, h8, h9, h10, h⟩
def exK (K : PySem.W.Frag) : Bool := (faAll.all fun f => f.ok K) && exL K
def ob (s : PySem.W.SharedT) : He.AlD := obsZG 5 exK fnAll (HandSHeadRun.getT s)
theorem ob_eq (s : PySem.W.SharedT) : ob s = (hookZ 5 exK fnAll).obs s.abs := obsZ_eq (HandSHeadRun.getT_eq s)
theorem map3 {α β γ δ : Type} {o : Option α} {f : α → β} {g : α → γ} {h : α → δ} {a : β} {b : γ} {c : δ} (h1 : o.map f = some a) (h2 : o.map g = some b) (h3 : o.map h = some c) : o.map (fun s => (f s, g s, h s)) = some (a, b, c) := by
  cases o with
  | none => cases h1
  | some x =>
    have e1 := Option.some.inj h1
    have e2 := Option.some.inj h2
    have e3 := Option.some.inj h3
    rw [Option.map_some, ← e1, ← e2, ← e3]
section
open PySem.W PySem.Calls PyProof.Rows HandSHeadRun
theorem runA (w : World) (os : OsState) : (endF (stepQ (denQ tabQ) Rw.prog w) 6000 Rw.prog w os).map (fun s => looksF Rw.prog (boot_heap w.params) s.abs) = some true := by
  kernel_rfl
theorem runB (w : World) (os : OsState) : (endF (stepQ (denQ tabQ) Rw.prog w) 6000 Rw.prog w os).map (fun s => seenQ (PySem.W.view Rw.prog [47]) loose (importedModules Rw.prog.main.body) (fun s => xlAt (PySem.W.view Rw.prog [47]) [] s && recOk Rw.toRowW.records s) s.abs) = some (openGood (PySem.W.view Rw.prog [47]) loose) := by
  kernel_rfl
theorem runC (w : World) (os : OsState) : (endF (stepQ (denQ tabQ) Rw.prog w) 6000 Rw.prog w os).map (fun s => ob s) = some ((hookZ 5 exK fnAll).val w) := by
  kernel_rfl
end
theorem run (w : World) : HandSHeadRun.RunEq Rw (PySem.W.view Rw.prog [47]) (hookZ 5 exK fnAll) ob 6000 loose w := by
  intro os
  exact map3 (runA w os) (runB w os) (runC w os)
end Cn
set_option Elab.async false
set_option linter.all false
set_option maxRecDepth 100000
set_option maxHeartbeats 2000000
/-! Cn.B9: texts and lists of texts that are put together. -/
namespace Cn
open PySem L2
abbrev addR : R2 := fun x y H Q => ∃ i j, x = V.str i ∧ y = V.str j ∧ i.length + j.length ≤ sizeLine ∧ Q (V.str (i ++ j)) H
/-- a text, by parts that change nothing -/
def Pt (te : TE) (σ : L2.St) (l : T) (n : Nat) : Prop := l.length ≤ n ∧ ∀ (H : Hp) (Q : VK), Q (sv l) H → te σ H Q
def PtL (t : TA) (σ : L2.St) (ls : List T) (n : Nat) : Prop := (∀ l ∈ ls, l.length ≤ n) ∧ ∀ (H : Hp) (Q : List V → Hp → Prop), Q (svs ls) H → t σ H Q
/-- a text; new things may be made -/
def GvT (te : TE) (σ : L2.St) (H : Hp) (l : T) : Prop := ∀ Q : VK, (∀ H', But [] H H' → Q (sv l) H') → te σ H Q
/-- a list of texts -/
def GvL (te : TE) (σ : L2.St) (H : Hp) (ls : List T) : Prop := ∀ Q : VK, (∀ H' a, But [] H H' → H' a = some (.lst (svs ls)) → Q (.ref a) H') → te σ H Q
/-- .. a new one -/
def MkL (te : TE) (σ : L2.St) (H : Hp) (ls : List T) : Prop := ∀ Q : VK, (∀ H' a, But [] H H' → H a = none → H' a = some (.lst (svs ls)) → Q (.ref a) H') → te σ H Q
section
variable {K : PySem.W.Frag} {σ : L2.St} {H : Hp} {ta tb te tl : TE} {t : TA} {l m : T} {ls ms : List T} {n k i : Nat}
theorem Pt.lit {s : Str} {l : T} {n : Nat} (e : s = S l := by rfl) (h : l.length ≤ n := by decide) : Pt (tC (.str s)) σ l n := ⟨h, fun H Q q => by subst e; exact q⟩
theorem Pt.var (h : σ[i]? = some (some (sv l))) (hl : l.length ≤ n) : Pt (tVar i) σ l n := ⟨hl, fun H Q q => ⟨_, h, q⟩⟩
theorem Pt.add (a : Pt ta σ l n) (b : Pt tb σ m k) (h : n + k ≤ 100000 := by decide) : Pt (tOp addR ta tb) σ (l ++ m) (n + k) := by
  refine ⟨by rw [List.length_append]; have := a.1; have := b.1; omega, fun H Q q => a.2 H _ (b.2 H _ ⟨S l, S m, rfl, rfl, szl ?_, ?_⟩)⟩
  · rw [S_len, S_len]; have := a.1; have := b.1; omega
  · rw [S_app]; exact q
theorem Pt.gv (a : Pt ta σ l n) : GvT ta σ H l := fun Q q => a.2 H _ (q H But.refl)
theorem PtL.nil : PtL tNil σ [] 0 := ⟨by simp, fun H Q q => q⟩
theorem PtL.cons (a : Pt ta σ l n) (b : PtL t σ ls k) : PtL (tCons ta t) σ (l :: ls) (n + k) := by
  refine ⟨fun x hx => ?_, fun H Q q => a.2 H _ (b.2 H _ q)⟩
  rcases List.mem_cons.mp hx with z | z
  · rw [z]; have := a.1; omega
  · have := b.1 x z; omega
theorem MkL.gv (a : MkL ta σ H ls) : GvL ta σ H ls := fun Q q => a _ fun H' p b _ e => q H' p b e
theorem MkL.dsp (a : PtL t σ ls n) (hz : ls.length ≤ 1000 := by first | decide | simp) : MkL (tLst t) σ H ls := fun Q q =>
  a.2 H _ ⟨szl (by rw [svs_len]; omega), fun p hp => q _ p (newB hp) hp upd_same⟩
theorem MkL.one (a : GvT te σ H l) : MkL (tLst (tCons te tNil)) σ H [l] := fun Q q =>
  a _ fun H' b => ⟨szl (by simp), fun p hp => q _ p (b.put0 (b.free hp (by simp))) (b.free hp (by simp)) upd_same⟩
theorem GvL.var {a : Addr} (h : σ[i]? = some (some (.ref a))) (e : H a = some (.lst (svs ls))) : GvL (tVar i) σ H ls := fun Q q => ⟨_, h, q H a But.refl e⟩
theorem MkL.cat (a : GvL ta σ H ls) (b : ∀ H', But [] H H' → GvL tb σ H' ms) (hz : ls.length + ms.length ≤ 1000 := by first | decide | simp) : MkL (tOp rCat ta tb) σ H (ls ++ ms) := fun Q q =>
  a _ fun H1 p b1 e1 => b H1 b1 _ fun H2 r b2 e2 => ⟨p, r, svs ls, svs ms, rfl, rfl, b2.at e1, e2, szl (by rw [svs_len, svs_len]; omega), fun x hx => by
    have bb := b1.trans b2
    have hx0 : H x = none := bb.free hx (by simp)
    exact q _ x (bb.put0 hx0) hx0 (by rw [upd_same, svs_app])⟩
theorem lcG {J : It} {xs : List T} {f : T → T} {Q : VK} {H0 H : Hp} (b0 : But [] H0 H) {G : Hp → Prop} (w : Walk J (svs xs).length G (YAt (svs xs))) (hG : ∀ H', But [] H H' → G H') (hw : ∀ v, wipe ((wipe σ [i]).set i v) [i] = wipe σ [i]) (he : ∀ x ∈ xs, Pt te ((wipe σ [i]).set i (some (sv x))) (f x) n) (hz : xs.length ≤ 1000)
    (q : ∀ H' a, But [] H0 H' → H0 a = none → H' a = some (.lst (svs (xs.map f))) → Q (.ref a) H') (D : Addr) (hD : H D = none) : ∃ W : Nat → Nat → Hp → Prop, (∃ m, W 0 m (upd H D (.lst []))) ∧ ∀ i' m H, W i' m H →
  (J.stop i' H ∧ Q (.ref D) H) ∨ (J.go i' H ∧ ∃ Nx : Hp → Prop, (∀ H', Nx H' → ∃ m', m' < m ∧ W (i' + 1) m' H') ∧ ∀ x H', J.yld i' H x H' → gName i x (wipe σ [i]) H' fun σ2 H2 => wipe σ2 [i] = wipe σ [i] ∧ tYes σ2 H2 fun b H3 =>
    if b = true then te σ2 H3 fun y H4 => ∃ acc, H4 D = some (.lst acc) ∧ acc.length < sizeLine ∧ Nx (upd H4 D (.lst (acc ++ [y]))) else Nx H3) := by
  refine lc_pure (svs xs) (fun v => match v with
    | .str a => some (sv (f (TL.tl a)))
    | _ => none) w rfl yat (fun acc => hG _ (newB hD)) (fun j x acc N hx hl hy _ => ?_) ?_
  · obtain ⟨r, hr, rfl⟩ := svs_get hx
    refine ⟨hw _, ?_⟩
    refine (he r (List.mem_of_getElem? hr)).2 _ _ (lc_put (szt ?_) (hy _ rfl))
    have := (List.getElem?_eq_some_iff.mp hr).1
    omega
  · have hD0 : H0 D = none := b0.free hD (by simp)
    refine q _ D (b0.put0 hD0) hD0 ?_
    rw [upd_same]
    congr 2
    unfold svs
    rw [List.filterMap_map, List.map_map]
    show xs.filterMap (some ∘ fun x => sv (f x)) = xs.map (fun x => sv (f x))
    rw [List.filterMap_eq_map]
theorem MkL.lc {xs : List T} {f : T → T} (h : GvL tl σ H xs) (he : ∀ x ∈ xs, Pt te ((wipe σ [i]).set i (some (sv x))) (f x) n) (hw : ∀ v, wipe ((wipe σ [i]).set i v) [i] = wipe σ [i]) (hz : xs.length ≤ 1000 := by first | decide | simp) :
    MkL (tLc (iList K tl) (gName i) tYes te [i]) σ H (xs.map f) := fun Q q =>
  h _ fun H1 a b1 e => ⟨a, rfl, ⟨_, SqL.of e⟩, fun D hD => lcG b1 (walk_list (K := K) (a := a) (xs := svs xs)) (fun H' b => SqL.of (b.at e)) hw he hz q D hD⟩
theorem chs_svs (l : T) : chs l = svs (l.map fun c => [c]) := by
  unfold chs svs
  rw [List.map_map]; rfl
theorem MkL.lcS {w : T} {f : T → T} (h : Pt tl σ w k) (he : ∀ x ∈ w.map (fun c => [c]), Pt te ((wipe σ [i]).set i (some (sv x))) (f x) n) (hw : ∀ v, wipe ((wipe σ [i]).set i v) [i] = wipe σ [i]) (hz : w.length ≤ 1000 := by first | decide | simp) :
    MkL (tLc (iStr tl) (gName i) tYes te [i]) σ H ((w.map fun c => [c]).map f) := fun Q q =>
  h.2 H _ ⟨S w, rfl, fun D hD => lcG But.refl (by rw [← chs_svs]; exact walk_S) (fun H' b => trivial) hw he (by rw [List.length_map]; exact hz) q D hD⟩
abbrev joinR (K : PySem.W.Frag) : V → List V → Hp → VK → Prop := fun x xs H Q => ∃ a p ys, x = V.str a ∧ xs = [V.ref p] ∧ (SqL K H p (List.map V.str ys) ∨ SqT K H p (List.map V.str ys)) ∧ (List.map (fun x => x.length) ys).sum + ys.length * a.length ≤ 16777216 ∧ Q (V.str (Txt.join a ys)) H
theorem GvT.join {c : Nat} (h : GvL tl σ H ls) (ht : Pt tb σ [c] k) (hz : (ls.map List.length).sum + ls.length ≤ 100000 := by first | decide | simp) : GvT (tM1 (joinR K) tb tl) σ H (joinT [c] ls) := fun Q q =>
  ht.2 H _ ⟨⟨_, rfl⟩, h _ fun H1 a b e => ⟨S [c], a, ls.map S, rfl, rfl, .inl (by rw [← svs_str]; exact SqL.of e), by
    have e1 : ((ls.map S).map fun x => x.length).sum = (ls.map List.length).sum := by rw [List.map_map]; congr 1
    rw [e1, List.length_map, S_len]
    simp
    omega, by rw [join_S]; exact q H1 b⟩⟩
end
end Cn
set_option Elab.async false
set_option linter.all false
set_option maxRecDepth 100000
set_option maxHeartbeats 2000000
/-! Cn.B10: statements that gather texts. -/
namespace Cn
open PySem L2
/-- a pair (number, list of texts) in the list at F -/
def PairR (F : Addr) (H : Hp) (v : V) (p : Nat × List T) : Prop := ∃ a l, v = .ref a ∧ H a = some (.tup [.int (p.1 : Nat), .ref l]) ∧ H l = some (.lst (svs p.2)) ∧ l ≠ F
def FoundR (H : Hp) (F : Addr) (ps : List (Nat × List T)) : Prop := ∃ vs, H F = some (.lst vs) ∧ Each (PairR F H) vs ps
section
variable {K : PySem.W.Frag} {σ : L2.St} {H : Hp} {ta tb te tl : TE} {t : TA} {l : T} {ls : List T} {n k i fi : Nat} {D : Ends} {F : Addr} {ps : List (Nat × List T)} {d : Nat}
theorem tyLs {K : PySem.W.Frag} {H : Hp} {l : Addr} {xs : List V} (h : H l = some (.lst xs)) : tyV K "list" (.ref l) H := Or.inl ⟨rfl, _, Or.inl (Or.inl h)⟩
theorem st_app (hσ : σ[fi]? = some (some (.ref F))) (hF : H F = some (.lst (svs ls))) (ht : GvT te σ H l) (hz : ls.length ≤ 1000) (k : ∀ H', But [F] H H' → H' F = some (.lst (svs (ls ++ [l]))) → D.nx σ H') :
    tDrop (tBM K "list" rAppend (tVar fi) (tCons te tNil)) D σ H :=
  ⟨_, hσ, tyLs hF, ht _ fun H1 b => ⟨F, svs ls, sv l, rfl, rfl, b.at hF, szt (by rw [svs_len]; omega), k _ ((But.of b).put (by simp)) (by rw [upd_same, svs_app]; rfl)⟩⟩
theorem st_for {rows : List T} {f : T → T} {v0 : Option V} (h : MkL tl σ H rows) (he : ∀ row ∈ rows, Pt te (σ.set i (some (sv row))) (f row) n) (hσ : σ[fi]? = some (some (.ref F))) (hne : i ≠ fi) (h0 : σ.set i v0 = σ) (hF : H F = some (.lst (svs ls))) (hz : ls.length + rows.length ≤ 1000)
    (k : ∀ H' v, But [F] H H' → H' F = some (.lst (svs (ls ++ rows.map f))) → D.nx (σ.set i v) H') :
    tFor (iList K tl) (gName i) (tDrop (tBM K "list" rAppend (tVar fi) (tCons te tNil))) D σ H := by
  refine h _ fun H1 a b1 na e1 => ⟨a, rfl, ⟨_, SqL.of e1⟩, ?_⟩
  have nF : a ≠ F := fun z => by rw [z, hF] at na; cases na
  refine for_it (walk_list (K := K) (a := a) (xs := svs rows)) (fun j σ' H' => ∃ v, σ' = σ.set i v ∧ But [F] H H' ∧ H' a = some (.lst (svs rows)) ∧ H' F = some (.lst (svs (ls ++ (rows.take j).map f)))) ⟨v0, h0.symm, But.of b1, e1, by rw [b1.at hF]; simp⟩
    (fun j σ' H' _ ⟨_, _, _, z, _⟩ => SqL.of z) (fun j x σ' H2 H2' hj ⟨v, es, b2, ha2, hF2⟩ y => ?_) (fun σ' H2 ⟨v, es, b2, ha2, hF2⟩ => ?_)
  · obtain ⟨rfl, hx⟩ := y
    obtain ⟨row, hrow, rfl⟩ := svs_get hx
    subst es
    have e2 : (σ.set i v).set i (some (sv row)) = σ.set i (some (sv row)) := List.set_set ..
    have ln : j < rows.length := (List.getElem?_eq_some_iff.mp hrow).1
    show tDrop (tBM K "list" rAppend (tVar fi) (tCons te tNil)) _ ((σ.set i v).set i (some (sv row))) H2'
    rw [e2]
    refine st_app (F := F) (ls := ls ++ (rows.take j).map f) (l := f row) (by rw [List.getElem?_set_ne hne]; exact hσ) hF2 (he row (List.mem_of_getElem? hrow)).gv (by rw [List.length_append, List.length_map, List.length_take]; omega) fun H3 b3 h3 => ⟨_, rfl, b2.trans b3, b3.at1 ha2 nF, ?_⟩
    have st : rows.take (j + 1) = rows.take j ++ [row] := by rw [List.take_add_one, hrow]; rfl
    rw [h3, st, List.map_append, List.append_assoc]; rfl
  · subst es
    rw [svs_len, List.take_length] at hF2
    exact k H2 v b2 hF2
theorem PairR.keep {H H' : Hp} {v : V} {p : Nat × List T} {xs : List V} (h : PairR F H v p) (b : But [F] H H') (hF : H F = some (.lst xs)) : PairR F H' v p := by
  obtain ⟨a, l, e, h1, h2, h3⟩ := h
  exact ⟨a, l, e, b.at1 h1 (fun z => by rw [z, hF] at h1; cases h1), b.at1 h2 h3, h3⟩
theorem FoundR.keep {H H' : Hp} (h : FoundR H F ps) (b : But [] H H') : FoundR H' F ps := by
  obtain ⟨vs, e, h⟩ := h
  exact ⟨vs, b.at e, h.mono fun _ _ z => z.keep (But.of b) e⟩
theorem lst1 {Q : VK} (h : te σ H fun x H1 => [x].length ≤ sizeLine ∧ ∀ p, H1 p = none → Q (.ref p) (upd H1 p (.lst [x]))) : tLst (tCons te tNil) σ H Q := h
/-- a new pair -/
theorem mk_pair {texts : List T} {Q : VK} (ht : MkL tl σ H texts) (q : ∀ H' a l, But [] H H' → H a = none → H l = none → H' a = some (.tup [.int (d : Nat), .ref l]) → H' l = some (.lst (svs texts)) → Q (.ref a) H') : tTup (tCons (tC (.int (d : Nat))) (tCons tl tNil)) σ H Q :=
  ht _ fun H1 l b nl e => ⟨szl (by simp), fun a ha => q _ a l (b.put0 (b.free ha (by simp))) (b.free ha (by simp)) nl upd_same ((newB ha).at e)⟩
theorem st_pair {texts : List T} (hσ : σ[fi]? = some (some (.ref F))) (hF : FoundR H F ps) (ht : MkL tl σ H texts) (k : ∀ H', But [F] H H' → FoundR H' F (ps ++ [(d, texts)]) → D.nx σ H') (hz : ps.length ≤ 1000 := by first | decide | simp) :
    tDrop (tBM K "list" rAppend (tVar fi) (tCons (tTup (tCons (tC (.int (d : Nat))) (tCons tl tNil))) tNil)) D σ H := by
  obtain ⟨vs, e, h⟩ := hF
  refine ⟨_, hσ, tyLs e, mk_pair ht fun H1 a l b na nl ha hl => ⟨F, vs, .ref a, rfl, rfl, b.at e, szt (by have := h.1; omega), ?_⟩⟩
  have nlF : l ≠ F := fun z => by rw [z, e] at nl; cases nl
  have naF : a ≠ F := fun z => by rw [z, e] at na; cases na
  have b1 : But [F] H (upd H1 F (.lst (vs ++ [.ref a]))) := (But.of b).put (by simp)
  exact k _ b1 ⟨_, upd_same, (h.mono fun _ _ z => z.keep b1 e).snoc ⟨a, l, rfl, by rw [upd_ne naF]; exact ha, by rw [upd_ne nlF]; exact hl, nlF⟩⟩
theorem st_pair0 {texts : List T} (ht : MkL tl σ H texts) (k : ∀ H' F, But [] H H' → H F = none → FoundR H' F [(d, texts)] → D.nx (σ.set fi (some (.ref F))) H') :
    tAsg (tLst (tCons (tTup (tCons (tC (.int (d : Nat))) (tCons tl tNil))) tNil)) (gName fi) D σ H :=
  show tLst (tCons (tTup (tCons (tC (.int (d : Nat))) (tCons tl tNil))) tNil) σ H _ from lst1 <| mk_pair ht fun H1 a l b na nl ha hl => ⟨szl (by simp), fun F hF => by
    have b1 : But [] H1 (upd H1 F (.lst [.ref a])) := newB hF
    have nlF : l ≠ F := fun z => by rw [← z, hl] at hF; cases hF
    exact k _ F (b.trans b1) (b.free hF (by simp)) ⟨_, upd_same, (Each.nil (R := PairR F _)).snoc ⟨a, l, rfl, b1.at ha, b1.at hl, nlF⟩⟩⟩
theorem st_pairR {texts : List T} (hσ : σ[fi]? = some (some (.ref F))) (hF : FoundR H F ps) (ht : MkL tl σ H texts) (k : ∀ H' R, But [] H H' → FoundR H' R (ps ++ [(d, texts)]) → D.rt (.ref R) H') (hz : ps.length ≤ 1000 := by first | decide | simp) :
    tRet (tOp rCat (tVar fi) (tLst (tCons (tTup (tCons (tC (.int (d : Nat))) (tCons tl tNil))) tNil))) D σ H := by
  obtain ⟨vs, e, h⟩ := hF
  refine ⟨_, hσ, ?_⟩
  show tLst (tCons (tTup (tCons (tC (.int (d : Nat))) (tCons tl tNil))) tNil) σ H _
  refine lst1 <| mk_pair ht fun H1 a l b na nl ha hl => ⟨szl (by simp), fun G hG => ?_⟩
  have b1 : But [] H1 (upd H1 G (.lst [.ref a])) := newB hG
  refine ⟨F, G, vs, [.ref a], rfl, rfl, b1.at (b.at e), upd_same, szl (by have := h.1; simp; omega), fun R hR => ?_⟩
  have b2 : But [] (upd H1 G (.lst [.ref a])) (upd (upd H1 G (.lst [.ref a])) R (.lst (vs ++ [.ref a]))) := newB hR
  have b3 := (b.trans b1).trans b2
  have ne : ∀ {x : Addr} {o : HO}, H1 x = some o → x ≠ R := fun {x o} q z => by rw [← z, b1.at q] at hR; cases hR
  refine k _ R b3 ⟨_, upd_same, ?_⟩
  have h2 : Each (PairR R (upd (upd H1 G (.lst [.ref a])) R (.lst (vs ++ [.ref a])))) vs ps := h.mono fun _ _ ⟨x, y, q1, q2, q3, _⟩ => ⟨x, y, q1, b3.at q2, b3.at q3, ne (b.at q3)⟩
  exact h2.snoc ⟨a, l, rfl, b2.at (b1.at ha), b2.at (b1.at hl), ne hl⟩
end
end Cn
namespace Cn
open PySem L2
def upT (l : T) : T := l.map (· - 32)
abbrev upR : V → List V → Hp → VK → Prop := fun x xs H Q => ∃ a, x = V.str a ∧ xs = [] ∧ a.length ≤ 5592405 ∧ Q (V.str (Txt.upper a)) H
section
variable {K : PySem.W.Frag} {σ : L2.St} {H : Hp} {ta tb te tl : TE} {t u : TS} {l : T} {ls : List T} {n i j : Nat} {D : Ends}
theorem Pt.upper (h : Pt te σ l n) (hup : Txt.upper (S l) = S (upT l)) (hz : n ≤ 5592405 := by decide) : Pt (tM0 upR te) σ (upT l) n := by
  refine ⟨by unfold upT; rw [List.length_map]; exact h.1, fun H Q q => h.2 H _ ⟨⟨_, rfl⟩, S l, rfl, rfl, ?_, ?_⟩⟩
  · rw [S_len]; have := h.1; omega
  · rw [hup]; exact q
theorem sq (h : t { D with nx := u D } σ H) : tSeq t u D σ H := h
theorem st_txt (h : Pt te σ l n) (k : D.nx (σ.set i (some (sv l))) H) : tAsg te (gName i) D σ H := h.2 H _ k
theorem st_mk (h : MkL te σ H ls) (k : ∀ H' a, But [] H H' → H a = none → H' a = some (.lst (svs ls)) → D.nx (σ.set i (some (.ref a))) H') : tAsg te (gName i) D σ H := h _ k
theorem st_ret (h : MkL te σ H ls) (k : ∀ H' a, But [] H H' → H a = none → H' a = some (.lst (svs ls)) → D.rt (.ref a) H') : tRet te D σ H := h _ k
theorem st_two {a b : V} (k : ∀ H', But [] H H' → D.nx ((σ.set i (some a)).set j (some b)) H') : tAsg (tTup (tCons (tC a) (tCons (tC b) tNil))) (gTup K 2 (gCons (gName i) (gCons (gName j) gNil))) D σ H :=
  ⟨szl (by simp), fun p hp => ⟨p, [a, b], rfl, SqT.of upd_same, rfl, _, _, rfl, _, _, rfl, rfl, k _ (newB hp)⟩⟩
end
end Cn
namespace Cn
open PySem L2
section
variable {K : PySem.W.Frag} {σ : L2.St} {H : Hp} {ta tb te tl : TE} {u : TS} {l : T} {ls : List T} {n i j fi : Nat} {D : Ends} {F : Addr} {ps : List (Nat × List T)} {d : Nat}
theorem sq_txt (h : Pt te σ l n) (k : u D (σ.set i (some (sv l))) H) : tSeq (tAsg te (gName i)) u D σ H := h.2 H _ k
theorem sq_mk (h : MkL te σ H ls) (k : ∀ H' a, But [] H H' → H a = none → H' a = some (.lst (svs ls)) → u D (σ.set i (some (.ref a))) H') : tSeq (tAsg te (gName i)) u D σ H := h _ k
theorem sq_two {a b : V} (k : ∀ H', But [] H H' → u D ((σ.set i (some a)).set j (some b)) H') : tSeq (tAsg (tTup (tCons (tC a) (tCons (tC b) tNil))) (gTup K 2 (gCons (gName i) (gCons (gName j) gNil)))) u D σ H := st_two (D := { D with nx := u D }) k
theorem sq_app (hσ : σ[fi]? = some (some (.ref F))) (hF : H F = some (.lst (svs ls))) (ht : GvT te σ H l) (hz : ls.length ≤ 1000) (k : ∀ H', But [F] H H' → H' F = some (.lst (svs (ls ++ [l]))) → u D σ H') :
    tSeq (tDrop (tBM K "list" rAppend (tVar fi) (tCons te tNil))) u D σ H := st_app (D := { D with nx := u D }) hσ hF ht hz k
theorem sq_for {rows : List T} {f : T → T} {v0 : Option V} (h : MkL tl σ H rows) (he : ∀ row ∈ rows, Pt te (σ.set i (some (sv row))) (f row) n) (hσ : σ[fi]? = some (some (.ref F))) (hne : i ≠ fi) (h0 : σ.set i v0 = σ) (hF : H F = some (.lst (svs ls))) (hz : ls.length + rows.length ≤ 1000)
    (k : ∀ H' v, But [F] H H' → H' F = some (.lst (svs (ls ++ rows.map f))) → u D (σ.set i v) H') :
    tSeq (tFor (iList K tl) (gName i) (tDrop (tBM K "list" rAppend (tVar fi) (tCons te tNil)))) u D σ H := st_for (D := { D with nx := u D }) h he hσ hne h0 hF hz k
theorem sq_pair {texts : List T} (hσ : σ[fi]? = some (some (.ref F))) (hF : FoundR H F ps) (ht : MkL tl σ H texts) (k : ∀ H', But [F] H H' → FoundR H' F (ps ++ [(d, texts)]) → u D σ H') (hz : ps.length ≤ 1000 := by first | decide | simp) :
    tSeq (tDrop (tBM K "list" rAppend (tVar fi) (tCons (tTup (tCons (tC (.int (d : Nat))) (tCons tl tNil))) tNil))) u D σ H := st_pair (D := { D with nx := u D }) hσ hF ht k hz
theorem sq_pair0 {texts : List T} (ht : MkL tl σ H texts) (k : ∀ H' F, But [] H H' → H F = none → FoundR H' F [(d, texts)] → u D (σ.set fi (some (.ref F))) H') :
    tSeq (tAsg (tLst (tCons (tTup (tCons (tC (.int (d : Nat))) (tCons tl tNil))) tNil)) (gName fi)) u D σ H := st_pair0 (D := { D with nx := u D }) ht k
end
end Cn
set_option Elab.async false
set_option linter.all false
set_option maxRecDepth 100000
set_option maxHeartbeats 2000000
/-! Cn.B11: a text some times, none too; pairs of locals. -/
namespace Cn
open PySem L2
section
variable {X : Cx}
theorem op_repZ : OpR X (binaryOp .Mult) (fun x y H Q => ∃ (a : T) (n : Nat), x = sv a ∧ y = .int (n : Int) ∧ n ≤ 100000 ∧ a.length ≤ 100 ∧ a ≠ [] ∧ Q (sv (repT n a)) H) := by
  intro pins s σ H x y v u Q I rx ry h
  obtain ⟨a, n, rfl, rfl, h2, h3, h4, q⟩ := h
  by_cases h1 : 1 ≤ n
  · exact op_repS pins s σ H _ _ v u Q I rx ry ⟨a, n, rfl, rfl, h1, h2, h3, h4, q⟩
  · obtain rfl : n = 0 := by omega
    obtain ⟨t, rfl⟩ := rx
    obtain ⟨t', rfl⟩ := ry
    refine PySem.P.mul_str_none (by decide) (by decide) ?_
    have e : repT 0 a = [] := rfl
    rw [e] at q
    exact ⟨sv [], H, I.tok _, ⟨_, rfl⟩, q⟩
end
end Cn
namespace Cn
open PySem L2
def PvI (tb : TE) (σ : L2.St) (n : Nat) : Prop := ∀ (H : Hp) (Q : VK), Q (.int (n : Nat)) H → tb σ H Q
abbrev repZ : R2 := fun x y H Q => ∃ (a : T) (n : Nat), x = sv a ∧ y = V.int (n : Int) ∧ n ≤ 100000 ∧ a.length ≤ 100 ∧ a ≠ [] ∧ Q (sv (repT n a)) H
section
variable {K : PySem.W.Frag} {σ : L2.St} {H : Hp} {ta tb te tl : TE} {u : TS} {l : T} {ls : List T} {n m i j k : Nat} {D : Ends}
theorem Pt.repk (h : Pt te σ l k) (hv : PvI tb σ n) (hn : n ≤ m) (hm : m ≤ 100000 := by decide) (hk : k ≤ 100 := by decide) (h4 : l ≠ [] := by decide) : Pt (tOp repZ te tb) σ (repT n l) (m * k) :=
  ⟨by rw [repT_len]; exact Nat.mul_le_mul hn h.1, fun H Q q => h.2 H _ (hv H _ ⟨l, n, rfl, rfl, by omega, by have := h.1; omega, h4, q⟩)⟩
theorem svs_atI {L : List T} {n : Nat} {r : T} (h : L[n]? = some r) : atI (svs L) (n : Int) = some (sv r) := atI_nat (svs_at h)
theorem sq_ixl (h : MkL tl σ H ls) (hv : σ[j]? = some (some (.int (n : Nat)))) (hx : ls[n]? = some l) (k : ∀ H', But [] H H' → u D (σ.set i (some (sv l))) H') : tSeq (tAsg (tOp (rIxL K) tl (tVar j)) (gName i)) u D σ H :=
  h _ fun H1 a b na e => ⟨_, hv, a, svs ls, (n : Nat), _, rfl, rfl, SqL.of e, svs_atI hx, k H1 b⟩
end
end Cn
set_option Elab.async false
set_option linter.all false
set_option maxRecDepth 100000
set_option maxHeartbeats 400000
/-! texts cut at a sign and joined again -/
namespace Cn
open PySem L2
theorem splitC_cons (c : Nat) : ∀ (p r : T), c ∉ p → splitC c (p ++ c :: r) = p :: splitC c r
  | [], r, _ => by simp [splitC]
  | x :: p, r, h => by
    have hx : ¬ (x == c) = true := fun z => h (by rw [eq_of_beq z]; simp)
    have ih := splitC_cons c p r fun z => h (List.mem_cons_of_mem _ z)
    rw [List.cons_append]
    show (if (x == c) = true then [] :: splitC c (p ++ c :: r) else match splitC c (p ++ c :: r) with
      | [] => [[x]]
      | h :: t => (x :: h) :: t) = _
    rw [if_neg hx, ih]
theorem splitC_one (c : Nat) : ∀ p : T, c ∉ p → splitC c p = [p]
  | [], _ => by simp [splitC]
  | x :: p, h => by
    have hx : ¬ (x == c) = true := fun z => h (by rw [eq_of_beq z]; simp)
    have ih := splitC_one c p fun z => h (List.mem_cons_of_mem _ z)
    unfold splitC
    rw [if_neg hx, ih]
theorem split_join (c : Nat) : ∀ rows : List T, rows ≠ [] → (∀ r ∈ rows, c ∉ r) → splitC c (joinT [c] rows) = rows
  | [], h, _ => absurd rfl h
  | [p], _, h => by
    show splitC c p = [p]
    exact splitC_one c p (h p (by simp))
  | p :: q :: r, _, h => by
    show splitC c (p ++ ([c] ++ joinT [c] (q :: r))) = _
    rw [List.singleton_append, splitC_cons c p _ (h p (by simp)), split_join c (q :: r) (by simp) fun x hx => h x (List.mem_cons_of_mem _ hx)]
end Cn
set_option Elab.async false
set_option linter.all false
set_option maxRecDepth 100000
set_option maxHeartbeats 1000000
/-! the round trip: the rows of tables that keep the rules are read back -/
namespace Cn
theorem drop_at {L rest : List T} {n : Nat} {r : T} (h : L.drop n = r :: rest) : L[n]? = some r ∧ L.drop (n + 1) = rest := by
  refine ⟨?_, ?_⟩
  · have : (L.drop n)[0]? = some r := by rw [h]; rfl
    rwa [List.getElem?_drop, Nat.add_zero] at this
  · rw [← List.drop_drop, h]; rfl
theorem drop_head {L post : List T} {n : Nat} (h : L.drop n = post) : L[n]? = post.head? := by
  have : (L.drop n)[0]? = post.head? := by rw [h]; cases post <;> rfl
  rwa [List.getElem?_drop, Nat.add_zero] at this
/-- the next row does not begin so -/
def NotB (st : T) (post : List T) : Prop := ∀ r, post.head? = some r → isPre st r = false
theorem begins_no {L post : List T} {n : Nat} {st : T} (h : L.drop n = post) (nb : NotB st post) : begins L n st = false := by
  unfold begins
  rw [drop_head h]
  cases q : post.head? with
  | none => rfl
  | some r => exact nb r q
theorem isPre_app (a b : T) : isPre a (a ++ b) = true := by rw [isPre_take]; simp
theorem begins_yes {L rest : List T} {n : Nat} {st w : T} (h : L.drop n = (st ++ w) :: rest) : begins L n st = true := by
  unfold begins
  rw [(drop_at h).1]; exact isPre_app st w
theorem words_at {L rest : List T} {n : Nat} {st w : T} (h : L.drop n = (st ++ w) :: rest) : words L n st = some (splitC 32 w) := by
  unfold words
  rw [(drop_at h).1]
  show (if isPre st (st ++ w) = true then some (splitC 32 ((st ++ w).drop st.length)) else none) = _
  rw [if_pos (isPre_app st w), List.drop_left]
theorem name_signs {w : T} (h : isName w = true) : 32 ∉ w ∧ w ≠ [] ∧ 10 ∉ w := by
  unfold isName at h
  simp only [Bool.and_eq_true, decide_eq_true_eq, List.all_eq_true] at h
  obtain ⟨h1, h2, h3⟩ := h
  refine ⟨fun z => ?_, fun z => by rw [z] at h1; simp at h1, fun z => ?_⟩
  · have := h3 _ z; omega
  · have := h3 _ z; omega
theorem name_at {L rest : List T} {n : Nat} {st w : T} {taken : List T} (h : L.drop n = (st ++ w) :: rest) (hw : isName w = true) (hn : w ∉ taken) : newName L n st taken = .ok w := by
  unfold newName
  rw [words_at h, splitC_one 32 w (name_signs hw).1]
  have e : taken.contains w = false := by
    cases q : taken.contains w with
    | false => rfl
    | true => exact absurd (List.contains_iff_mem.mp q) hn
  show (if (([w] : List T).length == 1 && (isName w && !taken.contains w)) = true then (.ok w : Except Nat T) else .error n) = _
  rw [hw, e]; rfl
theorem cols_rt {L post : List T} : ∀ (rest : List T) (f n : Nat) (acc : List T), L.drop n = rest.map (fun c => kColumn ++ c) ++ post → NotB kColumn post → (∀ c ∈ rest, isName c = true) → (acc ++ rest).Nodup → (acc ++ rest).length ≤ 5 → acc ++ rest ≠ [] → f + acc.length = 6 →
    colsLoop L f n acc = .ok (acc ++ rest, n + rest.length)
  | [], f, n, acc, hL, nb, _, _, h5, h0, hf => by
    rw [List.append_nil] at h5 h0 ⊢
    obtain ⟨f, rfl⟩ : ∃ g, f = g + 1 := ⟨f - 1, by omega⟩
    unfold colsLoop
    have e1 : acc.isEmpty = false := by cases acc with
      | nil => exact absurd rfl h0
      | cons _ _ => rfl
    rw [e1, begins_no (by simpa using hL) nb]; rfl
  | c :: rest, f, n, acc, hL, nb, hn, hd, h5, h0, hf => by
    have l5 : acc.length + 1 ≤ 5 := by simp at h5; omega
    obtain ⟨f, rfl⟩ : ∃ g, f = g + 1 := ⟨f - 1, by omega⟩
    have hL2 : L.drop n = (kColumn ++ c) :: (rest.map (fun c => kColumn ++ c) ++ post) := hL
    have hc : c ∉ acc := fun z => (List.nodup_append.mp hd).2.2 c z c List.mem_cons_self rfl
    have e2 : acc ++ [c] ++ rest = acc ++ c :: rest := by simp
    have ih := cols_rt rest f (n + 1) (acc ++ [c]) (drop_at hL2).2 nb (fun x hx => hn x (List.mem_cons_of_mem _ hx)) (by rw [e2]; exact hd) (by rw [e2]; exact h5) (by rw [e2]; exact h0) (by simp; omega)
    unfold colsLoop
    rw [begins_yes hL2, Bool.or_true, if_pos rfl, name_at hL2 (hn c List.mem_cons_self) hc]
    show (if acc.length + 1 ≤ 5 then colsLoop L f (n + 1) (acc ++ [c]) else _) = _
    rw [if_pos l5, ih, e2, List.length_cons]
    congr 2
    omega
theorem split_words (ks : List T) (h : ks ≠ []) (hn : ∀ c ∈ ks, 32 ∉ c) : splitC 32 (joinT [32] ks) = ks := split_join 32 ks h hn
theorem keys_rt {L post cols : List T} (hcols : ∀ c ∈ cols, isName c = true) : ∀ (rest : List (List T)) (f n : Nat) (acc : List (List T)), L.drop n = rest.map (fun k => kKey ++ joinT [32] k) ++ post → NotB kKey post → (∀ k ∈ rest, k ≠ [] ∧ k.length ≤ 3 ∧ areDiff k cols = true) →
    (acc ++ rest).Pairwise (fun o k => hasAll k o = false ∧ hasAll o k = false) → (acc ++ rest).length ≤ 3 → acc ++ rest ≠ [] → f + acc.length = 4 → keysLoop L cols f n acc = .ok (acc ++ rest, n + rest.length)
  | [], f, n, acc, hL, nb, _, _, h5, h0, hf => by
    rw [List.append_nil] at h5 h0 ⊢
    obtain ⟨f, rfl⟩ : ∃ g, f = g + 1 := ⟨f - 1, by omega⟩
    unfold keysLoop
    have e1 : acc.isEmpty = false := by cases acc with
      | nil => exact absurd rfl h0
      | cons _ _ => rfl
    rw [e1, begins_no (by simpa using hL) nb]; rfl
  | k :: rest, f, n, acc, hL, nb, hk, hp, h5, h0, hf => by
    have l5 : acc.length + 1 ≤ 3 := by simp at h5; omega
    obtain ⟨f, rfl⟩ : ∃ g, f = g + 1 := ⟨f - 1, by omega⟩
    have hL2 : L.drop n = (kKey ++ joinT [32] k) :: (rest.map (fun k => kKey ++ joinT [32] k) ++ post) := hL
    obtain ⟨k0, k3, kd⟩ := hk k List.mem_cons_self
    have kin : ∀ c ∈ k, c ∈ cols := fun c hc => by
      unfold areDiff hasAll at kd
      exact List.contains_iff_mem.mp (List.all_eq_true.mp (Bool.and_eq_true_iff.mp kd).2 c hc)
    have no : (acc.any fun o => hasAll k o || hasAll o k) = false := by
      cases q : acc.any fun o => hasAll k o || hasAll o k with
      | false => rfl
      | true =>
        obtain ⟨o, ho, e⟩ := List.any_eq_true.mp q
        have := (List.pairwise_append.mp hp).2.2 o ho k List.mem_cons_self
        rw [this.1, this.2] at e
        cases e
    have e2 : acc ++ [k] ++ rest = acc ++ k :: rest := by simp
    have ih := keys_rt hcols rest f (n + 1) (acc ++ [k]) (drop_at hL2).2 nb (fun x hx => hk x (List.mem_cons_of_mem _ hx)) (by rw [e2]; exact hp) (by rw [e2]; exact h5) (by rw [e2]; exact h0) (by simp; omega)
    have ew : words L n kKey = some k := by rw [words_at hL2, split_words k k0 fun c hc => (name_signs (hcols c (kin c hc))).1]
    unfold keysLoop
    rw [begins_yes hL2, Bool.or_true, if_pos rfl, ew]
    show (if (decide (k.length ≤ 3) && areDiff k cols) = true then (if (acc.any fun o => hasAll k o || hasAll o k) = true then _ else if acc.length + 1 ≤ 3 then keysLoop L cols f (n + 1) (acc ++ [k]) else _) else _) = _
    rw [kd, decide_eq_true k3, Bool.and_self, if_pos rfl, no, if_neg Bool.false_ne_true, if_pos l5, ih, e2, List.length_cons]
    congr 2
    omega
end Cn
set_option Elab.async false
set_option linter.all false
set_option maxRecDepth 100000
set_option maxHeartbeats 1000000
/-! the round trip: references, tables, schemas -/
namespace Cn
theorem joinT_two (s a b : T) : ∀ ks : List T, ks ≠ [] → joinT s (ks ++ [a, b]) = joinT s ks ++ (s ++ (a ++ (s ++ b)))
  | [], h => absurd rfl h
  | [p], _ => by simp [joinT]
  | p :: q :: r, _ => by
    have ih := joinT_two s a b (q :: r) (by simp)
    show p ++ (s ++ joinT s (q :: r ++ [a, b])) = (p ++ (s ++ joinT s (q :: r))) ++ _
    rw [ih]
    simp only [List.append_assoc]
theorem refRow_eq (r : List T × T × Bool) (h : r.1 ≠ []) : refRow r = refStart r.2.2 ++ joinT [32] (r.1 ++ [kArrow, r.2.1]) := by
  rw [joinT_two _ _ _ _ h]
  obtain ⟨cs, tg, b⟩ := r
  cases b <;> simp [refRow, refStart, kRef, kOpt, kArrow]
/-- a reference that the rules allow -/
structure OkR (t : Tbl) (above : List Tbl) (r : List T × T × Bool) : Prop where
  ne : r.1 ≠ []
  names : isName r.2.1 = true
  fit : fits (foundIn r.2.2 t above r.2.1) r.1 = true
  diff : areDiff r.1 t.cols = true
  free : barred r.2.2 t r.1 = false
theorem opt_no (w : T) : isPre kRef (kOpt ++ w) = false := by rfl
theorem ref_no (w : T) : isPre kOpt (kRef ++ w) = false := by rfl
theorem getD_two {ks : List T} {a b : T} : (ks ++ [a, b]).getD ((ks ++ [a, b]).length - 2) [] = a ∧ (ks ++ [a, b]).getD ((ks ++ [a, b]).length - 1) [] = b ∧ (ks ++ [a, b]).take ((ks ++ [a, b]).length - 2) = ks := by
  have l : (ks ++ [a, b]).length = ks.length + 2 := by simp
  refine ⟨?_, ?_, ?_⟩
  · rw [l, Nat.add_sub_cancel, List.getD_eq_getElem?_getD, List.getElem?_append_right (Nat.le_refl _), Nat.sub_self]; rfl
  · rw [l, show ks.length + 2 - 1 = ks.length + 1 by omega, List.getD_eq_getElem?_getD, List.getElem?_append_right (by omega), show ks.length + 1 - ks.length = 1 by omega]; rfl
  · rw [l, Nat.add_sub_cancel, List.take_left]
theorem ref_at {L rest : List T} {n : Nat} {t : Tbl} {above : List Tbl} {r : List T × T × Bool} (hcols : ∀ c ∈ t.cols, isName c = true) (h : L.drop n = refRow r :: rest) (ok : OkR t above r) :
    (begins L n kRef || begins L n kOpt) = true ∧ readRef L n t above = .ok r := by
  rw [refRow_eq r ok.ne] at h
  have eb : begins L n kRef = r.2.2 := by
    unfold begins
    rw [(drop_at h).1]
    cases q : r.2.2 with
    | true => exact isPre_app kRef _
    | false => exact opt_no _
  have ew : words L n (refStart r.2.2) = some (r.1 ++ [kArrow, r.2.1]) := by
    rw [words_at h, split_words _ (by simp) fun c hc => ?_]
    rcases List.mem_append.mp hc with z | z
    · have hin : c ∈ t.cols := by
        have kd := ok.diff
        unfold areDiff hasAll at kd
        exact List.contains_iff_mem.mp (List.all_eq_true.mp (Bool.and_eq_true_iff.mp kd).2 c z)
      exact (name_signs (hcols c hin)).1
    · rcases List.mem_cons.mp z with z | z
      · rw [z]; decide
      · rw [List.mem_singleton.mp z]; exact (name_signs ok.names).1
  refine ⟨?_, ?_⟩
  · cases q : r.2.2 with
    | true => rw [eb, q]; rfl
    | false =>
      have e : begins L n kOpt = true := begins_yes (w := joinT [32] (r.1 ++ [kArrow, r.2.1])) (by rw [h, q]; rfl)
      rw [e, Bool.or_true]
  · unfold readRef
    rw [eb, ew]
    obtain ⟨g1, g2, g3⟩ := getD_two (ks := r.1) (a := kArrow) (b := r.2.1)
    have l3 : 3 ≤ (r.1 ++ [kArrow, r.2.1]).length := by
      have : 0 < r.1.length := List.length_pos_iff.mpr ok.ne
      simp; omega
    simp only [g1, g2, g3, decide_eq_true l3, beq_self_eq_true, Bool.and_self, if_true, ok.fit, ok.diff, ok.free, Bool.false_eq_true, if_false]
theorem refs_rt {L post : List T} {t : Tbl} {above : List Tbl} (hcols : ∀ c ∈ t.cols, isName c = true) : ∀ (rest : List (List T × T × Bool)) (f n : Nat) (acc : List (List T × T × Bool)), L.drop n = rest.map refRow ++ post → NotB kRef post → NotB kOpt post → (∀ r ∈ rest, OkR t above r) →
    (acc ++ rest).Pairwise (fun a b => ∀ c ∈ b.1, c ∉ a.1) → (acc ++ rest).length ≤ 2 → f + acc.length = 3 → refsLoop L t above f n acc = .ok (acc ++ rest, n + rest.length)
  | [], f, n, acc, hL, nb, nb2, _, _, h5, hf => by
    rw [List.append_nil] at h5 ⊢
    obtain ⟨f, rfl⟩ : ∃ g, f = g + 1 := ⟨f - 1, by omega⟩
    have hL : L.drop n = post := by simpa using hL
    unfold refsLoop
    rw [begins_no hL nb, begins_no hL nb2]; rfl
  | r :: rest, f, n, acc, hL, nb, nb2, hk, hp, h5, hf => by
    have l5 : acc.length + 1 ≤ 2 := by simp at h5; omega
    obtain ⟨f, rfl⟩ : ∃ g, f = g + 1 := ⟨f - 1, by omega⟩
    have hL2 : L.drop n = refRow r :: (rest.map refRow ++ post) := hL
    obtain ⟨eb, er⟩ := ref_at hcols hL2 (hk r List.mem_cons_self)
    have no : (r.1.any fun c => (acc.flatMap (·.1)).contains c) = false := by
      cases q : r.1.any fun c => (acc.flatMap (·.1)).contains c with
      | false => rfl
      | true =>
        obtain ⟨c, hc, e⟩ := List.any_eq_true.mp q
        obtain ⟨a, ha, hca⟩ := List.mem_flatMap.mp (List.contains_iff_mem.mp e)
        exact absurd hca ((List.pairwise_append.mp hp).2.2 a ha r List.mem_cons_self c hc)
    have e2 : acc ++ [r] ++ rest = acc ++ r :: rest := by simp
    have ih := refs_rt hcols rest f (n + 1) (acc ++ [r]) (drop_at hL2).2 nb nb2 (fun x hx => hk x (List.mem_cons_of_mem _ hx)) (by rw [e2]; exact hp) (by rw [e2]; exact h5) (by simp; omega)
    unfold refsLoop
    rw [eb, if_pos rfl, er]
    show (if (r.1.any fun c => (acc.flatMap (·.1)).contains c) = true then _ else if acc.length + 1 ≤ 2 then refsLoop L t above f (n + 1) (acc ++ [r]) else _) = _
    rw [no, if_neg Bool.false_ne_true, if_pos l5, ih, e2, List.length_cons]
    congr 2
    omega
/-- a table that the rules allow below the tables above it -/
structure OkT (above : List Tbl) (t : Tbl) : Prop where
  name : isName t.name = true
  new : t.name ∉ above.map (·.name)
  room : above.length < 5
  cols0 : t.cols ≠ []
  cols5 : t.cols.length ≤ 5
  colsN : ∀ c ∈ t.cols, isName c = true
  colsD : t.cols.Nodup
  keys0 : t.keys ≠ []
  keys3 : t.keys.length ≤ 3
  keysK : ∀ k ∈ t.keys, k ≠ [] ∧ k.length ≤ 3 ∧ areDiff k t.cols = true
  keysP : t.keys.Pairwise (fun o k => hasAll k o = false ∧ hasAll o k = false)
  refs2 : t.refs.length ≤ 2
  refsR : ∀ r ∈ t.refs, OkR ⟨t.name, t.cols, t.keys, []⟩ above r
  refsP : t.refs.Pairwise (fun a b => ∀ c ∈ b.1, c ∉ a.1)
theorem refRow_head (r : List T × T × Bool) (h : r.1 ≠ []) : isPre kColumn (refRow r) = false ∧ isPre kKey (refRow r) = false := by
  rw [refRow_eq r h]
  cases r.2.2 <;> exact ⟨rfl, rfl⟩
theorem head_refs {refs : List (List T × T × Bool)} {post : List T} (h : ∀ r ∈ refs, r.1 ≠ []) : ∀ x, (refs.map refRow ++ kEnd :: post).head? = some x → isPre kColumn x = false ∧ isPre kKey x = false := fun x hx => by
  cases refs with
  | nil => cases hx; exact ⟨by decide, by decide⟩
  | cons r rest => cases hx; exact refRow_head r (h r List.mem_cons_self)
theorem table_rt {L post : List T} {n : Nat} {above : List Tbl} {t : Tbl} (ok : OkT above t) (h : L.drop n = tableRows t ++ post) : readTable L n above = .ok (t, n + (tableRows t).length) ∧ L.drop (n + (tableRows t).length) = post := by
  have e0 : L.drop n = (kTable ++ t.name) :: (t.cols.map (fun c => kColumn ++ c) ++ (t.keys.map (fun k => kKey ++ joinT [32] k) ++ (t.refs.map refRow ++ kEnd :: post))) := by
    rw [h]; unfold tableRows; simp
  have e1 := (drop_at e0).2
  have hr : ∀ r ∈ t.refs, r.1 ≠ [] := fun r hr => (ok.refsR r hr).ne
  obtain ⟨k0, ks, hks⟩ : ∃ k0 ks, t.keys = k0 :: ks := by
    cases q : t.keys with
    | nil => exact absurd q ok.keys0
    | cons a b => exact ⟨a, b, rfl⟩
  have c := cols_rt (L := L) (post := t.keys.map (fun k => kKey ++ joinT [32] k) ++ (t.refs.map refRow ++ kEnd :: post)) t.cols 6 (n + 1) [] e1 (fun x hx => by
    rw [hks] at hx
    cases hx
    rfl) ok.colsN (by simpa using ok.colsD) (by simpa using ok.cols5) (by simpa using ok.cols0) rfl
  have e2 : L.drop (n + 1 + t.cols.length) = t.keys.map (fun k => kKey ++ joinT [32] k) ++ (t.refs.map refRow ++ kEnd :: post) := by
    rw [← List.drop_drop, e1]
    rw [show t.cols.length = (t.cols.map (fun c => kColumn ++ c)).length by simp, List.drop_left]
  have k := keys_rt (L := L) (post := t.refs.map refRow ++ kEnd :: post) ok.colsN t.keys 4 (n + 1 + t.cols.length) [] e2 (fun x hx => (head_refs hr x hx).2) ok.keysK (by simpa using ok.keysP) (by simpa using ok.keys3) (by simpa using ok.keys0) rfl
  have e3 : L.drop (n + 1 + t.cols.length + t.keys.length) = t.refs.map refRow ++ kEnd :: post := by
    rw [← List.drop_drop, e2]
    rw [show t.keys.length = (t.keys.map (fun k => kKey ++ joinT [32] k)).length by simp, List.drop_left]
  have r := refs_rt (L := L) (post := kEnd :: post) (t := ⟨t.name, t.cols, t.keys, []⟩) (above := above) ok.colsN t.refs 3 (n + 1 + t.cols.length + t.keys.length) [] e3 (fun x hx => by cases hx; decide) (fun x hx => by cases hx; decide) ok.refsR (by simpa using ok.refsP) (by simpa using ok.refs2) rfl
  have e4 : L.drop (n + 1 + t.cols.length + t.keys.length + t.refs.length) = kEnd :: post := by
    rw [← List.drop_drop, e3]
    rw [show t.refs.length = (t.refs.map refRow).length by simp, List.drop_left]
  have ex : exactly L (n + 1 + t.cols.length + t.keys.length + t.refs.length) kEnd = true := by
    unfold exactly
    rw [(drop_at e4).1]; exact beq_self_eq_true _
  have en := name_at e0 ok.name ok.new
  have ln : n + (tableRows t).length = n + 1 + t.cols.length + t.keys.length + t.refs.length + 1 := by unfold tableRows; simp; omega
  refine ⟨?_, by rw [ln]; exact (drop_at e4).2⟩
  rw [List.nil_append] at c k r
  unfold readTable
  simp only [en, ok.room, if_true, c, k, r, ex, ln]
/-- tables that the rules allow, one below the other -/
inductive OkTs : List Tbl → List Tbl → Prop
  | nil {above : List Tbl} : OkTs above []
  | cons {above : List Tbl} {t : Tbl} {ts : List Tbl} : OkT above t → OkTs (above ++ [t]) ts → OkTs above (t :: ts)
theorem tables_rt {L : List T} : ∀ (ts : List Tbl) (f n : Nat) (acc : List Tbl), OkTs acc ts → L.drop n = ts.flatMap tableRows → n ≤ L.length → acc ++ ts ≠ [] → ts.length < f → tablesLoop L f n acc = .ok (acc ++ ts, L.length)
  | [], f, n, acc, ok, hL, hn, h0, hf => by
    obtain ⟨f, rfl⟩ : ∃ g, f = g + 1 := ⟨f - 1, by omega⟩
    rw [List.append_nil] at h0 ⊢
    have e : n = L.length := by
      have : (L.drop n).length = 0 := by rw [hL]; rfl
      rw [List.length_drop] at this
      omega
    have e1 : acc.isEmpty = false := by cases acc with
      | nil => exact absurd rfl h0
      | cons _ _ => rfl
    unfold tablesLoop
    rw [e, e1, beq_self_eq_true]; rfl
  | t :: ts, f, n, acc, ok, hL, hn, h0, hf => by
    obtain ⟨f, rfl⟩ : ∃ g, f = g + 1 := ⟨f - 1, by omega⟩
    cases ok with
    | cons o1 o2 =>
      have hL2 : L.drop n = tableRows t ++ ts.flatMap tableRows := by rw [hL, List.flatMap_cons]
      obtain ⟨r1, r2⟩ := table_rt o1 hL2
      have ne : n ≠ L.length := fun z => by
        have : (L.drop n).length = 0 := by rw [List.length_drop]; omega
        rw [hL2] at this
        unfold tableRows at this
        simp at this
      have nl : n + (tableRows t).length ≤ L.length := by
        have : (L.drop n).length = (tableRows t).length + (ts.flatMap tableRows).length := by rw [hL2, List.length_append]
        rw [List.length_drop] at this
        omega
      have e2 : acc ++ [t] ++ ts = acc ++ t :: ts := by simp
      have ih := tables_rt ts f _ (acc ++ [t]) o2 r2 nl (by simp) (by simp at hf; omega)
      have eb : (acc.isEmpty || !(n == L.length)) = true := by rw [beq_eq_false_iff_ne.mpr ne]; simp
      unfold tablesLoop
      rw [eb, if_pos rfl, r1]
      show tablesLoop L f (n + (tableRows t).length) (acc ++ [t]) = _
      rw [ih, e2]
/-- the rows of allowed tables are read back -/
theorem parse_rt {ts : List Tbl} (ok : OkTs [] ts) (h0 : ts ≠ []) (h5 : ts.length ≤ 5) : parseRows (ts.flatMap tableRows) = .ok ts := by
  unfold parseRows
  rw [tables_rt ts 6 0 [] ok (by simp) (Nat.zero_le _) (by simpa using h0) (by omega)]
  simp
end Cn
set_option Elab.async false
set_option linter.all false
set_option maxRecDepth 100000
set_option maxHeartbeats 1000000
/-! drawn names: different ones, and names -/
namespace Cn
def signN (first k : Nat) : Nat := 97 + (first + 5 * k) % 26
def wordN (way first : Nat) (tail : T) (k : Nat) : T := if way = 0 then [signN first k] ++ tail else if way = 1 then tail ++ [signN first k] else List.replicate (1 + k / 6) 113 ++ [signN first k]
def oddT : List T := [[116, 97, 98, 108, 101], [99, 111, 108, 117, 109, 110], [107, 101, 121], [101, 110, 100], [114, 101, 102], [111, 112, 116, 105, 111, 110, 97, 108], [119, 97], [119, 98], [119, 99], [119, 100], [119, 101], [119, 102]]
theorem sign_inj {first j k : Nat} (hj : j < 12) (hk : k < 12) (h : signN first j = signN first k) : j = k := by unfold signN at h; omega
theorem word_sign {way first : Nat} {tail : T} {j k : Nat} (h : wordN way first tail j = wordN way first tail k) : signN first j = signN first k := by
  unfold wordN at h
  split at h
  · exact (List.cons.inj h).1
  · split at h
    · have := List.append_cancel_left h
      exact (List.cons.inj this).1
    · have := congrArg List.getLast? h
      simp at this
      exact this
theorem name_ok {w : T} (h0 : w ≠ []) (h8 : w.length ≤ 8) (h : ∀ c ∈ w, 97 ≤ c ∧ c ≤ 122) : isName w = true := by
  unfold isName
  have : 1 ≤ w.length := List.length_pos_iff.mpr h0
  simp only [Bool.and_eq_true, decide_eq_true_eq, List.all_eq_true]
  exact ⟨this, h8, fun c hc => h c hc⟩
theorem word_name {way first : Nat} {tail : T} {k : Nat} (ht : tail.length ≤ 7) (hc : ∀ c ∈ tail, 97 ≤ c ∧ c ≤ 122) (hk : k < 12) : isName (wordN way first tail k) = true := by
  have hs : 97 ≤ signN first k ∧ signN first k ≤ 122 := by unfold signN; omega
  unfold wordN
  split
  · refine name_ok (by simp) (by simp; omega) fun c h => ?_
    rcases List.mem_append.mp h with z | z
    · rw [List.mem_singleton.mp z]; exact hs
    · exact hc c z
  · split
    · refine name_ok (by simp) (by simp; omega) fun c h => ?_
      rcases List.mem_append.mp h with z | z
      · exact hc c z
      · rw [List.mem_singleton.mp z]; exact hs
    · refine name_ok (by simp) (by simp; omega) fun c h => ?_
      rcases List.mem_append.mp h with z | z
      · rw [(List.mem_replicate.mp z).2]; omega
      · rw [List.mem_singleton.mp z]; exact hs
/-- twelve different names -/
structure Names (ws : List T) : Prop where
  len : ws.length = 12
  nd : ws.Nodup
  nm : ∀ w ∈ ws, isName w = true
  noY : ∀ w ∈ ws, w ≠ [121, 122, 121, 122]
theorem word_noY {way first : Nat} {tail : T} {k : Nat} (he : ∃ c, ∀ x ∈ tail, x = c) : wordN way first tail k ≠ [121, 122, 121, 122] := by
  obtain ⟨c, he⟩ := he
  intro z
  unfold wordN at z
  split at z
  · obtain ⟨_, z⟩ := List.cons.inj z
    have z2 : tail = [122, 121, 122] := by simpa using z
    have h1 := he 122 (by rw [z2]; simp)
    have h2 := he 121 (by rw [z2]; simp)
    omega
  · split at z
    · have z1 : tail ++ [signN first k] = [121, 122, 121] ++ [122] := z
      obtain ⟨z2, _⟩ := List.append_inj' z1 rfl
      have h1 := he 122 (by rw [z2]; simp)
      have h2 := he 121 (by rw [z2]; simp)
      omega
    · rw [Nat.add_comm, List.replicate_succ, List.cons_append] at z
      have := (List.cons.inj z).1
      omega
theorem words_ok {way first : Nat} {tail : T} (ht : tail.length ≤ 7) (hc : ∀ c ∈ tail, 97 ≤ c ∧ c ≤ 122) (he : ∃ c, ∀ x ∈ tail, x = c) : Names ((List.range 12).map (wordN way first tail)) := by
  refine ⟨by simp, ?_, fun w hw => ?_, fun w hw => ?_⟩
  · unfold List.Nodup
    rw [List.pairwise_map]
    refine (List.nodup_range (n := 12)).imp_of_mem fun {a b} ha hb ne e => ?_
    exact ne (sign_inj (List.mem_range.mp ha) (List.mem_range.mp hb) (word_sign e))
  · obtain ⟨k, hk, rfl⟩ := List.mem_map.mp hw
    exact word_name ht hc (List.mem_range.mp hk)
  · obtain ⟨k, hk, rfl⟩ := List.mem_map.mp hw
    exact word_noY he
theorem odd_ok : Names oddT := ⟨rfl, by decide, by decide, by decide⟩
end Cn
set_option Elab.async false
set_option linter.all false
set_option maxRecDepth 100000
set_option maxHeartbeats 1000000
/-! drawn keys: the mathematics -/
namespace Cn
open PySem L2
theorem sub_perm {ks ls : List T} {n : Nat} (pm : ks.Perm ls) (hd : ls.Nodup) : (ks.take n).Nodup ∧ ∀ c ∈ ks.take n, c ∈ ls :=
  ⟨(List.take_sublist n ks).nodup (pm.symm.nodup hd), fun c hc => pm.mem_iff.mp ((List.take_sublist n ks).subset hc)⟩
theorem areDiff_of {k cols : List T} (hd : k.Nodup) (hs : ∀ c ∈ k, c ∈ cols) : areDiff k cols = true := by
  unfold areDiff hasAll
  rw [decide_eq_true hd, Bool.true_and]
  exact List.all_eq_true.mpr fun c hc => List.contains_iff_mem.mpr (hs c hc)
theorem areDiff_nd {k cols : List T} (h : areDiff k cols = true) : k.Nodup := by
  unfold areDiff at h
  exact of_decide_eq_true (Bool.and_eq_true_iff.mp h).1
theorem hasAll_iff {a b : List T} : hasAll a b = true ↔ ∀ c ∈ b, c ∈ a := by
  unfold hasAll
  rw [List.all_eq_true]
  exact ⟨fun h c hc => List.contains_iff_mem.mp (h c hc), fun h c hc => List.contains_iff_mem.mpr (h c hc)⟩
theorem filter_len {o k : List T} (ho : o.Nodup) (hk : k.Nodup) : (o.filter fun c => k.contains c).length = (k.filter fun c => o.contains c).length := by
  refine List.Perm.length_eq ((List.perm_ext_iff_of_nodup (List.filter_sublist.nodup ho) (List.filter_sublist.nodup hk)).mpr fun c => ?_)
  rw [List.mem_filter, List.mem_filter, List.contains_iff_mem, List.contains_iff_mem]
  exact ⟨fun h => ⟨h.2, h.1⟩, fun h => ⟨h.2, h.1⟩⟩
theorem filter_full {o k : List T} : (o.filter fun c => k.contains c).length = o.length ↔ hasAll k o = true := by
  rw [List.length_filter_eq_length_iff, hasAll_iff]
  exact ⟨fun h c hc => List.contains_iff_mem.mp (h c hc), fun h c hc => List.contains_iff_mem.mpr (h c hc)⟩
/-- the law's test of two keys -/
theorem shares {o k : List T} (ho : o.Nodup) (hk : k.Nodup) : ((o.filter fun c => k.contains c).length == k.length || (o.filter fun c => k.contains c).length == o.length) = !(!(hasAll k o) && !(hasAll o k)) := by
  have h1 : ((o.filter fun c => k.contains c).length == k.length) = hasAll o k := by
    rw [filter_len ho hk]
    rw [Bool.eq_iff_iff, beq_iff_eq]
    exact filter_full
  have h2 : ((o.filter fun c => k.contains c).length == o.length) = hasAll k o := by
    rw [Bool.eq_iff_iff, beq_iff_eq]
    exact filter_full
  rw [h1, h2]
  cases hasAll o k <;> cases hasAll k o <;> rfl
theorem cutV_to (xs : List V) (n : Nat) : cutV xs none (some (n : Int)) = xs.take n := by
  unfold cutV
  have e1 : HT.sIx xs.length 0 none = 0 := rfl
  rw [e1, HT.sIx_nat, List.drop_zero, Nat.sub_zero]
  by_cases h : n ≤ xs.length
  · rw [Nat.min_eq_left h]
  · rw [Nat.min_eq_right (by omega), List.take_of_length_le (Nat.le_refl _), List.take_of_length_le (by omega)]
theorem inV_two (n x y : Nat) : inV (.int (n : Int)) [.int (x : Int), .int (y : Int)] = (n == x || n == y) := by
  have e : ∀ z : Nat, eqV (.int (z : Int)) (.int (n : Int)) = (n == z) := fun z => by
    show ((z : Int) == (n : Int)) = (n == z)
    by_cases h : n = z
    · subst h; simp
    · rw [beq_eq_false_iff_ne.mpr h]
      exact beq_eq_false_iff_ne.mpr fun q => h (by omega)
  unfold inV
  rw [List.any_cons, List.any_cons, List.any_nil, Bool.or_false, e, e]
end Cn
set_option Elab.async false
set_option linter.all false
set_option maxRecDepth 100000
set_option maxHeartbeats 1000000
/-! drawn references and schemas: the mathematics -/
namespace Cn
open PySem L2
structure RefsOk (t : Tbl) (above : List Tbl) (rs : List (List T × T × Bool)) : Prop where
  len : rs.length ≤ 2
  each : ∀ r ∈ rs, OkR t above r
  apart : rs.Pairwise (fun a b => ∀ c ∈ b.1, c ∉ a.1)
theorem found_one {ts : List Tbl} {tb : Tbl} (hd : (ts.map (·.name)).Nodup) (hm : tb ∈ ts) : (ts.filter fun a => a.name == tb.name) = [tb] := by
  induction ts with
  | nil => cases hm
  | cons x r ih =>
    rw [List.map_cons, List.nodup_cons] at hd
    rcases List.mem_cons.mp hm with z | z
    · subst z
      have e : (r.filter fun a => a.name == tb.name) = [] := by
        rw [List.filter_eq_nil_iff]
        intro a ha q
        exact hd.1 (List.mem_map.mpr ⟨a, ha, eq_of_beq q⟩)
      rw [List.filter_cons, beq_self_eq_true, if_pos rfl, e]
    · have ne : (x.name == tb.name) = false := beq_eq_false_iff_ne.mpr fun q => hd.1 (List.mem_map.mpr ⟨tb, z, q.symm⟩)
      rw [List.filter_cons, ne, if_neg Bool.false_ne_true]
      exact ih hd.2 z
/-- one reference more -/
theorem ref_more {t : Tbl} {above : List Tbl} {rs : List (List T × T × Bool)} {free : List T} {tb : Tbl} {req : Bool} (ok : RefsOk t above rs) (h2 : rs.length < 2) (hd : ((targets req t above).map (·.name)).Nodup) (hm : tb ∈ targets req t above) (hn : isName tb.name = true)
    (hk : (tb.keys.headD []).length ≤ free.length) (h0 : 0 < (tb.keys.headD []).length) (fd : free.Nodup) (fs : ∀ c ∈ free, c ∈ t.cols) (ft : ∀ c ∈ free, c ∉ rs.flatMap (·.1)) (fk : req = false → ∀ c ∈ free, ∀ k ∈ t.keys, c ∉ k) :
    RefsOk t above (rs ++ [(free.take (tb.keys.headD []).length, tb.name, req)]) := by
  have pl : (free.take (tb.keys.headD []).length).length = (tb.keys.headD []).length := by rw [List.length_take]; omega
  have ps : ∀ c ∈ free.take (tb.keys.headD []).length, c ∈ free := fun c hc => List.mem_of_mem_take hc
  refine ⟨by simp; omega, fun r hr => ?_, ?_⟩
  · rcases List.mem_append.mp hr with z | z
    · exact ok.each r z
    · rw [List.mem_singleton.mp z]
      refine ⟨fun q => ?_, hn, ?_, ?_, ?_⟩
      · have q : free.take (tb.keys.headD []).length = [] := q
        rw [q] at pl
        rw [← pl] at h0
        simp at h0
      · show fits ((targets req t above).filter fun a => a.name == tb.name) (free.take (tb.keys.headD []).length) = true
        rw [found_one hd hm]
        show ((tb.keys.headD []).length == (free.take (tb.keys.headD []).length).length) = true
        rw [pl]; exact beq_self_eq_true _
      · exact areDiff_of ((List.take_sublist _ free).nodup fd) fun c hc => fs c (ps c hc)
      · show (!req && t.keys.any (fun k => (free.take (tb.keys.headD []).length).any fun c => k.contains c)) = false
        cases req with
        | true => rfl
        | false =>
          rw [Bool.not_false, Bool.true_and]
          cases q : t.keys.any (fun k => (free.take (tb.keys.headD []).length).any fun c => k.contains c) with
          | false => rfl
          | true =>
            obtain ⟨k, hkk, q⟩ := List.any_eq_true.mp q
            obtain ⟨c, hc, q⟩ := List.any_eq_true.mp q
            exact absurd (List.contains_iff_mem.mp q) (fk rfl c (ps c hc) k hkk)
  · refine List.pairwise_append.mpr ⟨ok.apart, by simp, fun a ha b hb c hc q => ?_⟩
    rw [List.mem_singleton.mp hb] at hc
    exact ft c (ps c hc) (List.mem_flatMap.mpr ⟨a, ha, q⟩)
theorem OkTs.snoc {above ts : List Tbl} {t : Tbl} (h : OkTs above ts) (o : OkT (above ++ ts) t) : OkTs above (ts ++ [t]) := by
  induction h with
  | nil => exact .cons (by simpa using o) .nil
  | cons o1 _ ih => exact .cons o1 (ih (by simpa using o))
/-- a drawn table is allowed -/
theorem table_of {above : List Tbl} {name : T} {cols : List T} {keys : List (List T)} {refs : List (List T × T × Bool)} (hn : isName name = true) (new : name ∉ above.map (·.name)) (room : above.length < 5) (c0 : cols ≠ []) (c5 : cols.length ≤ 5) (cn : ∀ c ∈ cols, isName c = true) (cd : cols.Nodup)
    (k0 : keys ≠ []) (kl : keys.length ≤ 3) (ke : ∀ k ∈ keys, k ≠ [] ∧ k.length ≤ 3 ∧ areDiff k cols = true) (kp : keys.Pairwise (fun o k => hasAll k o = false ∧ hasAll o k = false)) (rs : RefsOk ⟨name, cols, keys, []⟩ above refs) : OkT above ⟨name, cols, keys, refs⟩ :=
  ⟨hn, new, room, c0, c5, cn, cd, k0, kl, ke, kp, rs.len, rs.each, rs.apart⟩
/-- allowed tables keep the bounds -/
theorem wf_all {ts : List Tbl} (ok : OkTs [] ts) (h0 : ts ≠ []) (h5 : ts.length ≤ 5) : ∀ t ∈ ts, WfT t := (parseRows_ok (parse_rt ok h0 h5)).2.2
end Cn
set_option Elab.async false
set_option linter.all false
set_option maxRecDepth 100000
set_option maxHeartbeats 2000000
/-! Cn.B12: a dict from the names of tables to their main keys. -/
namespace Cn
open PySem L2
def dk (ts : List Tbl) (vs : List V) : List (Key × V) := List.zipWith (fun t v => ((Sum.inr (S t.name) : Key), v)) ts vs
theorem dk_none {n : T} : ∀ {ts : List Tbl} {vs : List V}, n ∉ ts.map (·.name) → valV (dk ts vs) (.inr (S n)) = none
  | [], _, _ => rfl
  | _ :: _, [], _ => rfl
  | t :: ts, v :: vs, h => by
    have h1 : ¬ ((Sum.inr (S t.name) : Key) = .inr (S n)) := fun z => h (by have e := S_inj (Sum.inr.inj z); rw [← e]; simp)
    show valV ((_, v) :: dk ts vs) _ = none
    rw [valV_neg h1]
    exact dk_none fun z => h (List.mem_cons_of_mem _ z)
theorem dk_get : ∀ {ts : List Tbl} {vs : List V} {i : Nat} {t : Tbl} {v : V}, (ts.map (·.name)).Nodup → ts[i]? = some t → vs[i]? = some v → valV (dk ts vs) (.inr (S t.name)) = some v
  | [], _, i, _, _, _, h, _ => by simp at h
  | _ :: _, [], i, _, _, _, _, h => by simp at h
  | x :: ts, y :: vs, 0, t, v, nd, h, h2 => by
    simp at h h2
    subst h; subst h2
    exact valV_pos rfl
  | x :: ts, y :: vs, i + 1, t, v, nd, h, h2 => by
    have h : ts[i]? = some t := by simpa using h
    have h2 : vs[i]? = some v := by simpa using h2
    rw [List.map_cons, List.nodup_cons] at nd
    have h1 : ¬ ((Sum.inr (S x.name) : Key) = .inr (S t.name)) := fun z => nd.1 (List.mem_map.mpr ⟨t, List.mem_of_getElem? h, (S_inj (Sum.inr.inj z)).symm⟩)
    show valV ((_, y) :: dk ts vs) _ = _
    rw [valV_neg h1]
    exact dk_get nd.2 h h2
theorem dk_snoc {ts : List Tbl} {vs : List V} {t : Tbl} {v : V} (h : ts.length = vs.length) : dk (ts ++ [t]) (vs ++ [v]) = dk ts vs ++ [(.inr (S t.name), v)] := by
  unfold dk
  rw [List.zipWith_append h]; rfl
theorem dk_keys : ∀ {ts : List Tbl} {vs : List V}, ts.length = vs.length → (dk ts vs).map (·.1) = (ts.map fun t => S t.name).map Sum.inr
  | [], [], _ => rfl
  | [], _ :: _, h => by simp at h
  | _ :: _, [], h => by simp at h
  | t :: ts, v :: vs, h => by
    have ih := dk_keys (ts := ts) (vs := vs) (by simpa using h)
    show Sum.inr (S t.name) :: (dk ts vs).map (·.1) = _
    rw [ih]; rfl
/-- the dict at d -/
def DictR (H : Hp) (d : Addr) (ts : List Tbl) : Prop := ∃ vs, H d = some (.dK (dk ts vs)) ∧ Each (KeyR H) vs (ts.map fun t => t.keys.headD [])
theorem DictR.len {H : Hp} {ts : List Tbl} {vs : List V} (h : Each (KeyR H) vs (ts.map fun t => t.keys.headD [])) : ts.length = vs.length := by
  have := h.1
  rw [List.length_map] at this
  exact this.symm
theorem DictR.put {H : Hp} {d : Addr} {ts : List Tbl} {t : Tbl} {v : V} (h : DictR H d ts) (hn : t.name ∉ ts.map (·.name)) (hv : KeyR H v (t.keys.headD [])) (hz : ts.length ≤ 100) : ∃ H', DPut H d (sv t.name) v H' ∧ But [d] H H' ∧ DictR H' d (ts ++ [t]) := by
  obtain ⟨vs, e, hk⟩ := h
  have l := DictR.len hk
  have b : But [d] H (upd H d (.dK (putK (dk ts vs) (.inr (S t.name)) v))) := But.refl.put (by simp)
  refine ⟨_, DPut.k (k := .inr (S t.name)) e (szt ?_), b, ?_⟩
  · unfold dk
    rw [List.length_zipWith]
    omega
  · have kk : ∀ {x : V} {k : List T}, KeyR H x k → KeyR (upd H d (.dK (putK (dk ts vs) (.inr (S t.name)) v))) x k := fun {x k} ⟨a, q, z⟩ => ⟨a, q, b.at1 z (fun y => by rw [y, e] at z; cases z)⟩
    refine ⟨vs ++ [v], ?_, ?_⟩
    · rw [upd_same, putK_new v (dk_none hn), dk_snoc l]
    · rw [List.map_append]
      exact (hk.mono fun _ _ z => kk z).snoc (kk hv)
theorem DictR.get {H : Hp} {d : Addr} {ts : List Tbl} {t : Tbl} (h : DictR H d ts) (nd : (ts.map (·.name)).Nodup) (hm : t ∈ ts) : ∃ v, DGet H d (sv t.name) (some v) ∧ KeyR H v (t.keys.headD []) := by
  obtain ⟨vs, e, hk⟩ := h
  obtain ⟨i, hi, rfl⟩ := List.getElem_of_mem hm
  have h1 : ts[i]? = some ts[i] := List.getElem?_eq_getElem hi
  have h2 : (ts.map fun t => t.keys.headD [])[i]? = some (ts[i].keys.headD []) := by rw [List.getElem?_map, h1]; rfl
  obtain ⟨v, hv, kv⟩ := hk.atx h2
  have g := dk_get nd h1 hv
  refine ⟨v, ?_, kv⟩
  rw [← g]
  exact DGet.k (k := .inr (S ts[i].name)) e
theorem DictR.keep {H H' : Hp} {l : List Addr} {d : Addr} {ts : List Tbl} (h : DictR H d ts) (b : But l H H') (hd : d ∉ l) (ht : ∀ x ∈ l, ∀ xs, H x ≠ some (.tup xs)) : DictR H' d ts := by
  obtain ⟨vs, e, hk⟩ := h
  exact ⟨vs, b d _ hd e, hk.mono fun _ _ ⟨a, q, z⟩ => ⟨a, q, b a _ (fun y => ht a y _ z) z⟩⟩
end Cn
set_option Elab.async false
set_option linter.all false
set_option maxRecDepth 100000
set_option maxHeartbeats 4000000
/-! the class that reads rows -/
namespace Cn
open PySem L2
section
variable {P : Program} {w : World} {K : PySem.W.Frag} {mg : Str → Option Value} {base : Heap} {CR CT CS CI : Addr} {f : Addr} {fd : FuncData}

/-! ### InvalidText.__init__ -/
theorem sc_InvalidText_init : FnScope ["self", "row"] ["self", "row"] (defScope s_InvalidText_init) := ⟨rfl, rfl, rfl, by decide +kernel, rfl, by decide +kernel, by decide +kernel⟩
theorem ok_InvalidText_init (F : Fun K "__init__" "InvalidText.__init__" s_InvalidText_init f fd) (ox : OexC K CI) (na : PySem.W.findIn K (.ref CI) "row" = some none) : FnOk P w K mg base (L2.CX P w) 1 f fd ["self", "row"] (sp_exinit CI "row") := by
  refine F.okX sc_InvalidText_init (fun vs H Q E h => ?_) (fun cdv A outer s H vs Q E hr h => ?_)
  · obtain ⟨a, v, rfl, _⟩ := h
    rfl
  · obtain ⟨a, v, rfl, ha, k⟩ := h
    refine ⟨_, pss_one (ps_ost (pv 0) (pv 1)), ?_⟩
    exact ⟨_, rfl, _, rfl, a, CI, rfl, ox, na, .inl ⟨ha, k⟩⟩

/-! ### Rows.__init__ -/
theorem sc_Rows_init : FnScope ["self", "text"] ["self", "text"] (defScope s_Rows_init) := ⟨rfl, rfl, rfl, by decide +kernel, rfl, by decide +kernel, by decide +kernel⟩
theorem putF_eq1 {a b : Addr} (l : Addr) (n : Int) : putF "_at" (.int n) (putF "_rows" (.ref l) []) = ([("_rows", .ref l), ("_at", .int n)] : List (Str × V)) := by rfl
def sp_Rows_init (CR : Addr) : Sp := fun vs H Q _ => ∃ (p dx : Addr) (t : T), vs = [.ref p, sv t] ∧ H p = some (.ins CR dx []) ∧ t.length ≤ 900000 ∧
  ∀ H', But [p] H H' → (∃ r, RowsAt CR H' p dx r (splitC 10 t) 0) → Q .non H'
theorem ok_Rows_init (F : Fun K "__init__" "Rows.__init__" s_Rows_init f fd) (T : Txt K mg CR CT CS) : FnOk P w K mg base (L2.CX P w) 1 f fd ["self", "text"] (sp_Rows_init CR) := by
  refine F.okX sc_Rows_init (fun vs H Q E h => ?_) (fun cdv A outer s H vs Q E hr h => ?_)
  · obtain ⟨p, dx, t, rfl, _⟩ := h
    rfl
  · obtain ⟨p, dx, t, rfl, hp, hz, k⟩ := h
    refine ⟨_, (pss_cons (ps_fldK K rfl (pv 0) (pe_split (pv 1) pe_str) rfl)
  (pss_one (ps_fldK K rfl (pv 0) pe_int rfl))), ?_⟩
    refine ⟨_, rfl, ⟨_, rfl⟩, S t, S [10], rfl, rfl, rfl, szl (by rw [S_len]; omega), fun l hl => ?_⟩
    have npl : p ≠ l := ne_of_none hp hl
    refine ⟨_, rfl, p, CR, dx, _, rfl, (by rw [upd_ne npl]; exact hp), T.clR, T.naR1, (by show 0 < 1000; decide), _, rfl, p, CR, dx, _, rfl, upd_same, T.clR, T.naR2, (by show 1 < 1000; decide), ?_⟩
    refine k _ ?_ ⟨l, ?_, ?_, ?_, ?_⟩
    · exact ((But.refl.new hl).put (by simp)).put (by simp)
    · rw [upd_same]; rfl
    · rw [upd_ne npl.symm, upd_ne npl.symm, upd_same]
      have e : Txt.split (S t) (S [10]) = (splitC 10 t).map S := split_S 10 (by decide) t
      show some (HO.lst ((Txt.split (S t) (S [10])).map V.str)) = _
      rw [e, svs_str]
    · have := splitC_len 10 t; omega
    · intro r hr'; have := splitC_mem 10 t r hr'; omega

/-! ### all_read, begins -/
theorem sc_Rows_all_read : FnScope ["self"] ["self"] (defScope s_Rows_all_read) := ⟨rfl, rfl, rfl, by decide +kernel, rfl, by decide +kernel, by decide +kernel⟩
theorem sc_Rows_begins : FnScope ["self", "start"] ["self", "start"] (defScope s_Rows_begins) := ⟨rfl, rfl, rfl, by decide +kernel, rfl, by decide +kernel, by decide +kernel⟩
theorem sc_Rows_words : FnScope ["self", "start", "row"] ["self", "start"] (defScope s_Rows_words) := ⟨rfl, rfl, rfl, by decide +kernel, rfl, by decide +kernel, by decide +kernel⟩
theorem sc_Rows_need : FnScope ["self", "holds"] ["self", "holds"] (defScope s_Rows_need) := ⟨rfl, rfl, rfl, by decide +kernel, rfl, by decide +kernel, by decide +kernel⟩
theorem sc_Rows_new_name : FnScope ["self", "start", "taken", "words"] ["self", "start", "taken"] (defScope s_Rows_new_name) := ⟨rfl, rfl, rfl, by decide +kernel, rfl, by decide +kernel, by decide +kernel⟩
theorem sc_Rows_exactly : FnScope ["self", "row"] ["self", "row"] (defScope s_Rows_exactly) := ⟨rfl, rfl, rfl, by decide +kernel, rfl, by decide +kernel, by decide +kernel⟩
theorem rf_rows {l : Addr} {n : Nat} : (rf l n).lookup ("_rows" : Str) = some (.ref l) := by rfl
theorem rf_at {l : Addr} {n : Nat} : (rf l n).lookup ("_at" : Str) = some (.int n) := by rfl
def sp_all_read (CR : Addr) : Sp := fun vs H Q _ => ∃ p dx l L n, vs = [.ref p] ∧ RowsAt CR H p dx l L n ∧ Q (.bl (n == L.length)) H
theorem ok_all_read (F : Fun K "all_read" "Rows.all_read" s_Rows_all_read f fd) (T : Txt K mg CR CT CS) : FnOk P w K mg base (L2.CX P w) 1 f fd ["self"] (sp_all_read CR) := by
  refine F.okX sc_Rows_all_read (fun vs H Q E h => ?_) (fun cdv A outer s H vs Q E hr h => ?_)
  · obtain ⟨p, dx, l, L, n, rfl, _⟩ := h
    rfl
  · obtain ⟨p, dx, l, L, n, rfl, R, k⟩ := h
    obtain ⟨hp, hl, _⟩ := id R
    refine ⟨_, (pss_one (ps_ret (pe_cmpR op_eq (pe_fldK K rfl (pv 0) rfl) (pe_callB (call_len_seqK K rfl) (by rfl) T.b_len (by decide +kernel) (pa_cons (pe_fldK K rfl (pv 0) rfl) pa_nil)) (nomark _)))), ?_⟩
    refine ⟨_, rfl, p, CR, dx, _, _, rfl, hp, T.clR, T.naR2, rf_at, _, rfl, p, CR, dx, _, _, rfl, hp, T.clR, T.naR1, rf_rows, l, _, rfl, .inl (SqL.of hl), rfl, ?_⟩
    have e : decide (V.int (n : Int) = V.int ((svs L).length : Nat)) = (n == L.length) := by
      rw [svs_len]
      by_cases q : n = L.length
      · subst q; simp
      · rw [beq_eq_false_iff_ne.mpr q]
        exact decide_eq_false fun z => q (by injection z with z; omega)
    rw [e]
    exact k
def sp_begins (CR : Addr) : Sp := fun vs H Q _ => ∃ p dx l L n st, vs = [.ref p, sv st] ∧ RowsAt CR H p dx l L n ∧ n ≤ L.length ∧ Q (.bl (begins L n st)) H
theorem svs_ati {L : List T} {n : Nat} {r : T} (h : L[n]? = some r) : atI (svs L) (n : Int) = some (sv r) := atI_nat (svs_at h)
theorem ok_begins (F : Fun K "begins" "Rows.begins" s_Rows_begins f fd) (T : Txt K mg CR CT CS) (c_Rows_all_read : Met P w K mg base 1 CR "all_read" (sp_all_read CR)) : FnOk P w K mg base (L2.CX P w) 2 f fd ["self", "start"] (sp_begins CR) := by
  refine F.okX sc_Rows_begins (fun vs H Q E h => ?_) (fun cdv A outer s H vs Q E hr h => ?_)
  · obtain ⟨p, dx, l, L, n, st, rfl, _⟩ := h
    rfl
  · obtain ⟨p, dx, l, L, n, st, rfl, R, hn, k⟩ := h
    obtain ⟨hp, hl, _⟩ := id R
    refine ⟨_, (pss_one (ps_ret (pe_and (pe_not (p_meth0 E c_Rows_all_read hr (by decide) (passX rfl rfl rfl (takes_of rfl rfl rfl rfl)) (pv 0))) (pe_one (pe_m1 PySem.F.slot_str_startswith PySem.F.type_str_startswith mt_startswith (pe_ix (ix_listK K rfl) (pe_fldK K rfl (pv 0) rfl) (pe_fldK K rfl (pv 0) rfl) (fun _ _ => rfl)) (pv 1)))))), ?_⟩
    refine ⟨_, rfl, p, dx, _, rfl, hp, rfl, p, dx, l, L, n, rfl, R, _, rfl, _, rfl, ?_⟩
    unfold begins at k
    by_cases q : n = L.length
    · have e : (n == L.length) = true := by simp [q]
      rw [e]
      refine iteF ?_
      have e2 : L[n]? = none := by rw [q]; simp
      rw [e2] at k
      exact k
    · have e : (n == L.length) = false := by simp [q]
      rw [e]
      refine iteT ?_
      obtain ⟨r, hr'⟩ : ∃ r, L[n]? = some r := ⟨L[n]'(by omega), List.getElem?_eq_getElem _⟩
      rw [hr'] at k
      refine ⟨_, rfl, p, CR, dx, _, _, rfl, hp, T.clR, T.naR1, rf_rows, _, rfl, p, CR, dx, _, _, rfl, hp, T.clR, T.naR2, rf_at, l, svs L, n, sv r, rfl, rfl, SqL.of hl, svs_ati hr', ⟨_, rfl⟩, _, rfl, S r, S st, rfl, rfl, ?_⟩
      rw [starts_S]
      exact k

/-! ### words -/
def sp_words (CR CI : Addr) : Sp := fun vs H Q E => ∃ p dx l L n st, vs = [.ref p, sv st] ∧ RowsAt CR H p dx l L n ∧ n ≤ L.length ∧ st.length ≤ 100 ∧ match words L n st with
  | none => ErrE CI p H E n
  | some ws => ∀ H' a, But [p] H H' → RowsAt CR H' p dx l L (n + 1) → H a = none → H' a = some (.lst (svs ws)) → Q (.ref a) H'
theorem ok_words (F : Fun K "words" "Rows.words" s_Rows_words f fd) (T : Txt K mg CR CT CS) (c_Rows_begins : Met P w K mg base 2 CR "begins" (sp_begins CR)) (x_InvalidText : Xn P w K mg base 1 "InvalidText" "row" CI) :
    FnOk P w K mg base (L2.CX P w) 3 f fd ["self", "start"] (sp_words CR CI) := by
  refine F.okX sc_Rows_words (fun vs H Q E h => ?_) (fun cdv A outer s H vs Q E hr h => ?_)
  · obtain ⟨p, dx, l, L, n, st, rfl, _⟩ := h
    rfl
  · obtain ⟨p, dx, l, L, n, st, rfl, R, hn, hst, k⟩ := h
    obtain ⟨hp, hl, hz1, hz2⟩ := id R
    refine ⟨_, (pss_cons (ps_if (pt_not (pt_val (p_meth E c_Rows_begins hr (by decide) (passX rfl rfl rfl (takes_of rfl rfl rfl rfl)) (pv 0) (pa_cons (pv 1) pa_nil))))
  (pss_one (p_raise x_InvalidText hr (by decide) (takes_of rfl rfl rfl rfl) (by rfl) (pa_cons (pe_fldK K rfl (pv 0) rfl) pa_nil)))
  pss_nil)
  (pss_cons (ps_set (i := 2) sc_Rows_words.nd rfl (Or.inl rfl) (pe_ix (ix_listK K rfl) (pe_fldK K rfl (pv 0) rfl) (pe_fldK K rfl (pv 0) rfl) (fun _ _ => rfl)))
  (pss_cons (ps_fldaugK K rfl (pv 0) pe_int in_add)
  (pss_one (ps_ret (pe_split (pe_slice sl_str (pv 2) (po_some (pe_callB call_len_str (by rfl) T.b_len (by decide +kernel) (pa_cons (pv 1) pa_nil))) po_none) pe_str)))))), ?_⟩
    refine ⟨_, rfl, p, dx, _, rfl, hp, rfl, _, rfl, p, dx, l, L, n, st, rfl, R, hn, _, rfl, ?_⟩
    cases hr' : L[n]? with
    | none =>
      have e1 : begins L n st = false := by unfold begins; rw [hr']
      have e2 : words L n st = none := by unfold words; rw [hr']
      rw [e2] at k
      rw [e1]
      refine iteT ?_
      refine ⟨_, rfl, p, CR, dx, _, _, rfl, hp, T.clR, T.naR2, rf_at, fun H' d b _ hd => k H' d (But.of b) hd⟩
    | some r =>
      cases hp' : isPre st r with
      | false =>
        have e1 : begins L n st = false := by unfold begins; rw [hr']; exact hp'
        have e2 : words L n st = none := by unfold words; rw [hr']; simp [hp']
        rw [e2] at k
        rw [e1]
        refine iteT ?_
        refine ⟨_, rfl, p, CR, dx, _, _, rfl, hp, T.clR, T.naR2, rf_at, fun H' d b _ hd => k H' d (But.of b) hd⟩
      | true =>
        have e1 : begins L n st = true := by unfold begins; rw [hr']; exact hp'
        have e2 : words L n st = some (splitC 32 (r.drop st.length)) := by unfold words; rw [hr']; simp [hp']
        rw [e2] at k
        rw [e1]
        refine iteF ?_
        have hrz : r.length ≤ 1000000 := hz2 r (List.mem_of_getElem? hr')
        refine ⟨_, rfl, p, CR, dx, _, _, rfl, hp, T.clR, T.naR1, rf_rows, _, rfl, p, CR, dx, _, _, rfl, hp, T.clR, T.naR2, rf_at, l, svs L, n, sv r, rfl, rfl, SqL.of hl, svs_ati hr', ?_⟩
        refine ⟨_, rfl, p, CR, dx, _, _, rfl, hp, T.clR, T.naR2, rf_at, n, 1, rfl, rfl, dx, _, hp, (by show 2 < 1000; decide), ?_⟩
        have hlp : l ≠ p := ne_of hl hp (by intro z; cases z)
        refine ⟨_, rfl, _, rfl, S st, rfl, szl (by rw [S_len]; omega), _, rfl, S r, rfl, szl (by rw [S_len]; omega), ⟨_, rfl⟩, S (r.drop st.length), S [32], ?_, rfl, rfl, szl (by rw [S_len, List.length_drop]; omega), fun a ha => ?_⟩
        · rw [S_len, cutS_drop]
        · have ha0 : H a = none := by
            cases q : H a with
            | none => rfl
            | some o =>
              by_cases z : a = p
              · rw [z, upd_same] at ha; cases ha
              · rw [upd_ne z, q] at ha; cases ha
          have nap : a ≠ p := fun z => by rw [z, hp] at ha0; cases ha0
          have nal : a ≠ l := fun z => by rw [z, hl] at ha0; cases ha0
          refine k _ a ((But.refl.put (by simp)).new ha) ⟨?_, ?_, hz1, hz2⟩ ha0 ?_
          · rw [upd_ne nap.symm, upd_same]; rfl
          · rw [upd_ne nal.symm, upd_ne hlp]; exact hl
          · rw [upd_same]
            have e : Txt.split (S (r.drop st.length)) (S [32]) = (splitC 32 (r.drop st.length)).map S := split_S 32 (by decide) _
            rw [e, svs_str]

/-! ### need, new_name, exactly -/
def sp_need (CR CI : Addr) : Sp := fun vs H Q E => ∃ p dx l L n b, vs = [.ref p, .bl b] ∧ RowsAt CR H p dx l L (n + 1) ∧ if b = true then Q .non H else ErrE CI p H E n
theorem ok_need (F : Fun K "need" "Rows.need" s_Rows_need f fd) (T : Txt K mg CR CT CS) (x_InvalidText : Xn P w K mg base 1 "InvalidText" "row" CI) : FnOk P w K mg base (L2.CX P w) 3 f fd ["self", "holds"] (sp_need CR CI) := by
  refine F.okX sc_Rows_need (fun vs H Q E h => ?_) (fun cdv A outer s H vs Q E hr h => ?_)
  · obtain ⟨p, dx, l, L, n, b, rfl, _⟩ := h
    rfl
  · obtain ⟨p, dx, l, L, n, b, rfl, R, k⟩ := h
    obtain ⟨hp, hl, _⟩ := id R
    refine ⟨_, (pss_one (ps_if (pt_not (pt_val (pv 1)))
  (pss_one (p_raise x_InvalidText hr (by decide) (takes_of rfl rfl rfl rfl) (by rfl) (pa_cons (pe_op op_sub (pe_fldK K rfl (pv 0) rfl) pe_int) pa_nil)))
  pss_nil)), ?_⟩
    refine ⟨_, rfl, _, rfl, ?_⟩
    cases b with
    | true => exact iteF k
    | false =>
      refine iteT ?_
      refine ⟨_, rfl, p, CR, dx, _, _, rfl, hp, T.clR, T.naR2, rf_at, ((n + 1 : Nat) : Int), 1, rfl, rfl, fun H' d b _ hd => k H' d (But.of b) ?_⟩
      have e : ((n + 1 : Nat) : Int) - 1 = (n : Int) := by omega
      have hd' : H' d = some (.xd [("row", .int (((n + 1 : Nat) : Int) - 1))]) := hd
      rw [e] at hd'
      exact hd'
def sp_new_name (K : PySem.W.Frag) (CR CI : Addr) : Sp := fun vs H Q E => ∃ p dx l t L n st taken, vs = [.ref p, sv st, .ref t] ∧ RowsAt CR H p dx l L n ∧ n ≤ L.length ∧ st.length ≤ 100 ∧ H t = some (.lst (svs taken)) ∧ match newName L n st taken with
  | .error e => ErrE CI p H E e
  | .ok nm => ∀ H', But [p] H H' → RowsAt CR H' p dx l L (n + 1) → Q (sv nm) H'
theorem ok_new_name (F : Fun K "new_name" "Rows.new_name" s_Rows_new_name f fd) (T : Txt K mg CR CT CS) (c_Rows_words : Met P w K mg base 3 CR "words" (sp_words CR CI)) (c_Rows_need : Met P w K mg base 3 CR "need" (sp_need CR CI))
    (c_is_name : Cal P w K mg base 1 "is_name" sp_is_name) : FnOk P w K mg base (L2.CX P w) 4 f fd ["self", "start", "taken"] (sp_new_name K CR CI) := by
  refine F.okX sc_Rows_new_name (fun vs H Q E h => ?_) (fun cdv A outer s H vs Q E hr h => ?_)
  · obtain ⟨p, dx, l, t, L, n, st, taken, rfl, _⟩ := h
    rfl
  · obtain ⟨p, dx, l, t, L, n, st, taken, rfl, R, hn, hst, ht, k⟩ := h
    obtain ⟨hp, hl, hz1, hz2⟩ := id R
    have htp : t ≠ p := ne_of ht hp (by intro z; cases z)
    refine ⟨_, (pss_cons (ps_set (i := 3) sc_Rows_new_name.nd rfl (Or.inl rfl) (p_meth E c_Rows_words hr (by decide) (passX rfl rfl rfl (takes_of rfl rfl rfl rfl)) (pv 0) (pa_cons (pv 1) pa_nil)))
  (pss_cons (ps_expr (p_meth E c_Rows_need hr (by decide) (passX rfl rfl rfl (takes_of rfl rfl rfl rfl)) (pv 0) (pa_cons (pe_and (pe_cmpR op_eq (pe_callB (call_len_seqK K rfl) (by rfl) T.b_len (by decide +kernel) (pa_cons (pv 3) pa_nil)) pe_int (nomark _)) (pe_and (p_call E c_is_name hr (by decide) (by rfl) (passX rfl rfl rfl (takes_of rfl rfl rfl rfl)) (pa_cons (pe_ix (ix_listK K rfl) (pv 3) pe_int (fun _ _ => rfl)) pa_nil)) (pe_one (pe_cmpR (op_notIn_seqK K rfl) (pe_ix (ix_listK K rfl) (pv 3) pe_int (fun _ _ => rfl)) (pv 2) (by rfl))))) pa_nil)))
  (pss_one (ps_ret (pe_ix (ix_listK K rfl) (pv 3) pe_int (fun _ _ => rfl)))))), ?_⟩
    refine ⟨_, rfl, p, dx, _, rfl, hp, rfl, _, rfl, p, dx, l, L, n, st, rfl, R, hn, hst, ?_⟩
    cases hw : words L n st with
    | none =>
      have e : newName L n st taken = .error n := by unfold newName; rw [hw]
      rw [e] at k
      exact k
    | some ws =>
      intro H1 a b1 R1 ha0 ha
      have hp1 := R1.at_
      have ht1 := b1.at1 ht htp
      -- the test: one word, a name, not taken
      have hws : ∀ u ∈ ws, u.length ≤ 1000000 := fun u hu => by
        unfold words at hw
        split at hw
        · rename_i r hr'
          split at hw
          · cases hw
            have := splitC_mem 32 _ u hu
            have := hz2 r (List.mem_of_getElem? hr')
            rw [List.length_drop] at *
            omega
          · cases hw
        · cases hw
      have fin : ∀ (b : Bool) H2 (G : Prop), But [] H1 H2 → b = (ws.length == 1 && (isName (ws.headD []) && !taken.contains (ws.headD []))) → (b = true → G) → ∃ p' d' l' L' n' b', [V.ref p, V.bl b] = [V.ref p', V.bl b'] ∧ RowsAt CR H2 p' d' l' L' (n' + 1) ∧ if b' = true then G else ErrE CI p' H2 E n' := fun b H2 G b2 e q => by
        refine ⟨p, dx, l, L, n, b, rfl, R1.keep0 b2, ?_⟩
        cases b with
        | true => exact iteT (q rfl)
        | false =>
          have e3 : newName L n st taken = .error n := by unfold newName; rw [hw]; simp only [← e]; rfl
          rw [e3] at k
          exact iteF (k.later (b1.trans (But.of b2)))
      refine ⟨_, rfl, p, dx, _, rfl, hp1, rfl, ?_⟩
      refine ⟨_, rfl, a, _, rfl, .inl (SqL.of ha), rfl, _, rfl, ?_⟩
      rw [svs_len]
      have el : decide (V.int ((ws.length : Nat) : Int) = V.int 1) = (ws.length == 1) := by
        by_cases q : ws.length = 1
        · rw [q]; rfl
        · rw [beq_eq_false_iff_ne.mpr q]
          exact decide_eq_false fun z => q (by injection z with z; omega)
      rw [el]
      by_cases h1 : ws.length = 1
      · obtain ⟨nm, rfl⟩ : ∃ nm, ws = [nm] := by
          cases ws with
          | nil => simp at h1
          | cons a r => cases r with
            | nil => exact ⟨a, rfl⟩
            | cons b r => simp at h1
        have at0 : atI (svs [nm]) 0 = some (sv nm) := rfl
        refine iteT ⟨_, rfl, a, svs [nm], 0, sv nm, rfl, rfl, SqL.of ha, at0, nm, rfl, ?_, fun H2 b2 => ?_⟩
        · have := hws nm (by simp); omega
        · refine ⟨_, rfl, ?_⟩
          cases hn' : isName nm with
          | false => exact iteF (fin false H2 _ b2 (by simp [hn']) fun z => by cases z)
          | true =>
            refine iteT ⟨_, rfl, a, svs [nm], 0, sv nm, rfl, rfl, SqL.of (b2.at ha), at0, _, rfl, t, svs taken, rfl, .inl (SqL.of (b2.at ht1)), rfl, flat_svs _, ?_⟩
            have ei : (if true = true then !inV (sv nm) (svs taken) else inV (sv nm) (svs taken)) = !taken.contains nm := by rw [if_pos rfl, inV_svs]
            rw [ei]
            refine fin _ H2 _ b2 (by simp [hn']) fun z => ?_
            have e3 : newName L n st taken = .ok nm := by
              unfold newName
              rw [hw]
              show (if (true && (isName nm && !taken.contains nm)) = true then Except.ok nm else Except.error n) = Except.ok nm
              rw [hn', z]; rfl
            rw [e3] at k
            exact ⟨_, rfl, a, svs [nm], 0, sv nm, rfl, rfl, SqL.of (b2.at ha), at0, k H2 (b1.trans (But.of b2)) (R1.keep0 b2)⟩
      · have e1 : (ws.length == 1) = false := beq_eq_false_iff_ne.mpr h1
        rw [e1]
        exact iteF (fin false H1 _ But.refl (by rw [e1]; rfl) fun z => by cases z)
def sp_exactly (CR CI : Addr) : Sp := fun vs H Q E => ∃ p dx l L n r, vs = [.ref p, sv r] ∧ RowsAt CR H p dx l L n ∧ n ≤ L.length ∧ if exactly L n r = true then ∀ H', But [p] H H' → RowsAt CR H' p dx l L (n + 1) → Q .non H' else ErrE CI p H E n
theorem ok_exactly (F : Fun K "exactly" "Rows.exactly" s_Rows_exactly f fd) (T : Txt K mg CR CT CS) (c_Rows_all_read : Met P w K mg base 1 CR "all_read" (sp_all_read CR)) (x_InvalidText : Xn P w K mg base 1 "InvalidText" "row" CI) :
    FnOk P w K mg base (L2.CX P w) 3 f fd ["self", "row"] (sp_exactly CR CI) := by
  refine F.okX sc_Rows_exactly (fun vs H Q E h => ?_) (fun cdv A outer s H vs Q E hr h => ?_)
  · obtain ⟨p, dx, l, L, n, r, rfl, _⟩ := h
    rfl
  · obtain ⟨p, dx, l, L, n, r, rfl, R, hn, k⟩ := h
    obtain ⟨hp, hl, hz1, hz2⟩ := id R
    refine ⟨_, (pss_cons (ps_if (PW.pt (pw_or (pt_val (p_meth0 E c_Rows_all_read hr (by decide) (passX rfl rfl rfl (takes_of rfl rfl rfl rfl)) (pv 0))) (pw_or1 (pt_cmpR op_ne (pe_ix (ix_listK K rfl) (pe_fldK K rfl (pv 0) rfl) (pe_fldK K rfl (pv 0) rfl) (fun _ _ => rfl)) (pv 1) (nomark _)))))
  (pss_one (p_raise x_InvalidText hr (by decide) (takes_of rfl rfl rfl rfl) (by rfl) (pa_cons (pe_fldK K rfl (pv 0) rfl) pa_nil)))
  pss_nil)
  (pss_one (ps_fldaugK K rfl (pv 0) pe_int in_add))), ?_⟩
    refine ⟨_, rfl, p, dx, _, rfl, hp, rfl, p, dx, l, L, n, rfl, R, _, rfl, ?_⟩
    by_cases q : n = L.length
    · have e1 : (n == L.length) = true := by simp [q]
      have e2 : exactly L n r = false := by unfold exactly; rw [q]; simp
      rw [e1]
      rw [e2] at k
      refine iteT (iteT ⟨_, rfl, p, CR, dx, _, _, rfl, hp, T.clR, T.naR2, rf_at, fun H' d b _ hd => ?_⟩)
      exact k H' d (But.of b) hd
    · have e1 : (n == L.length) = false := by simp [q]
      rw [e1]
      obtain ⟨r', hr'⟩ : ∃ r', L[n]? = some r' := ⟨L[n]'(by omega), List.getElem?_eq_getElem _⟩
      refine iteF ⟨_, rfl, p, CR, dx, _, _, rfl, hp, T.clR, T.naR1, rf_rows, _, rfl, p, CR, dx, _, _, rfl, hp, T.clR, T.naR2, rf_at, l, svs L, n, sv r', rfl, rfl, SqL.of hl, svs_ati hr', _, rfl, rfl, _, rfl, ?_⟩
      by_cases e : r' = r
      · subst e
        have e2 : exactly L n r' = true := by unfold exactly; rw [hr']; simp
        rw [e2] at k
        rw [show (!decide (sv r' = sv r')) = false by simp]
        refine iteF ⟨_, rfl, p, CR, dx, _, _, rfl, hp, T.clR, T.naR2, rf_at, n, 1, rfl, rfl, dx, _, hp, (by show 2 < 1000; decide), ?_⟩
        have hlp : l ≠ p := ne_of hl hp (by intro z; cases z)
        refine k _ (But.refl.put (by simp)) ⟨?_, ?_, hz1, hz2⟩
        · rw [upd_same]; rfl
        · rw [upd_ne hlp]; exact hl
      · have e2 : exactly L n r = false := by unfold exactly; rw [hr']; simp [e]
        rw [e2] at k
        have e3 : (!decide (sv r' = sv r)) = true := by
          have : sv r' ≠ sv r := fun z => e (by injection z with z; exact S_inj z)
          simp [this]
        rw [e3]
        exact iteT ⟨_, rfl, p, CR, dx, _, _, rfl, hp, T.clR, T.naR2, rf_at, fun H' d b _ hd => k H' d (But.of b) hd⟩
end
end Cn
set_option Elab.async false
set_option linter.all false
set_option maxRecDepth 100000
set_option maxHeartbeats 4000000
/-! the loops that read columns, keys, references -/
namespace Cn
open PySem L2
section
variable {P : Program} {w : World} {K : PySem.W.Frag} {mg : Str → Option Value} {base : Heap} {CR CT CS CI : Addr} {f : Addr} {fd : FuncData}
theorem tyList {K : PySem.W.Frag} {H : Hp} {l : Addr} {xs : List V} (h : H l = some (.lst xs)) : tyV K "list" (.ref l) H := Or.inl ⟨rfl, _, Or.inl (Or.inl h)⟩
theorem truL {K : PySem.W.Frag} {H : Hp} {l : Addr} {xs : List V} (h : H l = some (.lst xs)) : TruV K (.ref l) H (!xs.isEmpty) := Or.inl ⟨xs, SqL.of h, rfl⟩
theorem svs_empty (ls : List T) : (svs ls).isEmpty = ls.isEmpty := by cases ls <;> rfl
theorem le_lit {n : Nat} {k : Nat} : decide (((n : Nat) : Int) ≤ (k : Int)) = decide (n ≤ k) := by
  by_cases h : n ≤ k
  · rw [decide_eq_true h, decide_eq_true (by omega)]
  · rw [decide_eq_false h, decide_eq_false (by omega)]

theorem or_go {A B : Bool} {X Y G : Prop} (hx : (A || B) = true → X) (hy : (A || B) = false → Y) (hb : (if B = true then X else Y) → G) : if A = true then (if true = true then X else Y) else G := by
  cases A with
  | true => exact iteT (iteT (hx rfl))
  | false =>
    refine iteF (hb ?_)
    cases B with
    | true => exact iteT (hx rfl)
    | false => exact iteF (hy rfl)

/-! ### read_columns -/
theorem sc_read_columns : FnScope ["rows", "columns"] ["rows"] (defScope s_read_columns) := ⟨rfl, rfl, rfl, by decide +kernel, rfl, by decide +kernel, by decide +kernel⟩
theorem sc_read_keys : FnScope ["rows", "columns", "keys", "key", "other"] ["rows", "columns"] (defScope s_read_keys) := ⟨rfl, rfl, rfl, by decide +kernel, rfl, by decide +kernel, by decide +kernel⟩
theorem sc_read_reference : FnScope ["rows", "table", "above", "required", "words", "columns", "targets", "found", "target", "key", "column"] ["rows", "table", "above"] (defScope s_read_reference) := ⟨rfl, rfl, rfl, by decide +kernel, rfl, by decide +kernel, by decide +kernel⟩
theorem sc_read_references : FnScope ["rows", "table", "above", "refers", "refer", "taken", "other", "column"] ["rows", "table", "above"] (defScope s_read_references) := ⟨rfl, rfl, rfl, by decide +kernel, rfl, by decide +kernel, by decide +kernel⟩
def sp_read_columns (CR CI : Addr) : Sp := fun vs H Q E => ∃ p d r L n, vs = [.ref p] ∧ RowsAt CR H p d r L n ∧ n ≤ L.length ∧ match colsLoop L 6 n [] with
  | .error e => ErrE CI p H E e
  | .ok (cols, n') => ∀ H' l, But [p] H H' → RowsAt CR H' p d r L n' → n' ≤ L.length → H l = none → H' l = some (.lst (svs cols)) → Q (.ref l) H'
theorem ok_read_columns (F : Fun K "read_columns" "read_columns" s_read_columns f fd) (T : Txt K mg CR CT CS) (c_Rows_begins : Met P w K mg base 2 CR "begins" (sp_begins CR)) (c_Rows_need : Met P w K mg base 3 CR "need" (sp_need CR CI))
    (c_Rows_new_name : Met P w K mg base 4 CR "new_name" (sp_new_name K CR CI)) : FnOk P w K mg base (L2.CX P w) 5 f fd ["rows"] (sp_read_columns CR CI) := by
  refine F.okX sc_read_columns (fun vs H Q E h => ?_) (fun cdv A outer s H vs Q E hr h => ?_)
  · obtain ⟨p, d, r, L, n, rfl, _⟩ := h
    rfl
  · obtain ⟨p, d, r, L, n, rfl, R, hn, k⟩ := h
    refine ⟨_, (pss_cons (ps_set (i := 1) sc_read_columns.nd rfl (Or.inl rfl) (pe_lst pa_nil))
  (pss_cons (ps_while (passes_of rfl) (PW.pt (pw_or (pt_not (pt_truthK K rfl (pv 1) (by intro _; rfl))) (pw_or1 (pt_val (p_meth E c_Rows_begins hr (by decide) (passX rfl rfl rfl (takes_of rfl rfl rfl rfl)) (pv 0) (pa_cons pe_str pa_nil))))))
  (pss_cons (ps_expr (pe_bm PySem.F.plainAttrs_list PySem.F.slot_list_append PySem.F.type_list_append mt_append (pv 1) (pa_cons (p_meth E c_Rows_new_name hr (by decide) (passX rfl rfl rfl (takes_of rfl rfl rfl rfl)) (pv 0) (pa_cons pe_str (pa_cons (pv 1) pa_nil))) pa_nil)))
  (pss_one (ps_expr (p_meth E c_Rows_need hr (by decide) (passX rfl rfl rfl (takes_of rfl rfl rfl rfl)) (pv 0) (pa_cons (pe_cmpR op_le (pe_callB (call_len_seqK K rfl) (by rfl) T.b_len (by decide +kernel) (pa_cons (pv 1) pa_nil)) (p_gint T.g_MOST_COLUMNS) (nomark _)) pa_nil))))))
  (pss_one (ps_ret (pv 1))))), ?_⟩
    refine ⟨Nat.zero_le _, fun l hl => ?_⟩
    have npl : p ≠ l := ne_of_none R.at_ hl
    have nrl : r ≠ l := ne_of_none R.rows hl
    refine ⟨fun m σ H' => ∃ cols n', σ = [some (.ref p), some (.ref l)] ∧ But [p] H H' ∧ H' l = some (.lst (svs cols)) ∧ RowsAt CR H' p d r L n' ∧ n' ≤ L.length ∧ cols.length ≤ 5 ∧ m + cols.length = 6 ∧ colsLoop L m n' cols = colsLoop L 6 n [],
      ⟨6, [], n, rfl, But.refl.new hl, upd_same, R.keep0 (newB hl), hn, by simp, rfl, rfl⟩, ?_⟩
    rintro m σ H1 ⟨cols, n1, rfl, b1, hl1, R1, hn1, h5, hm, he⟩
    obtain ⟨m, rfl⟩ : ∃ m', m = m' + 1 := ⟨m - 1, by omega⟩
    refine ⟨_, rfl, _, truL hl1, or_go (B := begins L n1 kColumn) (fun ht => ⟨_, fun _ _ z => z, ?_⟩) (fun ht => ?_) (fun g => ⟨_, rfl, p, d, _, rfl, R1.at_, rfl, p, d, r, L, n1, kColumn, rfl, R1, hn1, _, rfl, g⟩)⟩
    · rw [Bool.not_not, svs_empty] at ht
      have e0 : colsLoop L (m + 1) n1 cols = (match newName L n1 kColumn cols with
        | .error e => .error e
        | .ok w => if cols.length + 1 ≤ 5 then colsLoop L m (n1 + 1) (cols ++ [w]) else .error n1) := by
        show (if (cols.isEmpty || begins L n1 kColumn) = true then _ else _) = _
        rw [ht]; rfl
      refine ⟨_, rfl, tyList hl1, _, rfl, p, d, _, rfl, R1.at_, rfl, _, rfl, p, d, r, l, L, n1, kColumn, cols, rfl, R1, hn1, by decide, hl1, ?_⟩
      cases hw : newName L n1 kColumn cols with
      | error e =>
        rw [hw] at e0
        rw [← he, e0] at k
        exact k.later b1
      | ok nm =>
        rw [hw] at e0
        have e0 : colsLoop L (m + 1) n1 cols = if cols.length + 1 ≤ 5 then colsLoop L m (n1 + 1) (cols ++ [nm]) else .error n1 := e0
        have lt := newName_lt hw
        intro H2 b2 R2
        have hl2 := b2.at1 hl1 npl.symm
        refine ⟨l, svs cols, sv nm, rfl, rfl, hl2, szt (by rw [svs_len]; omega), ?_⟩
        have b3 : But [p] H (upd H2 l (.lst (svs cols ++ [sv nm]))) := (b1.trans b2).put0 hl
        have R3 := R2.put (o := .lst (svs cols ++ [sv nm])) npl nrl
        refine ⟨_, rfl, p, d, _, rfl, R3.at_, rfl, _, rfl, l, _, rfl, .inl (SqL.of upd_same), _, 5, rfl, rfl, p, d, r, L, n1, _, rfl, R3, ?_⟩
        have el : decide (((svs cols ++ [sv nm]).length : Int) ≤ 5) = decide (cols.length + 1 ≤ 5) := by
          rw [List.length_append, svs_len]
          exact le_lit (n := cols.length + 1) (k := 5)
        rw [el]
        refine ite2 (fun h => ?_) (fun h => ?_)
        · have h' : cols.length + 1 ≤ 5 := of_decide_eq_true h
          rw [if_pos h'] at e0
          exact ⟨m, by omega, cols ++ [nm], n1 + 1, rfl, b3, by rw [upd_same, svs_app]; rfl, R3, lt, by simpa using h', by simp; omega, by rw [← e0]; exact he⟩
        · have h' : ¬ cols.length + 1 ≤ 5 := fun z => h (decide_eq_true z)
          rw [if_neg h'] at e0
          rw [← he, e0] at k
          exact k.later b3
    · rw [Bool.not_not, svs_empty] at ht
      have e0 : colsLoop L (m + 1) n1 cols = .ok (cols, n1) := by
        show (if (cols.isEmpty || begins L n1 kColumn) = true then _ else _) = _
        rw [ht]; rfl
      rw [← he, e0] at k
      exact ⟨_, rfl, k H1 l b1 R1 hn1 hl hl1⟩

/-! ### read_keys -/
def sp_read_keys (CR CI : Addr) : Sp := fun vs H Q E => ∃ p d r c L n cols, vs = [.ref p, .ref c] ∧ RowsAt CR H p d r L n ∧ n ≤ L.length ∧ H c = some (.lst (svs cols)) ∧ match keysLoop L cols 4 n [] with
  | .error e => ErrE CI p H E e
  | .ok (keys, n') => ∀ H' l ks, But [p] H H' → RowsAt CR H' p d r L n' → n' ≤ L.length → H l = none → H' l = some (.lst ks) → Each (KeyR H') ks keys → Q (.ref l) H'
theorem ok_read_keys (F : Fun K "read_keys" "read_keys" s_read_keys f fd) (T : Txt K mg CR CT CS) (c_Rows_begins : Met P w K mg base 2 CR "begins" (sp_begins CR)) (c_Rows_need : Met P w K mg base 3 CR "need" (sp_need CR CI))
    (c_Rows_words : Met P w K mg base 3 CR "words" (sp_words CR CI)) (c_are_different : Cal P w K mg base 2 "are_different" (sp_are_diff K)) (c_has_all : Cal P w K mg base 1 "has_all" (sp_has_all K)) : FnOk P w K mg base (L2.CX P w) 4 f fd ["rows", "columns"] (sp_read_keys CR CI) := by
  refine F.okX sc_read_keys (fun vs H Q E h => ?_) (fun cdv A outer s H vs Q E hr h => ?_)
  · obtain ⟨p, d, r, c, L, n, cols, rfl, _⟩ := h
    rfl
  · obtain ⟨p, d, r, c, L, n, cols, rfl, R, hn, hc, k⟩ := h
    refine ⟨_, (pss_cons (ps_set (i := 2) sc_read_keys.nd rfl (Or.inl rfl) (pe_lst pa_nil))
  (pss_cons (ps_while (passes_of rfl) (PW.pt (pw_or (pt_not (pt_truthK K rfl (pv 2) (by intro _; rfl))) (pw_or1 (pt_val (p_meth E c_Rows_begins hr (by decide) (passX rfl rfl rfl (takes_of rfl rfl rfl rfl)) (pv 0) (pa_cons pe_str pa_nil))))))
  (pss_cons (ps_set (i := 3) sc_read_keys.nd rfl (Or.inr rfl) (pe_callTy (call_tuple_ofK K rfl) (by rfl) T.b_tuple (by decide +kernel) (pa_cons (p_meth E c_Rows_words hr (by decide) (passX rfl rfl rfl (takes_of rfl rfl rfl rfl)) (pv 0) (pa_cons pe_str pa_nil)) pa_nil)))
  (pss_cons (ps_expr (p_meth E c_Rows_need hr (by decide) (passX rfl rfl rfl (takes_of rfl rfl rfl rfl)) (pv 0) (pa_cons (pe_and (pe_cmpR op_le (pe_callB (call_len_seqK K rfl) (by rfl) T.b_len (by decide +kernel) (pa_cons (pv 3) pa_nil)) (p_gint T.g_MOST_KEY_COLUMNS) (nomark _)) (pe_one (p_call E c_are_different hr (by decide) (by rfl) (passX rfl rfl rfl (takes_of rfl rfl rfl rfl)) (pa_cons (pv 3) (pa_cons (pv 1) pa_nil))))) pa_nil)))
  (pss_cons (ps_expr (p_meth E c_Rows_need hr (by decide) (passX rfl rfl rfl (takes_of rfl rfl rfl rfl)) (pv 0) (pa_cons (pe_not (pe_callB (cr_anyK K rfl (by rfl)) (by rfl) T.b_any (by decide +kernel) (pa_cons (pe_lc (own := [("other", 4)]) (g := gName 4) (tt := tYes) (by rfl) sc_read_keys.nd (pi_listK K rfl (pv 2)) (blkOk_by (own := [("other", 4)]) (N := ["rows", "columns", "keys", "key", "other"]) (sc := (defScope s_read_keys)) (by decide +kernel)) (fun _ _ _ _ _ => (pg_name (i := 4) sc_read_keys.nd rfl (Or.inl rfl))) (fun _ _ _ _ _ => pts_nil) (fun _ _ _ _ _ => (pe_or (p_call E0 c_has_all hr (by decide) (by rfl) passL (pa_cons (pv 3) (pa_cons (pv 4) pa_nil))) (pe_one (p_call E0 c_has_all hr (by decide) (by rfl) passL (pa_cons (pv 4) (pa_cons (pv 3) pa_nil))))))) pa_nil))) pa_nil)))
  (pss_cons (ps_expr (pe_bm PySem.F.plainAttrs_list PySem.F.slot_list_append PySem.F.type_list_append mt_append (pv 2) (pa_cons (pv 3) pa_nil)))
  (pss_one (ps_expr (p_meth E c_Rows_need hr (by decide) (passX rfl rfl rfl (takes_of rfl rfl rfl rfl)) (pv 0) (pa_cons (pe_cmpR op_le (pe_callB (call_len_seqK K rfl) (by rfl) T.b_len (by decide +kernel) (pa_cons (pv 2) pa_nil)) (p_gint T.g_MOST_KEYS) (nomark _)) pa_nil)))))))))
  (pss_one (ps_ret (pv 2))))), ?_⟩
    refine ⟨Nat.zero_le _, fun l hl => ?_⟩
    have npl : p ≠ l := ne_of_none R.at_ hl
    have nrl : r ≠ l := ne_of_none R.rows hl
    have ncl : c ≠ l := ne_of_none hc hl
    have ncp : c ≠ p := ne_of hc R.at_ (by intro z; cases z)
    refine ⟨fun m σ H' => ∃ keys ks n' v4 v5, σ = [some (.ref p), some (.ref c), some (.ref l), v4, v5] ∧ But [p] H H' ∧ H' l = some (.lst ks) ∧ Each (KeyR H') ks keys ∧ RowsAt CR H' p d r L n' ∧ n' ≤ L.length ∧ keys.length ≤ 3 ∧ (∀ k ∈ keys, k.length ≤ 3) ∧ m + keys.length = 4 ∧ keysLoop L cols m n' keys = keysLoop L cols 4 n [],
      ⟨4, [], [], n, none, none, rfl, But.refl.new hl, upd_same, Each.nil, R.keep0 (newB hl), hn, by simp, by simp, rfl, rfl⟩, ?_⟩
    rintro m σ H1 ⟨keys, ks, n1, v4, v5, rfl, b1, hl1, hk1, R1, hn1, h3, hk3, hm, he⟩
    obtain ⟨m, rfl⟩ : ∃ m', m = m' + 1 := ⟨m - 1, by omega⟩
    have hks : ks.isEmpty = keys.isEmpty := by
      have := hk1.1
      cases ks <;> cases keys <;> simp_all
    refine ⟨_, rfl, _, truL hl1, or_go (B := begins L n1 kKey) (fun ht => ⟨_, fun _ _ z => z, ?_⟩) (fun ht => ?_) (fun g => ⟨_, rfl, p, d, _, rfl, R1.at_, rfl, p, d, r, L, n1, kKey, rfl, R1, hn1, _, rfl, g⟩)⟩
    · rw [Bool.not_not, hks] at ht
      have e0 : keysLoop L cols (m + 1) n1 keys = (match words L n1 kKey with
        | none => .error n1
        | some k => if decide (k.length ≤ 3) && areDiff k cols then
            if keys.any fun o => hasAll k o || hasAll o k then .error n1 else if keys.length + 1 ≤ 3 then keysLoop L cols m (n1 + 1) (keys ++ [k]) else .error n1
          else .error n1) := by
        show (if (keys.isEmpty || begins L n1 kKey) = true then _ else _) = _
        rw [ht]; rfl
      refine ⟨_, rfl, p, d, _, rfl, R1.at_, rfl, p, d, r, L, n1, kKey, rfl, R1, hn1, by decide, ?_⟩
      cases hw : words L n1 kKey with
      | none =>
        rw [hw] at e0
        have e0 : keysLoop L cols (m + 1) n1 keys = .error n1 := e0
        rw [← he, e0] at k
        exact k.later b1
      | some key =>
        rw [hw] at e0
        have e0 : keysLoop L cols (m + 1) n1 keys = if decide (key.length ≤ 3) && areDiff key cols then
            if keys.any fun o => hasAll key o || hasAll o key then .error n1 else if keys.length + 1 ≤ 3 then keysLoop L cols m (n1 + 1) (keys ++ [key]) else .error n1
          else .error n1 := e0
        have lt := words_lt hw
        intro H2 a b2 R2 ha0 ha
        refine ⟨a, _, rfl, .inl ⟨SqL.of ha, fun t ht0 => ?_⟩⟩
        have hl2 := b2.at1 hl1 npl.symm
        have hc2 : H2 c = some (.lst (svs cols)) := b2.at1 (b1.at1 hc ncp) ncp
        have b3 : But [p] H1 (upd H2 t (.tup (svs key))) := b2.new ht0
        have nt : t ≠ l := fun z => by rw [z, hl2] at ht0; cases ht0
        have R3 : RowsAt CR (upd H2 t (.tup (svs key))) p d r L (n1 + 1) := R2.keep0 (newB ht0)
        -- need(len(key) <= 3 and are_different(key, columns))
        have er : ∀ {H' : Hp}, But [p] H1 H' → keysLoop L cols (m + 1) n1 keys = .error n1 → ErrE CI p H' E n1 := fun b e => by
          rw [← he, e] at k
          exact k.later (b1.trans b)
        refine ⟨_, rfl, p, d, _, rfl, R3.at_, rfl, ?_⟩
        refine ⟨_, rfl, t, _, rfl, .inr (SqT.of upd_same), _, 3, rfl, rfl, _, rfl, ?_⟩
        have el : decide (((svs key).length : Int) ≤ 3) = decide (key.length ≤ 3) := by rw [svs_len]; exact le_lit (n := key.length) (k := 3)
        rw [el]
        refine ite2 (fun h => ?_) (fun h => ?_)
        · have h' : key.length ≤ 3 := of_decide_eq_true h
          rw [h, Bool.true_and] at e0
          refine ⟨_, rfl, _, rfl, t, c, key, cols, rfl, SqT.of upd_same, .inl (SqL.of ((newB ht0).at hc2)), by omega, fun H4 b4 => ?_⟩
          refine ⟨p, d, r, L, n1, _, rfl, R3.keep0 b4, ?_⟩
          refine ite2 (fun hd => ?_) (fun hd => ?_)
          · rw [if_pos hd] at e0
            -- need(not any([has_all(key, other) or has_all(other, key) for other in keys]))
            have b5 : But [p] H1 H4 := b3.trans (But.of b4)
            have f5 : Fix CR H1 H4 := R1.fix b5
            have hl4 : H4 l = some (.lst ks) := b5.at1 hl1 npl.symm
            have R4 := R3.keep0 b4
            have ht4 : H4 t = some (.tup (svs key)) := b4.at upd_same
            refine ⟨_, rfl, p, d, _, rfl, R4.at_, rfl, ?_⟩
            refine ⟨_, rfl, l, rfl, ⟨_, SqL.of hl4⟩, fun D hD => ?_⟩
            refine lc_grow (fun i => (keys[i]?).map fun o => V.bl (hasAll key o || hasAll o key)) (walk_list (K := K) (a := l) (xs := ks)) hD (fun H' b => SqL.of (b.at hl4)) (fun i x acc H6 H7 N hi hz b6 hD6 y hy _ => ?_) (fun H7 b7 hD7 => ?_)
            · obtain ⟨rfl, hx⟩ := y
              obtain ⟨o, ho, q, rfl, hq⟩ := hk1.at hx
              have hq6 : H7 q = some (.tup (svs o)) := b6.at (f5 q _ hq trivial)
              have ht6 : H7 t = some (.tup (svs key)) := b6.at ht4
              have ho8 : o.length ≤ 1000001 := by have := hk3 o (List.mem_of_getElem? ho); omega
              have fin : ∀ (v : Bool) H8, But [] H7 H8 → v = (hasAll key o || hasAll o key) → ∃ acc', H8 D = some (.lst acc') ∧ acc'.length < sizeLine ∧ N (upd H8 D (.lst (acc' ++ [V.bl v]))) := fun v H8 b8 ev =>
                lc_putG (b6.trans b8) hD (b8.at hD6) (by have := (List.getElem?_eq_some_iff.mp hx).1; have := hk1.1; omega) fun H'' bb hh => hy _ H'' (by rw [ho, ev]; rfl) bb hh
              refine ⟨rfl, _, rfl, _, rfl, t, q, key, o, rfl, .inr (SqT.of ht6), SqT.of hq6, ho8, fun H8 b8 => ⟨_, rfl, ?_⟩⟩
              refine ite2 (fun h1 => ?_) (fun h1 => ?_)
              · exact fin true H8 b8 (by rw [h1]; rfl)
              · refine ⟨_, rfl, _, rfl, q, t, o, key, rfl, .inr (SqT.of (b8.at hq6)), SqT.of (b8.at ht6), by omega, fun H9 b9 => ?_⟩
                rw [Bool.not_eq_true] at h1
                exact fin _ H9 (b8.trans b9) (by rw [h1, Bool.false_or])
            · rw [hk1.1, range_map] at hD7
              refine ⟨D, keys.map fun o => hasAll key o || hasAll o key, rfl, .inl (.inl (by rw [hD7, List.map_map]; rfl)), _, rfl, p, d, r, L, n1, _, rfl, R4.keep0 b7, ?_⟩
              rw [List.any_map]
              have ea : (keys.any (id ∘ fun o => hasAll key o || hasAll o key)) = keys.any (fun o => hasAll key o || hasAll o key) := rfl
              rw [ea]
              have b8 : But [p] H1 H7 := b5.trans (But.of b7)
              refine ite2 (fun ha => ?_) (fun ha => ?_)
              · have ha' : (keys.any fun o => hasAll key o || hasAll o key) = false := by rw [Bool.not_eq_true'] at ha; exact ha
                rw [ha'] at e0
                have e0 : keysLoop L cols (m + 1) n1 keys = if keys.length + 1 ≤ 3 then keysLoop L cols m (n1 + 1) (keys ++ [key]) else .error n1 := e0
                -- keys.append(key)
                have hl7 : H7 l = some (.lst ks) := b7.at hl4
                have ht7 : H7 t = some (.tup (svs key)) := b7.at ht4
                have ntl : t ≠ l := ne_of ht7 hl7 (by intro z; cases z)
                refine ⟨_, rfl, tyList hl7, _, rfl, l, ks, .ref t, rfl, rfl, hl7, szt (by have := hk1.1; omega), ?_⟩
                have b9 : But [p] H (upd H7 l (.lst (ks ++ [.ref t]))) := (b1.trans b8).put0 hl
                have R9 := (R4.keep0 b7).put (o := .lst (ks ++ [.ref t])) npl nrl
                have f9 : Fix CR H1 (upd H7 l (.lst (ks ++ [.ref t]))) := fun q o hq i => by
                  rw [upd_ne (fun z => by rw [z, hl1] at hq; cases hq; exact i)]
                  exact (R1.fix b8) q o hq i
                refine ⟨_, rfl, p, d, _, rfl, R9.at_, rfl, _, rfl, l, _, rfl, .inl (SqL.of upd_same), _, 3, rfl, rfl, p, d, r, L, n1, _, rfl, R9, ?_⟩
                have el : decide (((ks ++ [V.ref t]).length : Int) ≤ 3) = decide (keys.length + 1 ≤ 3) := by
                  rw [List.length_append, hk1.1]
                  exact le_lit (n := keys.length + 1) (k := 3)
                rw [el]
                refine ite2 (fun h => ?_) (fun h => ?_)
                · have h' : keys.length + 1 ≤ 3 := of_decide_eq_true h
                  rw [if_pos h'] at e0
                  refine ⟨m, by omega, keys ++ [key], ks ++ [.ref t], n1 + 1, _, _, rfl, b9, upd_same, ?_, R9, lt, by simpa using h', fun q hq => ?_, by simp; omega, by rw [← e0]; exact he⟩
                  · exact (hk1.mono fun _ _ q => q.fix f9).snoc ⟨t, rfl, by rw [upd_ne ntl]; exact ht7⟩
                  · rcases List.mem_append.mp hq with z | z
                    · exact hk3 q z
                    · rw [List.mem_singleton.mp z]; assumption
                · have h' : ¬ keys.length + 1 ≤ 3 := fun z => h (decide_eq_true z)
                  rw [if_neg h'] at e0
                  rw [← he, e0] at k
                  exact k.later b9
              · have ha' : (keys.any fun o => hasAll key o || hasAll o key) = true := by rw [Bool.not_eq_true, Bool.not_eq_false'] at ha; exact ha
                rw [ha'] at e0
                exact er b8 e0
          · rw [if_neg hd] at e0
            exact er (b3.trans (But.of b4)) e0
        · have h' : decide (key.length ≤ 3) = false := by rw [Bool.not_eq_true] at h; exact h
          rw [h'] at e0
          exact ⟨p, d, r, L, n1, false, rfl, R3, iteF (er b3 e0)⟩
    · rw [Bool.not_not, hks] at ht
      have e0 : keysLoop L cols (m + 1) n1 keys = .ok (keys, n1) := by
        show (if (keys.isEmpty || begins L n1 kKey) = true then _ else _) = _
        rw [ht]; rfl
      rw [← he, e0] at k
      exact ⟨_, rfl, k H1 l ks b1 R1 hn1 hl hl1 hk1⟩
end
end Cn
set_option Elab.async false
set_option linter.all false
set_option maxRecDepth 100000
set_option maxHeartbeats 4000000
/-! one reference -/
namespace Cn
open PySem L2
section
variable {P : Program} {w : World} {K : PySem.W.Frag} {mg : Str → Option Value} {base : Heap} {CR CT CS CI : Addr} {f : Addr} {fd : FuncData}
theorem tf_name {n : Cn.T} {a b c : Addr} : (tf n a b c).lookup ("name" : Str) = some (sv n) := by rfl
theorem tf_columns {n : Cn.T} {a b c : Addr} : (tf n a b c).lookup ("columns" : Str) = some (.ref a) := by rfl
theorem tf_unique {n : Cn.T} {a b c : Addr} : (tf n a b c).lookup ("unique" : Str) = some (.ref b) := by rfl
theorem tf_refers {n : Cn.T} {a b c : Addr} : (tf n a b c).lookup ("refers" : Str) = some (.ref c) := by rfl
def sp_read_reference (CR CT CI : Addr) : Sp := fun vs H Q E => ∃ p d r tb ab L n t va above, vs = [.ref p, .ref tb, .ref ab] ∧ RowsAt CR H p d r L n ∧ n ≤ L.length ∧ TblR CT H (.ref tb) t ∧ H ab = some (.lst va) ∧ Each (TblR CT H) va above ∧
  above.length ≤ 5 ∧ (∀ a ∈ above, WfT a) ∧ t.keys ≠ [] ∧ (∀ k ∈ t.keys, k.length ≤ 3) ∧ t.keys.length ≤ 3 ∧ t.cols.length ≤ 5 ∧ match readRef L n t above with
  | .error e => ErrE CI p H E e
  | .ok q => ∀ H' v, But [p] H H' → RowsAt CR H' p d r L (n + 1) → RefR H' v q → Q v H'
theorem ok_read_reference (F : Fun K "read_reference" "read_reference" s_read_reference f fd) (T : Txt K mg CR CT CS) (c_Rows_begins : Met P w K mg base 2 CR "begins" (sp_begins CR)) (c_Rows_need : Met P w K mg base 3 CR "need" (sp_need CR CI))
    (c_Rows_words : Met P w K mg base 3 CR "words" (sp_words CR CI)) (c_are_different : Cal P w K mg base 2 "are_different" (sp_are_diff K)) : FnOk P w K mg base (L2.CX P w) 4 f fd ["rows", "table", "above"] (sp_read_reference CR CT CI) := by
  refine F.okX sc_read_reference (fun vs H Q E h => ?_) (fun cdv A outer s H vs Q E hr h => ?_)
  · obtain ⟨p, d, r, tb, ab, L, n, t, va, above, rfl, _⟩ := h
    rfl
  · obtain ⟨p, d, r, tb, ab, L, n, t, va, above, rfl, R, hn, ht, hab, hva, h5, hwf, hk0, hk3, hkl, hcl, k⟩ := h
    refine ⟨_, (pss_cons (ps_set (i := 3) sc_read_reference.nd rfl (Or.inl rfl) (p_meth E c_Rows_begins hr (by decide) (passX rfl rfl rfl (takes_of rfl rfl rfl rfl)) (pv 0) (pa_cons pe_str pa_nil)))
  (pss_cons (ps_set (i := 4) sc_read_reference.nd rfl (Or.inr rfl) (p_meth E c_Rows_words hr (by decide) (passX rfl rfl rfl (takes_of rfl rfl rfl rfl)) (pv 0) (pa_cons (pe_ifExp (pt_val (pv 3)) pe_str pe_str) pa_nil)))
  (pss_cons (ps_expr (p_meth E c_Rows_need hr (by decide) (passX rfl rfl rfl (takes_of rfl rfl rfl rfl)) (pv 0) (pa_cons (pe_and (pe_cmpR op_ge (pe_callB (call_len_seqK K rfl) (by rfl) T.b_len (by decide +kernel) (pa_cons (pv 4) pa_nil)) pe_int (nomark _)) (pe_one (pe_cmpR op_eq (pe_ix (ix_listK K rfl) (pv 4) (pe_un un_neg pe_int) (fun _ _ => rfl)) pe_str (nomark _)))) pa_nil)))
  (pss_cons (ps_set (i := 5) sc_read_reference.nd rfl (Or.inr rfl) (pe_callTy (call_tuple_ofK K rfl) (by rfl) T.b_tuple (by decide +kernel) (pa_cons (pe_slice (sl_listK K rfl) (pv 4) po_none (po_some (pe_un un_neg pe_int))) pa_nil)))
  (pss_cons (ps_set (i := 6) sc_read_reference.nd rfl (Or.inl rfl) (pe_ifExp (pt_val (pv 3)) (pe_callTy (call_list_ofK K rfl) (by rfl) T.b_list (by decide +kernel) (pa_cons (pv 2) pa_nil)) (pe_lst (StX.pa_star (pv 2) (pa_cons (pv 1) pa_nil)))))
  (pss_cons (ps_setLc (i := 7) (own := [("target", 8)]) (g := gName 8) (by rfl) sc_read_reference.nd rfl rfl (sw_true rfl rfl rfl (by decide +kernel)) (pi_listK K rfl (pv 6)) (blkOk_by (own := [("target", 8)]) (N := ["rows", "table", "above", "required", "words", "columns", "targets", "found", "target", "key", "column"]) (sc := (defScope s_read_reference)) (by decide +kernel)) (fun _ _ _ _ _ => (pg_name (i := 8) sc_read_reference.nd rfl (Or.inl rfl))) (fun _ _ _ _ _ => (pts_one (pt_cmpR op_eq (pe_fldK K rfl (pv 8) rfl) (pe_ix (ix_listK K rfl) (pv 4) (pe_un un_neg pe_int) (fun _ _ => rfl)) (nomark _)))) (fun _ _ _ _ _ => (pv 8)))
  (pss_cons (ps_expr (p_meth E c_Rows_need hr (by decide) (passX rfl rfl rfl (takes_of rfl rfl rfl rfl)) (pv 0) (pa_cons (pe_and (pe_cmpR op_eq (pe_callB (call_len_seqK K rfl) (by rfl) T.b_len (by decide +kernel) (pa_cons (pv 7) pa_nil)) pe_int (nomark _)) (pe_one (pe_cmpR op_eq (pe_callB (call_len_seqK K rfl) (by rfl) T.b_len (by decide +kernel) (pa_cons (pe_ix (ix_tupK K rfl) (pe_fldK K rfl (pe_ix (ix_listK K rfl) (pv 7) pe_int (fun _ _ => rfl)) rfl) pe_int (fun _ _ => rfl)) pa_nil)) (pe_callB (call_len_seqK K rfl) (by rfl) T.b_len (by decide +kernel) (pa_cons (pv 5) pa_nil)) (nomark _)))) pa_nil)))
  (pss_cons (ps_expr (p_meth E c_Rows_need hr (by decide) (passX rfl rfl rfl (takes_of rfl rfl rfl rfl)) (pv 0) (pa_cons (p_call E c_are_different hr (by decide) (by rfl) (passX rfl rfl rfl (takes_of rfl rfl rfl rfl)) (pa_cons (pv 5) (pa_cons (pe_fldK K rfl (pv 1) rfl) pa_nil))) pa_nil)))
  (pss_cons (ps_if (pt_not (pt_val (pv 3)))
  (pss_one (ps_expr (p_meth E c_Rows_need hr (by decide) (passX rfl rfl rfl (takes_of rfl rfl rfl rfl)) (pv 0) (pa_cons (pe_not (pe_callB (cr_anyK K rfl (by rfl)) (by rfl) T.b_any (by decide +kernel) (pa_cons (pe_lc2 (own := [("key", 9), ("column", 10)]) (vs1 := [10]) (g := gName 9) (g1 := gName 10) (tt := tYes) (tt1 := tYes) (by rfl) sc_read_reference.nd (pi_tupK K rfl (pe_fldK K rfl (pv 1) rfl)) (blkOk_by (own := [("key", 9), ("column", 10)]) (N := ["rows", "table", "above", "required", "words", "columns", "targets", "found", "target", "key", "column"]) (sc := (defScope s_read_reference)) (by decide +kernel)) (by decide) (fun _ _ _ _ _ => (pg_name (i := 9) sc_read_reference.nd rfl (Or.inl rfl))) (fun _ _ _ _ _ => pts_nil) (fun _ _ _ _ _ => (pi_tupK K rfl (pv 5))) (fun _ _ _ _ _ => (pg_name (i := 10) sc_read_reference.nd rfl (Or.inl rfl))) (fun _ _ _ _ _ => pts_nil) (fun _ _ _ _ _ => (pe_cmpR (op_in_seqK K rfl) (pv 10) (pv 9) (by rfl)))) pa_nil))) pa_nil))))
  pss_nil)
  (pss_one (ps_ret (pe_tup (pa_cons (pv 5) (pa_cons (pe_ix (ix_listK K rfl) (pv 4) (pe_un un_neg pe_int) (fun _ _ => rfl)) (pa_cons (pv 3) pa_nil))))))))))))))), ?_⟩
    refine ⟨_, rfl, p, d, _, rfl, R.at_, rfl, p, d, r, L, n, kRef, rfl, R, hn, ?_⟩
    have hst : ("  ref " : Str) = S kRef ∧ ("  optional " : Str) = S kOpt := ⟨rfl, rfl⟩
    refine ⟨_, rfl, p, d, _, rfl, R.at_, rfl, _, rfl, _, rfl, str_go ?_⟩
    have es : (if begins L n kRef = true then ("  ref " : Str) else ("  optional " : Str)) = S (refStart (begins L n kRef)) := by
      unfold refStart
      cases begins L n kRef <;> rfl
    rw [es]
    refine ⟨p, d, r, L, n, refStart (begins L n kRef), rfl, R, hn, by unfold refStart; cases begins L n kRef <;> decide, ?_⟩
    have k0 : (match words L n (refStart (begins L n kRef)) with
      | none => ErrE CI p H E n
      | some ws => readRef L n t above = (if decide (3 ≤ ws.length) && (ws.getD (ws.length - 2) [] == kArrow) then
          if fits (foundIn (begins L n kRef) t above (ws.getD (ws.length - 1) [])) (ws.take (ws.length - 2)) then
            if areDiff (ws.take (ws.length - 2)) t.cols then
              if barred (begins L n kRef) t (ws.take (ws.length - 2)) then .error n else .ok (ws.take (ws.length - 2), ws.getD (ws.length - 1) [], begins L n kRef)
            else .error n
          else .error n
        else .error n)) := by
      cases hw : words L n (refStart (begins L n kRef)) with
      | none =>
        have e : readRef L n t above = .error n := by unfold readRef; rw [hw]
        rw [e] at k
        exact k
      | some ws =>
        show readRef L n t above = _
        unfold readRef; rw [hw]
    cases hw : words L n (refStart (begins L n kRef)) with
    | none =>
      rw [hw] at k0
      exact k0
    | some ws =>
      rw [hw] at k0
      have k0 : readRef L n t above = _ := k0
      rw [k0] at k
      clear k0
      generalize begins L n kRef = req at *
      intro H1 a b1 R1 ha0 ha
      have f1 : Fix CR H H1 := R.fix b1
      have habp : ab ≠ p := ne_of hab R.at_ (by intro z; cases z)
      have hab1 : H1 ab = some (.lst va) := b1.at1 hab habp
      have ht1 := ht.fix T.nT f1
      have hva1 := hva.mono fun _ _ q => q.fix T.nT f1
      -- need(len(words) >= 3 and words[-2] == '->')
      refine ⟨_, rfl, p, d, _, rfl, R1.at_, rfl, _, rfl, a, _, rfl, .inl (SqL.of ha), _, 3, rfl, rfl, _, rfl, ?_⟩
      rw [svs_len]
      have ege : decide ((3 : Int) ≤ ((ws.length : Nat) : Int)) = decide (3 ≤ ws.length) := ge_lit (k := 3)
      rw [ege]
      refine ite2n (fun h3 => ?_) (fun h3 => ?_)
      · rw [Bool.not_eq_true] at h3
        rw [h3] at k
        exact ⟨p, d, r, L, n, false, rfl, R1, iteF (k.later b1)⟩
      · rw [h3, Bool.true_and] at k
        have h3' : 3 ≤ ws.length := of_decide_eq_true h3
        have at2 : atI (svs ws) (-(2 : Int)) = some (sv (ws.getD (ws.length - 2) [])) := atI_neg (k := 2) (by omega) (by omega)
        have at1 : atI (svs ws) (-(1 : Int)) = some (sv (ws.getD (ws.length - 1) [])) := atI_neg (k := 1) (by omega) (by omega)
        refine ⟨_, rfl, 2, rfl, a, svs ws, _, _, rfl, rfl, SqL.of ha, at2, rfl, ?_⟩
        refine ⟨p, d, r, L, n, _, rfl, R1, ?_⟩
        have ek : decide (sv (ws.getD (ws.length - 2) []) = V.str ("->" : Str)) = (ws.getD (ws.length - 2) [] == kArrow) := sv_eq _ kArrow
        rw [ek]
        refine ite2n (fun ha2 => ?_) (fun ha2 => ?_)
        · rw [if_neg ha2] at k
          exact k.later b1
        · rw [if_pos ha2] at k
          generalize hc : ws.take (ws.length - 2) = cols at k
          generalize hg : ws.getD (ws.length - 1) [] = tgt at k at1
          -- columns = tuple(words[:-2])
          refine ⟨_, rfl, 2, rfl, _, rfl, a, svs ws, rfl, SqL.of ha, fun l1 hl1 => ⟨l1, _, rfl, .inl ⟨SqL.of upd_same, fun c hc0 => ?_⟩⟩⟩
          have ecut : cutV (svs ws) none (some (-2)) = svs cols := by rw [cutV_m2, svs_len, svs_take, hc]
          have b2 : But [] H1 (upd (upd H1 l1 (.lst (cutV (svs ws) none (some (-2))))) c (.tup (cutV (svs ws) none (some (-2))))) := (newB hl1).new hc0
          generalize hH2 : upd (upd H1 l1 (.lst (cutV (svs ws) none (some (-2))))) c (.tup (cutV (svs ws) none (some (-2)))) = H2 at b2
          have hc2 : H2 c = some (.tup (svs cols)) := by rw [← hH2, upd_same, ecut]
          -- targets
          refine ⟨_, rfl, _, rfl, tgt_go rfl rfl (b2.at hab1) (by have := hva.1; omega) fun tg htg => ?_⟩
          have b3 := b2.new (o := .lst (if req = true then va else va ++ [V.ref tb])) htg
          generalize hvt : (if req = true then va else va ++ [V.ref tb]) = vt at b3
          generalize hH3 : upd H2 tg (.lst vt) = H3 at b3
          have htg3 : H3 tg = some (.lst vt) := by rw [← hH3, upd_same]
          have f3 : Fix CR H1 H3 := b3.fix0
          have ht3 := ht1.fix T.nT f3
          have hvt3 : Each (TblR CT H3) vt (targets req t above) := by
            have e1 := hva1.mono fun _ _ q => q.fix T.nT f3
            rw [← hvt]
            unfold targets
            cases req with
            | true => exact e1
            | false => exact e1.snoc ht3
          have ha3 : H3 a = some (.lst (svs ws)) := b3.at ha
          have hc3 : H3 c = some (.tup (svs cols)) := by rw [← hH3, upd_ne (ne_of_none hc2 htg)]; exact hc2
          have hvz : vt.length ≤ 1000 := by rw [hvt3.1]; unfold targets; cases req <;> simp <;> omega
          -- found
          refine ⟨_, rfl, tg, rfl, ⟨_, SqL.of htg3⟩, fun D hD => ?_⟩
          refine lc_grow (fun i => ((targets req t above)[i]?).bind fun x => if x.name == tgt then vt[i]? else none) (walk_list (K := K) (a := tg) (xs := vt)) hD (fun H' b => SqL.of (b.at htg3)) (fun i x acc H6 H7 N hi hz b6 hD6 y hy hy0 => ?_) (fun H7 b7 hD7 => ?_)
          · obtain ⟨rfl, hx⟩ := y
            obtain ⟨o, ho, q, dq, ca, ua, ra, kss, rss, rfl, hq, _⟩ := hvt3.at hx
            have hq7 := (b6.fix0 (CR := CR)) q _ hq T.nT
            refine ⟨rfl, _, rfl, q, CT, dq, _, _, rfl, hq7, T.clT, T.naT1, tf_name, _, rfl, 1, rfl, a, svs ws, _, _, rfl, rfl, SqL.of (b6.at ha3), at1, rfl, _, rfl, ?_⟩
            rw [sv_eq]
            refine ite2 (fun h => ?_) (fun h => ?_)
            · exact ⟨_, rfl, lc_putG b6 hD hD6 (by omega) fun H'' bb hh => hy _ H'' (by rw [ho, Option.bind_some, if_pos h]; exact hx) bb hh⟩
            · exact hy0 H7 (by rw [ho, Option.bind_some, if_neg h]) b6 hD6
          · have hfd := each_filter (fun x => x.name == tgt) (hvt3.mono fun _ _ q => q.fix T.nT (b7.fix0 (CR := CR)))
            have hD7' : H7 D = some (.lst ((List.range vt.length).filterMap fun i => ((targets req t above)[i]?).bind fun x => if x.name == tgt then vt[i]? else none)) := hD7
            generalize (List.range vt.length).filterMap (fun i => ((targets req t above)[i]?).bind fun x => if x.name == tgt then vt[i]? else none) = fd' at hfd hD7'
            have hfd : Each (TblR CT H7) fd' (foundIn req t above tgt) := hfd
            have b17 := b3.trans b7
            have R7 := R1.keep0 b17
            have bp7 : But [p] H H7 := b1.trans (But.of b17)
            have hc7 := b7.at hc3
            have ha7 := b7.at ha3
            have ht7 := ht1.fix T.nT (b17.fix0 (CR := CR))
            -- need(len(found) == 1 and len(found[0].unique[0]) == len(columns))
            refine ⟨_, rfl, p, d, _, rfl, R7.at_, rfl, _, rfl, D, _, rfl, .inl (SqL.of hD7'), rfl, _, rfl, ?_⟩
            have e1 : decide (V.int ((fd'.length : Nat) : Int) = V.int 1) = ((foundIn req t above tgt).length == 1) := by
              rw [hfd.1]; exact nat_eq _ 1
            rw [e1]
            refine Or.elim (Decidable.em ((foundIn req t above tgt).length = 1)).symm (fun hone => ?_) (fun hone => ?_)
            · have e2 : ((foundIn req t above tgt).length == 1) = false := beq_eq_false_iff_ne.mpr hone
              have e3 : fits (foundIn req t above tgt) cols = false := by
                unfold fits
                split
                · rename_i f e; rw [e] at hone; exact absurd rfl hone
                · rfl
              rw [e3] at k
              rw [e2]
              exact iteF ⟨p, d, r, L, n, false, rfl, R7, iteF (k.later bp7)⟩
            · obtain ⟨fo, efo⟩ : ∃ fo, foundIn req t above tgt = [fo] := by
                cases e : foundIn req t above tgt with
                | nil => rw [e] at hone; simp at hone
                | cons x rr => cases rr with
                  | nil => exact ⟨x, rfl⟩
                  | cons y rr => rw [e] at hone; simp at hone
              have efits : fits (foundIn req t above tgt) cols = ((fo.keys.headD []).length == cols.length) := by rw [efo]; rfl
              rw [efits] at k
              have hfo := foundIn_mem (f := fo) (req := req) (t := t) (above := above) (tgt := tgt) (by rw [efo]; exact List.mem_singleton.mpr rfl)
              have fk0 : fo.keys ≠ [] := by
                rcases hfo.1 with z | z
                · exact (hwf fo z).keys0
                · rw [z]; exact hk0
              have fk3 : ∀ q ∈ fo.keys, q.length ≤ 3 := by
                rcases hfo.1 with z | z
                · exact fun q hq => ((hwf fo z).key q hq).1
                · rw [z]; exact hk3
              rw [efo] at hfd
              obtain ⟨v, hv0, q, dq, ca, ua, ra, kss, rss, rfl, hq, _, hua, hkss, _⟩ := hfd.atx (i := 0) rfl
              obtain ⟨fk, fkr, efk⟩ : ∃ fk fkr, fo.keys = fk :: fkr := by
                cases e : fo.keys with
                | nil => exact absurd e fk0
                | cons x rr => exact ⟨x, rr, rfl⟩
              obtain ⟨kv, hkv, ka, rfl, hka⟩ := hkss.atx (i := 0) (x := fk) (by rw [efk]; rfl)
              have e2 : ((foundIn req t above tgt).length == 1) = true := by rw [efo]; rfl
              rw [e2]
              refine iteT ⟨_, rfl, D, fd', 0, _, rfl, rfl, SqL.of hD7', (atI_nat (j := 0) hv0), q, CT, dq, _, _, rfl, hq, T.clT, T.naT3, tf_unique, ua, kss, 0, _, rfl, rfl, SqT.of hua, (atI_nat (j := 0) hkv), ka, _, rfl, .inr (SqT.of hka), _, rfl, c, _, rfl, .inr (SqT.of hc7), rfl, p, d, r, L, n, _, rfl, R7, ?_⟩
              rw [svs_len, svs_len, nat_eq]
              have e4 : (fo.keys.headD []).length = fk.length := by rw [efk]; rfl
              rw [e4] at k
              refine ite2n (fun hf => ?_) (fun hf => ?_)
              · rw [if_neg hf] at k
                exact k.later bp7
              · rw [if_pos hf] at k
                have hc3 : cols.length ≤ 3 := by have := fk3 fk (by rw [efk]; exact List.mem_cons_self); have := eq_of_beq hf; omega
                obtain ⟨tb', dt, ca', ua', ra', ks', rs', etb, htb7, hca7, hua7, hks7, _⟩ := ht7
                cases etb
                -- need(are_different(columns, table.columns))
                refine ⟨_, rfl, p, d, _, rfl, R7.at_, rfl, _, rfl, _, rfl, tb, CT, dt, _, _, rfl, htb7, T.clT, T.naT2, tf_columns, c, ca', cols, t.cols, rfl, SqT.of hc7, .inr (hca7.sq), by omega, fun H8 b8 => ⟨p, d, r, L, n, _, rfl, R7.keep0 b8, ?_⟩⟩
                have bp8 : But [p] H H8 := bp7.trans (But.of b8)
                have R8 := R7.keep0 b8
                refine ite2n (fun hdf => ?_) (fun hdf => ?_)
                · rw [if_neg hdf] at k
                  exact k.later bp8
                · rw [if_pos hdf] at k
                  have fin : ∀ H9 v, But [] H8 H9 → H9 v = none → barred req t cols = false → Q (.ref v) (upd H9 v (.tup [.ref c, sv tgt, .bl req])) := fun H9 v b9 hv hb => by
                    rw [hb] at k
                    have k : ∀ H' v, But [p] H H' → RowsAt CR H' p d r L (n + 1) → RefR H' v (cols, tgt, req) → Q v H' := k
                    have hc9 : H9 c = some (.tup (svs cols)) := b9.at (b8.at hc7)
                    exact k _ _ (bp8.trans (But.of (b9.new hv))) ((R8.keep0 b9).keep0 (newB hv)) ⟨v, c, rfl, upd_same, by rw [upd_ne (ne_of_none hc9 hv)]; exact hc9⟩
                  refine ⟨_, rfl, req, rfl, ?_⟩
                  cases req with
                  | true =>
                    exact iteF ⟨_, rfl, _, rfl, 1, rfl, a, svs ws, _, _, rfl, rfl, SqL.of (b8.at ha7), at1, _, rfl, (by show 3 ≤ sizeLine; decide), fun v hv => fin H8 v But.refl hv rfl⟩
                  | false =>
                    refine iteT ?_
                    have hc8 : H8 c = some (.tup (svs cols)) := b8.at hc7
                    have hua8 := b8.at hua7
                    have hks8 : Each (KeyR H8) ks' t.keys := hks7.mono fun _ _ q => q.fix (b8.fix0 (CR := CR))
                    refine ⟨_, rfl, p, d, _, rfl, R8.at_, rfl, _, rfl, tb, CT, dt, _, _, rfl, b8.at htb7, T.clT, T.naT3, tf_unique, ua', rfl, ⟨_, SqT.of hua8⟩, fun D2 hD2 => ?_⟩
                    refine turns (walk_tup (K := K) (a := ua') (xs := ks')) (fun i H' => H' = upd H8 D2 (.lst ((t.keys.take i).flatMap fun q => cols.map fun x => V.bl (q.contains x)))) rfl (fun i H' _ e => by rw [e]; exact SqT.of ((newB hD2).at hua8)) (fun i x H6 H6' hi e y => ?_) (fun H' e => ?_)
                    · obtain ⟨rfl, hx⟩ := y
                      obtain ⟨key, hkey, qa, rfl, hqa⟩ := hks8.at hx
                      subst e
                      have hi3 : i < t.keys.length := (List.getElem?_eq_some_iff.mp hkey).1
                      refine ⟨rfl, _, rfl, c, rfl, ⟨_, SqT.of ((newB hD2).at hc8)⟩, ?_⟩
                      refine turns (walk_tup (K := K) (a := c) (xs := svs cols)) (fun j H' => H' = upd H8 D2 (.lst (((t.keys.take i).flatMap fun q => cols.map fun x => V.bl (q.contains x)) ++ (cols.take j).map fun x => V.bl (key.contains x)))) (by simp) (fun j H' _ e => by rw [e]; exact SqT.of ((newB hD2).at hc8)) (fun j x H5 H5' hj e y => ?_) (fun H' e => ?_)
                      · obtain ⟨rfl, hx⟩ := y
                        obtain ⟨cc, hcc, rfl⟩ := svs_get hx
                        subst e
                        refine ⟨rfl, _, rfl, _, rfl, qa, svs key, rfl, .inr (SqT.of ((newB hD2).at hqa)), rfl, flat_svs _, _, upd_same, szt ?_, ?_⟩
                        · rw [List.length_append, List.length_map, List.length_flatMap]
                          have hs : ((t.keys.take i).map fun q => (cols.map fun x => V.bl (q.contains x)).length).sum = (t.keys.take i).length * cols.length := by
                            simp [List.map_const', List.sum_replicate_nat]
                          rw [hs]
                          have h1 : (t.keys.take i).length ≤ 3 := by rw [List.length_take]; omega
                          have h2 : (cols.take j).length ≤ 3 := by rw [List.length_take]; omega
                          have h4 : (t.keys.take i).length * cols.length ≤ 3 * 3 := Nat.mul_le_mul h1 hc3
                          omega
                        · rw [upd_upd]
                          congr 2
                          have st : cols.take (j + 1) = cols.take j ++ [cc] := by rw [List.take_add_one, hcc]; rfl
                          rw [st, List.map_append, ← List.append_assoc]
                          congr 2
                          show V.bl (inV (sv cc) (svs key)) = _
                          rw [inV_svs]
                      · rw [e]
                        congr 2
                        have st : t.keys.take (i + 1) = t.keys.take i ++ [key] := by rw [List.take_add_one, hkey]; rfl
                        rw [svs_len, List.take_length, st, List.flatMap_append]
                        simp
                    · rw [hks8.1, List.take_length] at e
                      refine ⟨D2, t.keys.flatMap fun q => cols.map fun x => q.contains x, rfl, .inl (.inl ?_), _, rfl, p, d, r, L, n, _, rfl, ?_, ?_⟩
                      · rw [e, upd_same]
                        congr 2
                        rw [List.map_flatMap]
                        congr 1; funext q
                        rw [List.map_map]; rfl
                      · rw [e]; exact R8.keep0 (newB hD2)
                      · have eb : (!(t.keys.flatMap fun q => cols.map fun x => q.contains x).any id) = !barred false t cols := by
                          unfold barred
                          rw [List.any_flatMap]
                          simp [List.any_map, Function.comp_def]
                        rw [eb]
                        have bH : But [] H8 H' := by rw [e]; exact newB hD2
                        refine ite2n (fun hb => ?_) (fun hb => ?_)
                        · have hb' : barred false t cols = true := by rw [Bool.not_eq_true, Bool.not_eq_false'] at hb; exact hb
                          rw [hb'] at k
                          exact ErrE.later k (bp8.trans (But.of bH))
                        · have hb' : barred false t cols = false := by rw [Bool.not_eq_true'] at hb; exact hb
                          exact ⟨_, rfl, _, rfl, 1, rfl, a, svs ws, _, _, rfl, rfl, SqL.of (bH.at (b8.at ha7)), at1, _, rfl, (by show 3 ≤ sizeLine; decide), fun v hv => fin H' v bH hv hb'⟩
end
end Cn
set_option Elab.async false
set_option linter.all false
set_option maxRecDepth 100000
set_option maxHeartbeats 4000000
/-! references, tables -/
namespace Cn
open PySem L2
section
variable {P : Program} {w : World} {K : PySem.W.Frag} {mg : Str → Option Value} {base : Heap} {CR CT CS CI : Addr} {f : Addr} {fd : FuncData}
def sp_read_references (CR CT CI : Addr) : Sp := fun vs H Q E => ∃ p d r tb ab L n t va above, vs = [.ref p, .ref tb, .ref ab] ∧ RowsAt CR H p d r L n ∧ n ≤ L.length ∧ TblR CT H (.ref tb) t ∧ H ab = some (.lst va) ∧ Each (TblR CT H) va above ∧
  above.length ≤ 5 ∧ (∀ a ∈ above, WfT a) ∧ t.keys ≠ [] ∧ (∀ k ∈ t.keys, k.length ≤ 3) ∧ t.keys.length ≤ 3 ∧ t.cols.length ≤ 5 ∧ t.name.length ≤ 8 ∧ match refsLoop L t above 3 n [] with
  | .error e => ErrE CI p H E e
  | .ok (refs, n') => ∀ H' l vr, But [p] H H' → RowsAt CR H' p d r L n' → n' ≤ L.length → H l = none → H' l = some (.lst vr) → Each (RefR H') vr refs → Q (.ref l) H'
theorem readRef_lt {L : List Cn.T} {n : Nat} {t : Tbl} {above : List Tbl} {q : List Cn.T × Cn.T × Bool} (h : readRef L n t above = .ok q) : n < L.length := by
  unfold readRef at h
  split at h
  · cases h
  · rename_i ws hw
    exact words_lt hw
theorem or_go2 {A B : Bool} {X Y : Prop} (hx : (A || B) = true → X) (hy : (A || B) = false → Y) {G : Prop} (hb : (if B = true then X else Y) → G) : if A = true then (if true = true then X else Y) else G := or_go hx hy hb
theorem ok_read_references (F : Fun K "read_references" "read_references" s_read_references f fd) (T : Txt K mg CR CT CS) (c_Rows_begins : Met P w K mg base 2 CR "begins" (sp_begins CR)) (c_Rows_need : Met P w K mg base 3 CR "need" (sp_need CR CI))
    (c_read_reference : Cal P w K mg base 4 "read_reference" (sp_read_reference CR CT CI)) : FnOk P w K mg base (L2.CX P w) 5 f fd ["rows", "table", "above"] (sp_read_references CR CT CI) := by
  refine F.okX sc_read_references (fun vs H Q E h => ?_) (fun cdv A outer s H vs Q E hr h => ?_)
  · obtain ⟨p, d, r, tb, ab, L, n, t, va, above, rfl, _⟩ := h
    rfl
  · obtain ⟨p, d, r, tb, ab, L, n, t, va, above, rfl, R, hn, ht, hab, hva, h5, hwf, hk0, hk3, hkl, hcl, hnl, k⟩ := h
    refine ⟨_, (pss_cons (ps_set (i := 3) sc_read_references.nd rfl (Or.inl rfl) (pe_lst pa_nil))
  (pss_cons (ps_while (passes_of rfl) (PW.pt (pw_or (pt_val (p_meth E c_Rows_begins hr (by decide) (passX rfl rfl rfl (takes_of rfl rfl rfl rfl)) (pv 0) (pa_cons pe_str pa_nil))) (pw_or1 (pt_val (p_meth E c_Rows_begins hr (by decide) (passX rfl rfl rfl (takes_of rfl rfl rfl rfl)) (pv 0) (pa_cons pe_str pa_nil))))))
  (pss_cons (ps_set (i := 4) sc_read_references.nd rfl (Or.inl rfl) (p_call E c_read_reference hr (by decide) (by rfl) (passX rfl rfl rfl (takes_of rfl rfl rfl rfl)) (pa_cons (pv 0) (pa_cons (pv 1) (pa_cons (pv 2) pa_nil)))))
  (pss_cons (ps_set (i := 5) sc_read_references.nd rfl (Or.inr rfl) (pe_lc2 (own := [("other", 6), ("column", 7)]) (vs1 := [7]) (g := gName 6) (g1 := gName 7) (tt := tYes) (tt1 := tYes) (by rfl) sc_read_references.nd (pi_listK K rfl (pv 3)) (blkOk_by (own := [("other", 6), ("column", 7)]) (N := ["rows", "table", "above", "refers", "refer", "taken", "other", "column"]) (sc := (defScope s_read_references)) (by decide +kernel)) (by decide) (fun _ _ _ _ _ => (pg_name (i := 6) sc_read_references.nd rfl (Or.inl rfl))) (fun _ _ _ _ _ => pts_nil) (fun _ _ _ _ _ => (pi_tupK K rfl (pe_ix (ix_tupK K rfl) (pv 6) pe_int (fun _ _ => rfl)))) (fun _ _ _ _ _ => (pg_name (i := 7) sc_read_references.nd rfl (Or.inl rfl))) (fun _ _ _ _ _ => pts_nil) (fun _ _ _ _ _ => (pv 7))))
  (pss_cons (ps_expr (p_meth E c_Rows_need hr (by decide) (passX rfl rfl rfl (takes_of rfl rfl rfl rfl)) (pv 0) (pa_cons (pe_not (pe_callB (cr_anyK K rfl (by rfl)) (by rfl) T.b_any (by decide +kernel) (pa_cons (pe_lc (own := [("column", 7)]) (g := gName 7) (tt := tYes) (by rfl) sc_read_references.nd (pi_tupK K rfl (pe_ix (ix_tupK K rfl) (pv 4) pe_int (fun _ _ => rfl))) (blkOk_by (own := [("column", 7)]) (N := ["rows", "table", "above", "refers", "refer", "taken", "other", "column"]) (sc := (defScope s_read_references)) (by decide +kernel)) (fun _ _ _ _ _ => (pg_name (i := 7) sc_read_references.nd rfl (Or.inl rfl))) (fun _ _ _ _ _ => pts_nil) (fun _ _ _ _ _ => (pe_cmpR (op_in_seqK K rfl) (pv 7) (pv 5) (by rfl)))) pa_nil))) pa_nil)))
  (pss_cons (ps_expr (pe_bm PySem.F.plainAttrs_list PySem.F.slot_list_append PySem.F.type_list_append mt_append (pv 3) (pa_cons (pv 4) pa_nil)))
  (pss_one (ps_expr (p_meth E c_Rows_need hr (by decide) (passX rfl rfl rfl (takes_of rfl rfl rfl rfl)) (pv 0) (pa_cons (pe_cmpR op_le (pe_callB (call_len_seqK K rfl) (by rfl) T.b_len (by decide +kernel) (pa_cons (pv 3) pa_nil)) (p_gint T.g_MOST_REFERENCES) (nomark _)) pa_nil)))))))))
  (pss_one (ps_ret (pv 3))))), ?_⟩
    refine ⟨Nat.zero_le _, fun l hl => ?_⟩
    have npl : p ≠ l := ne_of_none R.at_ hl
    have nrl : r ≠ l := ne_of_none R.rows hl
    have nabl : ab ≠ l := ne_of_none hab hl
    have habp : ab ≠ p := ne_of hab R.at_ (by intro z; cases z)
    refine ⟨fun m σ H' => ∃ refs vr n' v4 v5 v6 v7, σ = [some (.ref p), some (.ref tb), some (.ref ab), some (.ref l), v4, v5, v6, v7] ∧ But [p] H H' ∧ Fix CR H H' ∧ H' l = some (.lst vr) ∧ Each (RefR H') vr refs ∧ RowsAt CR H' p d r L n' ∧ n' ≤ L.length ∧ refs.length ≤ 2 ∧ (∀ q ∈ refs, q.1.length ≤ 3) ∧
      m + refs.length = 3 ∧ refsLoop L t above m n' refs = refsLoop L t above 3 n [],
      ⟨3, [], [], n, none, none, none, none, rfl, But.refl.new hl, Fix.refl.new hl, upd_same, Each.nil, R.keep0 (newB hl), hn, by simp, by simp, rfl, rfl⟩, ?_⟩
    rintro m σ H1 ⟨refs, vr, n1, v4, v5, v6, v7, rfl, b1, f1, hl1, hr1, R1, hn1, h2, hq3, hm, he⟩
    obtain ⟨m, rfl⟩ : ∃ m', m = m' + 1 := ⟨m - 1, by omega⟩
    refine ⟨_, rfl, p, d, _, rfl, R1.at_, rfl, p, d, r, L, n1, kRef, rfl, R1, hn1, _, rfl, or_go (B := begins L n1 kOpt) (fun ht0 => ⟨_, fun _ _ z => z, ?_⟩) (fun ht0 => ?_) (fun g => ⟨_, rfl, p, d, _, rfl, R1.at_, rfl, p, d, r, L, n1, kOpt, rfl, R1, hn1, _, rfl, g⟩)⟩
    · have e0 : refsLoop L t above (m + 1) n1 refs = (match readRef L n1 t above with
        | .error e => .error e
        | .ok r => if r.1.any fun c => (refs.flatMap (·.1)).contains c then .error n1 else if refs.length + 1 ≤ 2 then refsLoop L t above m (n1 + 1) (refs ++ [r]) else .error n1) := by
        show (if (begins L n1 kRef || begins L n1 kOpt) = true then _ else _) = _
        rw [ht0]; rfl
      have hab1 : H1 ab = some (.lst va) := b1.at1 hab habp
      refine ⟨_, rfl, _, rfl, _, rfl, p, d, r, tb, ab, L, n1, t, va, above, rfl, R1, hn1, ht.fix T.nT f1, hab1, hva.mono fun _ _ q => q.fix T.nT f1, h5, hwf, hk0, hk3, hkl, hcl, ?_⟩
      cases hw : readRef L n1 t above with
      | error e =>
        rw [hw] at e0
        have e0 : refsLoop L t above (m + 1) n1 refs = .error e := e0
        rw [← he, e0] at k
        exact k.later b1
      | ok q =>
        rw [hw] at e0
        have e0 : refsLoop L t above (m + 1) n1 refs = if q.1.any fun c => (refs.flatMap (·.1)).contains c then .error n1 else if refs.length + 1 ≤ 2 then refsLoop L t above m (n1 + 1) (refs ++ [q]) else .error n1 := e0
        have lt := readRef_lt hw
        have hqok := readRef_ok hw hnl hwf hk3 hk0
        intro H2 v b2 R2 hv
        obtain ⟨qa, qc, rfl, hqa, hqc⟩ := hv
        have f2 : Fix CR H1 H2 := R1.fix b2
        have hl2 := b2.at1 hl1 npl.symm
        have hr2 : Each (RefR H2) vr refs := hr1.mono fun _ _ z => z.fix f2
        -- taken
        refine ⟨_, rfl, l, rfl, ⟨_, SqL.of hl2⟩, fun D hD => ?_⟩
        have hz3 : ∀ i, ((refs.take i).flatMap (·.1)).length ≤ 6 := fun i => by
          have : ∀ (xs : List (List Cn.T × Cn.T × Bool)), (∀ q ∈ xs, q.1.length ≤ 3) → (xs.flatMap (·.1)).length ≤ 3 * xs.length := fun xs => by
            induction xs with
            | nil => intro _; simp
            | cons x r ih => intro h; have h1 := h x List.mem_cons_self; have h4 := ih fun q hq => h q (List.mem_cons_of_mem _ hq); rw [List.flatMap_cons, List.length_append, List.length_cons]; omega
          have h1 := this (refs.take i) fun q hq => hq3 q (List.mem_of_mem_take hq)
          have h4 : (refs.take i).length ≤ refs.length := by rw [List.length_take]; omega
          omega
        refine turns (walk_list (K := K) (a := l) (xs := vr)) (fun i H' => H' = upd H2 D (.lst (svs ((refs.take i).flatMap (·.1))))) rfl (fun i H' _ e => by rw [e]; exact SqL.of ((newB hD).at hl2)) (fun i x H6 H6' hi e y => ?_) (fun H' e => ?_)
        · obtain ⟨rfl, hx⟩ := y
          obtain ⟨o, ho, oa, oc, rfl, hoa, hoc⟩ := hr2.at hx
          subst e
          have bD := newB (o := .lst (svs ((refs.take i).flatMap (·.1)))) hD
          refine ⟨rfl, _, rfl, oa, _, 0, .ref oc, rfl, rfl, SqT.of (bD.at hoa), rfl, oc, rfl, ⟨_, SqT.of (bD.at hoc)⟩, ?_⟩
          refine turns (walk_tup (K := K) (a := oc) (xs := svs o.1)) (fun j H' => H' = upd H2 D (.lst (svs ((refs.take i).flatMap (·.1) ++ o.1.take j)))) (by simp) (fun j H' _ e => by rw [e]; exact SqT.of ((newB hD).at hoc)) (fun j x H5 H5' hj e y => ?_) (fun H' e => ?_)
          · obtain ⟨rfl, hx⟩ := y
            obtain ⟨cc, hcc, rfl⟩ := svs_get hx
            subst e
            have ho3 := hq3 o (List.mem_of_getElem? ho)
            refine ⟨rfl, _, rfl, _, upd_same, szt ?_, ?_⟩
            · rw [svs_len, List.length_append, List.length_take]
              have := hz3 i
              omega
            · rw [upd_upd]
              congr 2
              have st : o.1.take (j + 1) = o.1.take j ++ [cc] := by rw [List.take_add_one, hcc]; rfl
              rw [st, ← List.append_assoc, svs_app (_ ++ _)]; rfl
          · rw [e]
            congr 2
            have st : refs.take (i + 1) = refs.take i ++ [o] := by rw [List.take_add_one, ho]; rfl
            rw [svs_len, List.take_length, st, List.flatMap_append]
            simp
        · rw [hr2.1, List.take_length] at e
          have bH : But [] H2 H' := by rw [e]; exact newB hD
          have hD' : H' D = some (.lst (svs (refs.flatMap (·.1)))) := by rw [e, upd_same]
          have R3 := R2.keep0 bH
          have b3 : But [p] H1 H' := b2.trans (But.of bH)
          -- need(not any([column in taken for column in refer[0]]))
          refine ⟨_, rfl, p, d, _, rfl, R3.at_, rfl, _, rfl, qa, _, 0, .ref qc, rfl, rfl, SqT.of (bH.at hqa), rfl, qc, rfl, ⟨_, SqT.of (bH.at hqc)⟩, fun D2 hD2 => ?_⟩
          refine lc_pure (svs q.1) (fun v => some (.bl (inV v (svs (refs.flatMap (·.1)))))) (walk_tup (K := K) (a := qc)) rfl yat (fun acc => SqT.of ((newB hD2).at (bH.at hqc))) (fun i x acc N hx hlen hy _ => ?_) ?_
          · obtain ⟨cc, hcc, rfl⟩ := svs_get hx
            exact ⟨rfl, _, rfl, _, rfl, D, _, rfl, .inl (SqL.of ((newB hD2).at hD')), rfl, flat_svs _, lc_put (szt (by have := (List.getElem?_eq_some_iff.mp hcc).1; have := hqok.1; omega)) (hy _ rfl)⟩
          · refine ⟨D2, q.1.map fun c => (refs.flatMap (·.1)).contains c, rfl, .inl (.inl (by rw [upd_same, in_all])), _, rfl, p, d, r, L, n1, _, rfl, R3.keep0 (newB hD2), ?_⟩
            have eb : (!(q.1.map fun c => (refs.flatMap (·.1)).contains c).any id) = !(q.1.any fun c => (refs.flatMap (·.1)).contains c) := by rw [List.any_map]; rfl
            rw [eb]
            have b4 := b3.trans (But.of (newB (o := .lst ((svs q.1).filterMap fun v => some (.bl (inV v (svs (refs.flatMap (·.1))))))) hD2))
            generalize hH4 : upd H' D2 (.lst ((svs q.1).filterMap fun v => some (.bl (inV v (svs (refs.flatMap (·.1))))))) = H4 at b4
            have bD2 : But [] H' H4 := by rw [← hH4]; exact newB hD2
            refine ite2n (fun ha => ?_) (fun ha => ?_)
            · have ha' : (q.1.any fun c => (refs.flatMap (·.1)).contains c) = true := by rw [Bool.not_eq_true, Bool.not_eq_false'] at ha; exact ha
              rw [ha'] at e0
              have e0 : refsLoop L t above (m + 1) n1 refs = .error n1 := e0
              rw [← he, e0] at k
              exact ErrE.later k (b1.trans b4)
            · have ha' : (q.1.any fun c => (refs.flatMap (·.1)).contains c) = false := by rw [Bool.not_eq_true'] at ha; exact ha
              rw [ha'] at e0
              have e0 : refsLoop L t above (m + 1) n1 refs = if refs.length + 1 ≤ 2 then refsLoop L t above m (n1 + 1) (refs ++ [q]) else .error n1 := e0
              have hl4 : H4 l = some (.lst vr) := bD2.at (bH.at hl2)
              have hqa4 := bD2.at (bH.at hqa)
              have hqc4 := bD2.at (bH.at hqc)
              refine ⟨_, rfl, tyList hl4, _, rfl, l, vr, .ref qa, rfl, rfl, hl4, szt (by have := hr1.1; omega), ?_⟩
              have b9 : But [p] H (upd H4 l (.lst (vr ++ [.ref qa]))) := (b1.trans b4).put0 hl
              have R9 := (R3.keep0 bD2).put (o := .lst (vr ++ [.ref qa])) npl nrl
              have f9 : Fix CR H1 (upd H4 l (.lst (vr ++ [.ref qa]))) := fun x o hx i => by
                rw [upd_ne (fun z => by rw [z, hl1] at hx; cases hx; exact i)]
                exact (R1.fix b4) x o hx i
              refine ⟨_, rfl, p, d, _, rfl, R9.at_, rfl, _, rfl, l, _, rfl, .inl (SqL.of upd_same), _, 2, rfl, rfl, p, d, r, L, n1, _, rfl, R9, ?_⟩
              have el : decide (((vr ++ [V.ref qa]).length : Int) ≤ 2) = decide (refs.length + 1 ≤ 2) := by
                rw [List.length_append, hr1.1]
                exact le_lit (n := refs.length + 1) (k := 2)
              rw [el]
              refine ite2 (fun h => ?_) (fun h => ?_)
              · have h' : refs.length + 1 ≤ 2 := of_decide_eq_true h
                rw [if_pos h'] at e0
                refine ⟨m, by omega, refs ++ [q], vr ++ [.ref qa], n1 + 1, _, _, _, _, rfl, b9, f1.trans f9, upd_same, ?_, R9, lt, by simpa using h', fun x hx => ?_, by simp; omega, by rw [← e0]; exact he⟩
                · exact (hr1.mono fun _ _ z => z.fix f9).snoc ⟨qa, qc, rfl, by rw [upd_ne (ne_of hqa4 hl4 (by intro z; cases z))]; exact hqa4, by rw [upd_ne (ne_of hqc4 hl4 (by intro z; cases z))]; exact hqc4⟩
                · rcases List.mem_append.mp hx with z | z
                  · exact hq3 x z
                  · rw [List.mem_singleton.mp z]; exact hqok.1
              · have h' : ¬ refs.length + 1 ≤ 2 := fun z => h (decide_eq_true z)
                rw [if_neg h'] at e0
                rw [← he, e0] at k
                exact k.later b9
    · have e0 : refsLoop L t above (m + 1) n1 refs = .ok (refs, n1) := by
        show (if (begins L n1 kRef || begins L n1 kOpt) = true then _ else _) = _
        rw [ht0]; rfl
      rw [← he, e0] at k
      exact ⟨_, rfl, k H1 l vr b1 R1 hn1 hl hl1 hr1⟩
end
end Cn
set_option Elab.async false
set_option linter.all false
set_option maxRecDepth 100000
set_option maxHeartbeats 4000000
/-! tables and their rows -/
namespace Cn
open PySem L2
section
variable {P : Program} {w : World} {K : PySem.W.Frag} {mg : Str → Option Value} {base : Heap} {CR CT CS CI : Addr} {f : Addr} {fd : FuncData}
/-! ### Table.__init__ -/
theorem sc_Table_init : FnScope ["self", "name", "columns", "unique", "refers"] ["self", "name", "columns", "unique", "refers"] (defScope s_Table_init) := ⟨rfl, rfl, rfl, by decide +kernel, rfl, by decide +kernel, by decide +kernel⟩
theorem sc_read_table : FnScope ["rows", "above", "name", "columns", "keys", "refers", "table"] ["rows", "above"] (defScope s_read_table) := ⟨rfl, rfl, rfl, by decide +kernel, rfl, by decide +kernel, by decide +kernel⟩
theorem sc_read_tables : FnScope ["rows", "tables"] ["rows"] (defScope s_read_tables) := ⟨rfl, rfl, rfl, by decide +kernel, rfl, by decide +kernel, by decide +kernel⟩
theorem sc_table_rows : FnScope ["table", "rows", "column", "key", "names", "columns", "target", "required", "word"] ["table"] (defScope s_table_rows) := ⟨rfl, rfl, rfl, by decide +kernel, rfl, by decide +kernel, by decide +kernel⟩
def sp_Table_init (CT : Addr) : Sp := fun vs H Q _ => ∃ (x dx c u q : Addr) (n : Cn.T) (vc vu vq : List V), vs = [.ref x, sv n, .ref c, .ref u, .ref q] ∧ H x = some (.ins CT dx []) ∧ H c = some (.lst vc) ∧ H u = some (.lst vu) ∧ H q = some (.lst vq) ∧
  ∀ H' ca ua ra, But [x] H H' → H' x = some (.ins CT dx (tf n ca ua ra)) → TupZ H' ca vc → H' ua = some (.tup vu) → H' ra = some (.tup vq) → Q .non H'
theorem ok_Table_init (F : Fun K "__init__" "Table.__init__" s_Table_init f fd) (T : Txt K mg CR CT CS) : FnOk P w K mg base (L2.CX P w) 1 f fd ["self", "name", "columns", "unique", "refers"] (sp_Table_init CT) := by
  refine F.okX sc_Table_init (fun vs H Q E h => ?_) (fun cdv A outer s H vs Q E hr h => ?_)
  · obtain ⟨x, dx, c, u, q, n, vc, vu, vq, rfl, _⟩ := h
    rfl
  · obtain ⟨x, dx, c, u, q, n, vc, vu, vq, rfl, hx, hc, hu, hq, k⟩ := h
    have ncx : c ≠ x := ne_of hc hx (by intro z; cases z)
    have nux : u ≠ x := ne_of hu hx (by intro z; cases z)
    have nqx : q ≠ x := ne_of hq hx (by intro z; cases z)
    refine ⟨_, (pss_cons (ps_fldK K rfl (pv 0) (pv 1) rfl)
  (pss_cons (ps_fldK K rfl (pv 0) (pe_callTy (call_tuple_ofZ K rfl) (by rfl) T.b_tuple (by decide +kernel) (pa_cons (pv 2) pa_nil)) rfl)
  (pss_cons (ps_fldK K rfl (pv 0) (pe_callTy (call_tuple_ofK K rfl) (by rfl) T.b_tuple (by decide +kernel) (pa_cons (pv 3) pa_nil)) rfl)
  (pss_one (ps_fldK K rfl (pv 0) (pe_callTy (call_tuple_ofK K rfl) (by rfl) T.b_tuple (by decide +kernel) (pa_cons (pv 4) pa_nil)) rfl))))), ?_⟩
    refine ⟨_, rfl, _, rfl, x, CT, dx, _, rfl, hx, T.clT, T.naT1, (by show 0 < 1000; decide), ?_⟩
    refine ⟨_, rfl, c, vc, rfl, SqL.of (by rw [upd_ne ncx]; exact hc), fun ca oc oc1 oc2 hca => ?_⟩
    have nca : ca ≠ x := fun z => by rw [z, upd_same] at hca; cases hca
    refine ⟨_, rfl, x, CT, dx, _, rfl, (by rw [upd_ne nca.symm, upd_same]), T.clT, T.naT2, (by show 1 < 1000; decide), ?_⟩
    have ncau : u ≠ ca := fun z => by rw [← z, upd_ne nux, hu] at hca; cases hca
    have ncaq : q ≠ ca := fun z => by rw [← z, upd_ne nqx, hq] at hca; cases hca
    refine ⟨_, rfl, u, vu, rfl, .inl ⟨SqL.of (by rw [upd_ne nux, upd_ne ncau, upd_ne nux]; exact hu), fun ua hua => ?_⟩⟩
    have nua : ua ≠ x := fun z => by rw [z, upd_same] at hua; cases hua
    have nuaca : ca ≠ ua := fun z => by rw [← z, upd_ne nca, upd_same] at hua; cases hua
    have nuaq : q ≠ ua := fun z => by rw [← z, upd_ne nqx, upd_ne ncaq, upd_ne nqx, hq] at hua; cases hua
    refine ⟨_, rfl, x, CT, dx, _, rfl, (by rw [upd_ne nua.symm, upd_same]), T.clT, T.naT3, (by show 2 < 1000; decide), ?_⟩
    refine ⟨_, rfl, q, vq, rfl, .inl ⟨SqL.of (by rw [upd_ne nqx, upd_ne nuaq, upd_ne nqx, upd_ne ncaq, upd_ne nqx]; exact hq), fun ra hra => ?_⟩⟩
    have nra : ra ≠ x := fun z => by rw [z, upd_same] at hra; cases hra
    have nraua : ua ≠ ra := fun z => by rw [← z, upd_ne nua, upd_same] at hra; cases hra
    have nraca : ca ≠ ra := fun z => by rw [← z, upd_ne nca, upd_ne nuaca, upd_ne nca, upd_same] at hra; cases hra
    refine ⟨_, rfl, x, CT, dx, _, rfl, (by rw [upd_ne nra.symm, upd_same]), T.clT, T.naT4, (by show 3 < 1000; decide), ?_⟩
    have hca0 : H ca = none := by rw [upd_ne nca] at hca; exact hca
    have hua0 : H ua = none := by rw [upd_ne nua, upd_ne nuaca.symm, upd_ne nua] at hua; exact hua
    have hra0 : H ra = none := by rw [upd_ne nra, upd_ne nraua.symm, upd_ne nra, upd_ne nraca.symm, upd_ne nra] at hra; exact hra
    refine k _ ca ua ra ?_ ?_ ?_ ?_ ?_
    · exact ((((((But.refl.put (by simp)).put0 hca0).put (by simp)).put0 hua0).put (by simp)).put0 hra0).put (by simp)
    · rw [upd_same]; rfl
    · exact ⟨oc, oc1, oc2, by rw [upd_ne nca, upd_ne nraca, upd_ne nca, upd_ne nuaca, upd_ne nca, upd_same]⟩
    · rw [upd_ne nua, upd_ne nraua, upd_ne nua, upd_same]
    · rw [upd_ne nra, upd_same]

/-- what Table(..) leaves -/
theorem made_tbl {CR CT : Addr} {H H' : Hp} {x dx ca ua ra : Addr} {n : Cn.T} {cols : List Cn.T} {keys : List (List Cn.T)} {refs : List (List Cn.T × Cn.T × Bool)} {vu vq : List V} (hx : H x = none) (hdx : H dx = none) (f : But [x] (upd (upd H dx (.own x)) x (.ins CT dx [])) H') (hi : H' x = some (.ins CT dx (tf n ca ua ra)))
    (h1 : TupZ H' ca (svs cols)) (h2 : H' ua = some (.tup vu)) (h3 : H' ra = some (.tup vq)) (e2 : Each (KeyR H) vu keys) (e3 : Each (RefR H) vq refs) : But [] H H' ∧ TblR CT H' (.ref x) ⟨n, cols, keys, refs⟩ := by
  have b : But [] H H' := (((But.refl (l := [x])).new hdx).put (by simp) |>.trans f).drop hx
  exact ⟨b, x, dx, ca, ua, ra, vu, vq, rfl, hi, h1, h2, e2.mono fun _ _ z => z.fix (b.fix0 (CR := CR)), h3, e3.mono fun _ _ z => z.fix (b.fix0 (CR := CR))⟩

/-! ### read_table -/
theorem names_of {CT : Addr} {H : Hp} {va : List V} {above : List Tbl} (h : Each (TblR CT H) va above) : (List.range va.length).filterMap (fun i => (above[i]?).map fun t => sv t.name) = svs (above.map (·.name)) := by
  rw [h.1, range_map]
  show above.map _ = (above.map _).map sv
  rw [List.map_map]; rfl
def sp_read_table (CR CT CI : Addr) : Sp := fun vs H Q E => ∃ p d r ab L n va above, vs = [.ref p, .ref ab] ∧ RowsAt CR H p d r L n ∧ n ≤ L.length ∧ H ab = some (.lst va) ∧ Each (TblR CT H) va above ∧ above.length ≤ 5 ∧ (∀ a ∈ above, WfT a) ∧ match readTable L n above with
  | .error e => ErrE CI p H E e
  | .ok (t, n') => ∀ H' v, But [p] H H' → RowsAt CR H' p d r L n' → n' ≤ L.length → TblR CT H' v t → Q v H'
theorem exactly_lt {L : List Cn.T} {n : Nat} {r : Cn.T} (h : exactly L n r = true) : n < L.length := by
  unfold exactly at h
  have := eq_of_beq h
  exact (List.getElem?_eq_some_iff.mp this).1
theorem ok_read_table (F : Fun K "read_table" "read_table" s_read_table f fd) (T : Txt K mg CR CT CS) (c_Rows_need : Met P w K mg base 3 CR "need" (sp_need CR CI)) (c_Rows_new_name : Met P w K mg base 4 CR "new_name" (sp_new_name K CR CI))
    (c_Rows_exactly : Met P w K mg base 3 CR "exactly" (sp_exactly CR CI)) (c_read_columns : Cal P w K mg base 5 "read_columns" (sp_read_columns CR CI)) (c_read_keys : Cal P w K mg base 4 "read_keys" (sp_read_keys CR CI))
    (c_read_references : Cal P w K mg base 5 "read_references" (sp_read_references CR CT CI)) (m_Table : Mak P w K mg base 1 "Table" CT (sp_Table_init CT)) : FnOk P w K mg base (L2.CX P w) 6 f fd ["rows", "above"] (sp_read_table CR CT CI) := by
  refine F.okX sc_read_table (fun vs H Q E h => ?_) (fun cdv A outer s H vs Q E hr h => ?_)
  · obtain ⟨p, d, r, ab, L, n, va, above, rfl, _⟩ := h
    rfl
  · obtain ⟨p, d, r, ab, L, n, va, above, rfl, R, hn, hab, hva, h5, hwf, k⟩ := h
    have habp : ab ≠ p := ne_of hab R.at_ (by intro z; cases z)
    refine ⟨_, (pss_cons (ps_set (i := 2) sc_read_table.nd rfl (Or.inl rfl) (p_meth E c_Rows_new_name hr (by decide) (passX rfl rfl rfl (takes_of rfl rfl rfl rfl)) (pv 0) (pa_cons pe_str (pa_cons (pe_lc (own := [("table", 6)]) (g := gName 6) (tt := tYes) (by rfl) sc_read_table.nd (pi_listK K rfl (pv 1)) (blkOk_by (own := [("table", 6)]) (N := ["rows", "above", "name", "columns", "keys", "refers", "table"]) (sc := (defScope s_read_table)) (by decide +kernel)) (fun _ _ _ _ _ => (pg_name (i := 6) sc_read_table.nd rfl (Or.inl rfl))) (fun _ _ _ _ _ => pts_nil) (fun _ _ _ _ _ => (pe_fldK K rfl (pv 6) rfl))) pa_nil))))
  (pss_cons (ps_expr (p_meth E c_Rows_need hr (by decide) (passX rfl rfl rfl (takes_of rfl rfl rfl rfl)) (pv 0) (pa_cons (pe_cmpR op_lt (pe_callB (call_len_seqK K rfl) (by rfl) T.b_len (by decide +kernel) (pa_cons (pv 1) pa_nil)) (p_gint T.g_MOST_TABLES) (nomark _)) pa_nil)))
  (pss_cons (ps_set (i := 3) sc_read_table.nd rfl (Or.inl rfl) (p_call E c_read_columns hr (by decide) (by rfl) (passX rfl rfl rfl (takes_of rfl rfl rfl rfl)) (pa_cons (pv 0) pa_nil)))
  (pss_cons (ps_set (i := 4) sc_read_table.nd rfl (Or.inl rfl) (p_call E c_read_keys hr (by decide) (by rfl) (passX rfl rfl rfl (takes_of rfl rfl rfl rfl)) (pa_cons (pv 0) (pa_cons (pv 3) pa_nil))))
  (pss_cons (ps_set (i := 5) sc_read_table.nd rfl (Or.inl rfl) (p_call E c_read_references hr (by decide) (by rfl) (passX rfl rfl rfl (takes_of rfl rfl rfl rfl)) (pa_cons (pv 0) (pa_cons (p_make E m_Table hr (by decide) (by rfl) (passX rfl rfl rfl (takes_of rfl rfl rfl rfl)) (pa_cons (pv 2) (pa_cons (pv 3) (pa_cons (pv 4) (pa_cons (pe_lst pa_nil) pa_nil))))) (pa_cons (pv 1) pa_nil)))))
  (pss_cons (ps_expr (p_meth E c_Rows_exactly hr (by decide) (passX rfl rfl rfl (takes_of rfl rfl rfl rfl)) (pv 0) (pa_cons pe_str pa_nil)))
  (pss_one (ps_ret (p_make E m_Table hr (by decide) (by rfl) (passX rfl rfl rfl (takes_of rfl rfl rfl rfl)) (pa_cons (pv 2) (pa_cons (pv 3) (pa_cons (pv 4) (pa_cons (pv 5) pa_nil))))))))))))), ?_⟩
    -- name
    refine ⟨_, rfl, p, d, _, rfl, R.at_, rfl, _, rfl, ab, rfl, ⟨_, SqL.of hab⟩, fun D hD => ?_⟩
    refine lc_grow (fun i => (above[i]?).map fun t => sv t.name) (walk_list (K := K) (a := ab) (xs := va)) hD (fun H' b => SqL.of (b.at hab)) (fun i x acc H6 H7 N hi hz b6 hD6 y hy _ => ?_) (fun H1 b1 hD1 => ?_)
    · obtain ⟨rfl, hx⟩ := y
      obtain ⟨o, ho, q, dq, ca, ua, ra, kss, rss, rfl, hq, _⟩ := hva.at hx
      exact ⟨rfl, _, rfl, q, CT, dq, _, _, rfl, b6.at hq, T.clT, T.naT1, tf_name, lc_putG b6 hD hD6 (by have := hva.1; omega) fun H'' bb hh => hy _ H'' (by rw [ho]; rfl) bb hh⟩
    · rw [names_of hva] at hD1
      have R1 := R.keep0 b1
      refine ⟨p, d, r, D, L, n, kTable, _, rfl, R1, hn, by decide, hD1, ?_⟩
      unfold readTable at k
      cases hnm : newName L n kTable (above.map (·.name)) with
      | error e =>
        rw [hnm] at k
        exact ErrE.later k (But.of b1)
      | ok nm =>
        rw [hnm] at k
        have lt := newName_lt hnm
        have nm8 := isName_len (newName_ok hnm).1
        intro H2 b2 R2
        have bp2 : But [p] H H2 := (But.of b1).trans b2
        have hab2 : H2 ab = some (.lst va) := bp2.at1 hab habp
        -- need(len(above) < 5)
        refine ⟨_, rfl, p, d, _, rfl, R2.at_, rfl, _, rfl, ab, _, rfl, .inl (SqL.of hab2), _, 5, rfl, rfl, p, d, r, L, n, _, rfl, R2, ?_⟩
        have e5 : decide (((va.length : Nat) : Int) < 5) = decide (above.length < 5) := by
          rw [hva.1]
          by_cases z : above.length < 5
          · rw [decide_eq_true z, decide_eq_true (by omega)]
          · rw [decide_eq_false z, decide_eq_false (by omega)]
        rw [e5]
        refine ite2n (fun h => ?_) (fun h => ?_)
        · have h' : ¬ above.length < 5 := fun z => h (decide_eq_true z)
          have k : ErrE CI p H E n := by simpa [h'] using k
          exact k.later bp2
        · have h' : above.length < 5 := of_decide_eq_true h
          have k : (match colsLoop L 6 (n + 1) [] with
            | .error e => ErrE CI p H E e
            | .ok (cols, n1) => match (match keysLoop L cols 4 n1 [] with
              | .error e => (.error e : Except Nat (Tbl × Nat))
              | .ok (keys, n2) => match refsLoop L ⟨nm, cols, keys, []⟩ above 3 n2 [] with
                | .error e => .error e
                | .ok (refs, n3) => if exactly L n3 kEnd then .ok (⟨nm, cols, keys, refs⟩, n3 + 1) else .error n3) with
              | .error e => ErrE CI p H E e
              | .ok (t, n') => ∀ H' v, But [p] H H' → RowsAt CR H' p d r L n' → n' ≤ L.length → TblR CT H' v t → Q v H') := by
            have k2 := k
            simp only [h', if_true] at k2
            cases hc : colsLoop L 6 (n + 1) [] with
            | error e => rw [hc] at k2; exact k2
            | ok cn => rw [hc] at k2; exact k2
          -- columns
          refine ⟨_, rfl, p, d, r, L, n + 1, rfl, R2, lt, ?_⟩
          cases hc : colsLoop L 6 (n + 1) [] with
          | error e =>
            rw [hc] at k
            exact ErrE.later k bp2
          | ok cn =>
            obtain ⟨cols, n1⟩ := cn
            rw [hc] at k
            have ck := colsLoop_ok hc (by simp) (by simp) (by simp)
            intro H3 c b3 R3 hn3 hc0 hc3
            have bp3 := bp2.trans b3
            have k : (match (match keysLoop L cols 4 n1 [] with
              | .error e => (.error e : Except Nat (Tbl × Nat))
              | .ok (keys, n2) => match refsLoop L ⟨nm, cols, keys, []⟩ above 3 n2 [] with
                | .error e => .error e
                | .ok (refs, n3) => if exactly L n3 kEnd then .ok (⟨nm, cols, keys, refs⟩, n3 + 1) else .error n3) with
              | .error e => ErrE CI p H E e
              | .ok (t, n') => ∀ H' v, But [p] H H' → RowsAt CR H' p d r L n' → n' ≤ L.length → TblR CT H' v t → Q v H') := k
            have hcp : c ≠ p := ne_of hc3 R3.at_ (by intro z; cases z)
            -- keys
            refine ⟨_, rfl, _, rfl, p, d, r, c, L, n1, cols, rfl, R3, hn3, hc3, ?_⟩
            cases hkk : keysLoop L cols 4 n1 [] with
            | error e =>
              rw [hkk] at k
              exact ErrE.later k bp3
            | ok kn =>
              obtain ⟨keys, n2⟩ := kn
              rw [hkk] at k
              have kk := keysLoop_ok hkk (by simp) (by simp) (by simp)
              intro H4 u ks b4 R4 hn4 hu0 hu4 hks4
              have bp4 := bp3.trans b4
              have hc4 : H4 c = some (.lst (svs cols)) := b4.at1 hc3 hcp
              have k : (match (match refsLoop L ⟨nm, cols, keys, []⟩ above 3 n2 [] with
                | .error e => (.error e : Except Nat (Tbl × Nat))
                | .ok (refs, n3) => if exactly L n3 kEnd then .ok (⟨nm, cols, keys, refs⟩, n3 + 1) else .error n3) with
                | .error e => ErrE CI p H E e
                | .ok (t, n') => ∀ H' v, But [p] H H' → RowsAt CR H' p d r L n' → n' ≤ L.length → TblR CT H' v t → Q v H') := k
              -- read_references(rows, Table(name, columns, keys, []), above)
              refine ⟨_, rfl, _, rfl, _, rfl, _, rfl, Nat.zero_le _, fun q hq0 => ?_⟩
              intro x dx hx hdx ndx
              have b41 : But [] H4 (upd H4 q (.lst [])) := newB hq0
              have ncq : c ≠ q := ne_of_none hc4 hq0
              have nuq : u ≠ q := ne_of_none hu4 hq0
              generalize hHa : upd H4 q (.lst []) = Ha at hx hdx b41
              have hqa : Ha q = some (.lst []) := by rw [← hHa, upd_same]
              have stay : ∀ {y : Addr} {o : HO}, Ha y = some o → (upd (upd Ha dx (.own x)) x (.ins CT dx [])) y = some o := fun {y o} e => by
                rw [upd_ne (ne_of_none e hx), upd_ne (ne_of_none e hdx)]; exact e
              refine ⟨x, dx, c, u, q, nm, svs cols, ks, [], rfl, upd_same, stay (b41.at hc4), stay (b41.at hu4), stay hqa, fun H5 ca ua ra f5 hi5 h51 h52 h53 => ⟨rfl, ?_⟩⟩
              obtain ⟨b5, ht5⟩ := made_tbl (CR := CR) (keys := keys) (refs := []) hx hdx f5 hi5 h51 h52 h53 (hks4.mono fun _ _ z => z.fix (b41.fix0 (CR := CR))) Each.nil
              have b45 := b41.trans b5
              have bp5 := bp4.trans (But.of b45)
              have R5 := R4.keep0 b45
              have hab5 : H5 ab = some (.lst va) := bp5.at1 hab habp
              have hva5 := hva.mono fun _ _ z => z.fix T.nT (R.fix bp5)
              refine ⟨_, rfl, p, d, r, x, ab, L, n2, ⟨nm, cols, keys, []⟩, va, above, rfl, R5, hn4, ht5, hab5, hva5, h5, hwf, kk.1, fun z hz => (kk.2.2 z hz).1, kk.2.1, ck.2.1, nm8, ?_⟩
              cases hrr : refsLoop L ⟨nm, cols, keys, []⟩ above 3 n2 [] with
              | error e =>
                rw [hrr] at k
                exact ErrE.later k bp5
              | ok rn =>
                obtain ⟨refs, n3⟩ := rn
                rw [hrr] at k
                have k : (match (if exactly L n3 kEnd then (.ok (⟨nm, cols, keys, refs⟩, n3 + 1) : Except Nat (Tbl × Nat)) else .error n3) with
                  | .error e => ErrE CI p H E e
                  | .ok (t, n') => ∀ H' v, But [p] H H' → RowsAt CR H' p d r L n' → n' ≤ L.length → TblR CT H' v t → Q v H') := k
                intro H6 lr vr b6 R6 hn6 hlr0 hlr6 hrs6
                have bp6 := bp5.trans b6
                have hc6 : H6 c = some (.lst (svs cols)) := b6.at1 (b45.at hc4) hcp
                have hup : u ≠ p := ne_of hu4 R4.at_ (by intro z; cases z)
                have hu6 : H6 u = some (.lst ks) := b6.at1 (b45.at hu4) hup
                have hks6 : Each (KeyR H6) ks keys := hks4.mono fun _ _ z => (z.fix (b45.fix0 (CR := CR))).fix (R5.fix b6)
                -- rows.exactly("end")
                refine ⟨_, rfl, p, d, _, rfl, R6.at_, rfl, p, d, r, L, n3, kEnd, rfl, R6, hn6, ?_⟩
                cases hex : exactly L n3 kEnd with
                | false =>
                  rw [hex] at k
                  exact iteF (ErrE.later k bp6)
                | true =>
                  rw [hex] at k
                  have k : ∀ H' v, But [p] H H' → RowsAt CR H' p d r L (n3 + 1) → n3 + 1 ≤ L.length → TblR CT H' v ⟨nm, cols, keys, refs⟩ → Q v H' := k
                  refine iteT fun H7 b7 R7 => ?_
                  have hlrp : lr ≠ p := ne_of hlr6 R6.at_ (by intro z; cases z)
                  have hc7 := b7.at1 hc6 hcp
                  have hu7 := b7.at1 hu6 hup
                  have hl7 := b7.at1 hlr6 hlrp
                  have f7 : Fix CR H6 H7 := R6.fix b7
                  refine ⟨_, rfl, _, rfl, _, rfl, _, rfl, fun x2 dx2 hx2 hdx2 ndx2 => ?_⟩
                  have stay : ∀ {y : Addr} {o : HO}, H7 y = some o → (upd (upd H7 dx2 (.own x2)) x2 (.ins CT dx2 [])) y = some o := fun {y o} e => by
                    rw [upd_ne (ne_of_none e hx2), upd_ne (ne_of_none e hdx2)]; exact e
                  refine ⟨x2, dx2, c, u, lr, nm, svs cols, ks, vr, rfl, upd_same, stay hc7, stay hu7, stay hl7, fun H8 ca ua ra f8 hi8 h81 h82 h83 => ⟨rfl, ?_⟩⟩
                  obtain ⟨b8, ht8⟩ := made_tbl (CR := CR) (keys := keys) (refs := refs) hx2 hdx2 f8 hi8 h81 h82 h83 (hks6.mono fun _ _ z => z.fix f7) (hrs6.mono fun _ _ z => z.fix f7)
                  exact k H8 _ ((bp6.trans b7).trans (But.of b8)) (R7.keep0 b8) (exactly_lt hex) ht8

/-! ### read_tables -/
def sp_read_tables (CR CT CI : Addr) : Sp := fun vs H Q E => ∃ p d r L n, vs = [.ref p] ∧ RowsAt CR H p d r L n ∧ n ≤ L.length ∧ match tablesLoop L 6 n [] with
  | .error e => ErrE CI p H E e
  | .ok (ts, _) => ∀ H' l vt, But [p] H H' → H' l = some (.lst vt) → Each (TblR CT H') vt ts → Q (.ref l) H'
theorem ok_read_tables (F : Fun K "read_tables" "read_tables" s_read_tables f fd) (T : Txt K mg CR CT CS) (c_Rows_all_read : Met P w K mg base 1 CR "all_read" (sp_all_read CR)) (c_read_table : Cal P w K mg base 6 "read_table" (sp_read_table CR CT CI)) :
    FnOk P w K mg base (L2.CX P w) 7 f fd ["rows"] (sp_read_tables CR CT CI) := by
  refine F.okX sc_read_tables (fun vs H Q E h => ?_) (fun cdv A outer s H vs Q E hr h => ?_)
  · obtain ⟨p, d, r, L, n, rfl, _⟩ := h
    rfl
  · obtain ⟨p, d, r, L, n, rfl, R, hn, k⟩ := h
    refine ⟨_, (pss_cons (ps_set (i := 1) sc_read_tables.nd rfl (Or.inl rfl) (pe_lst pa_nil))
  (pss_cons (ps_while (passes_of rfl) (PW.pt (pw_or (pt_not (pt_truthK K rfl (pv 1) (by intro _; rfl))) (pw_or1 (pt_not (pt_val (p_meth0 E c_Rows_all_read hr (by decide) (passX rfl rfl rfl (takes_of rfl rfl rfl rfl)) (pv 0)))))))
  (pss_one (ps_expr (pe_bm PySem.F.plainAttrs_list PySem.F.slot_list_append PySem.F.type_list_append mt_append (pv 1) (pa_cons (p_call E c_read_table hr (by decide) (by rfl) (passX rfl rfl rfl (takes_of rfl rfl rfl rfl)) (pa_cons (pv 0) (pa_cons (pv 1) pa_nil))) pa_nil)))))
  (pss_one (ps_ret (pv 1))))), ?_⟩
    refine ⟨Nat.zero_le _, fun l hl => ?_⟩
    have npl : p ≠ l := ne_of_none R.at_ hl
    have nrl : r ≠ l := ne_of_none R.rows hl
    refine ⟨fun m σ H' => ∃ ts vt n', σ = [some (.ref p), some (.ref l)] ∧ But [p] H H' ∧ H' l = some (.lst vt) ∧ Each (TblR CT H') vt ts ∧ RowsAt CR H' p d r L n' ∧ n' ≤ L.length ∧ ts.length ≤ 5 ∧ (∀ t ∈ ts, WfT t) ∧ m + ts.length = 6 ∧ tablesLoop L m n' ts = tablesLoop L 6 n [],
      ⟨6, [], [], n, rfl, But.refl.new hl, upd_same, Each.nil, R.keep0 (newB hl), hn, by simp, by simp, rfl, rfl⟩, ?_⟩
    rintro m σ H1 ⟨ts, vt, n1, rfl, b1, hl1, ht1, R1, hn1, h5, hwf, hm, he⟩
    obtain ⟨m, rfl⟩ : ∃ m', m = m' + 1 := ⟨m - 1, by omega⟩
    have hvt : vt.isEmpty = ts.isEmpty := by
      have := ht1.1
      cases vt <;> cases ts <;> simp_all
    refine ⟨_, rfl, _, truL hl1, or_go (B := !(n1 == L.length)) (fun ht => ⟨_, fun _ _ z => z, ?_⟩) (fun ht => ?_) (fun g => ⟨_, rfl, p, d, _, rfl, R1.at_, rfl, p, d, r, L, n1, rfl, R1, _, rfl, g⟩)⟩
    · rw [Bool.not_not, hvt] at ht
      have e0 : tablesLoop L (m + 1) n1 ts = (match readTable L n1 ts with
        | .error e => .error e
        | .ok (t, n1) => tablesLoop L m n1 (ts ++ [t])) := by
        show (if (ts.isEmpty || !(n1 == L.length)) = true then _ else _) = _
        rw [ht]; rfl
      refine ⟨_, rfl, tyList hl1, _, rfl, _, rfl, p, d, r, l, L, n1, vt, ts, rfl, R1, hn1, hl1, ht1, h5, hwf, ?_⟩
      cases hw : readTable L n1 ts with
      | error e =>
        rw [hw] at e0
        have e0 : tablesLoop L (m + 1) n1 ts = .error e := e0
        rw [← he, e0] at k
        exact ErrE.later k b1
      | ok tn =>
        obtain ⟨t, n2⟩ := tn
        rw [hw] at e0
        have e0 : tablesLoop L (m + 1) n1 ts = tablesLoop L m n2 (ts ++ [t]) := e0
        have rt := readTable_ok hw hwf
        intro H2 v b2 R2 hn2 hv
        have hl2 := b2.at1 hl1 npl.symm
        have f2 : Fix CR H1 H2 := R1.fix b2
        have b3 : But [p] H (upd H2 l (.lst (vt ++ [v]))) := (b1.trans b2).put0 hl
        have f3 : Fix CR H2 (upd H2 l (.lst (vt ++ [v]))) := fun x o hx i => by
          rw [upd_ne (fun z => by rw [z, hl2] at hx; cases hx; exact i)]; exact hx
        refine ⟨l, vt, v, rfl, rfl, hl2, szt (by have := ht1.1; omega), m, by omega, ts ++ [t], vt ++ [v], n2, rfl, b3, upd_same, ?_, R2.put npl nrl, hn2, by simp; omega, fun x hx => ?_, by simp; omega, by rw [← e0]; exact he⟩
        · exact (ht1.mono fun _ _ z => (z.fix T.nT f2).fix T.nT f3).snoc (hv.fix T.nT f3)
        · rcases List.mem_append.mp hx with z | z
          · exact hwf x z
          · rw [List.mem_singleton.mp z]; exact rt.1
    · rw [Bool.not_not, hvt] at ht
      have e0 : tablesLoop L (m + 1) n1 ts = .ok (ts, n1) := by
        show (if (ts.isEmpty || !(n1 == L.length)) = true then _ else _) = _
        rw [ht]; rfl
      rw [← he, e0] at k
      exact ⟨_, rfl, k H1 l vt b1 hl1 ht1⟩
end
end Cn
set_option Elab.async false
set_option linter.all false
set_option maxRecDepth 100000
set_option maxHeartbeats 4000000
/-! the rows of a table -/
namespace Cn
open PySem L2
section
variable {P : Program} {w : World} {K : PySem.W.Frag} {mg : Str → Option Value} {base : Heap} {CR CT CS CI : Addr} {f : Addr} {fd : FuncData}
theorem empty_app (a : Cn.T) : Str.empty ++ S a = S a := TL.ext_tl (by rw [TL.tl_append]; rfl)
theorem S_lit {a b c : Cn.T} (h : a ++ b = c) : S a ++ S b = S c := by rw [S_app, h]
theorem svs_one {α : Type} (A : List Cn.T) (g : α → Cn.T) (c : α) : svs A ++ [sv (g c)] = svs (A ++ [c].map g) := by rw [svs_app]; rfl
def sp_table_rows (CT : Addr) : Sp := fun vs H Q _ => ∃ tb t, vs = [.ref tb] ∧ TblR CT H (.ref tb) t ∧ WfT t ∧ ∀ H' l, But [] H H' → H l = none → H' l = some (.lst (svs (tableRows t))) → Q (.ref l) H'
theorem joinT_len : ∀ ks : List Cn.T, (∀ k ∈ ks, k.length ≤ 8) → (joinT [32] ks).length ≤ 9 * ks.length
  | [], _ => by simp [joinT]
  | [p], h => by have := h p (by simp); simp [joinT]; omega
  | p :: q :: r, h => by
    have h1 := h p (by simp)
    have h2 := joinT_len (q :: r) fun k hk => h k (List.mem_cons_of_mem _ hk)
    simp [joinT] at h2 ⊢
    omega
theorem join_room {ks : List Cn.T} (h : ∀ k ∈ ks, k.length ≤ 8) (h3 : ks.length ≤ 5) : ((ks.map S).map (·.length)).sum + (ks.map S).length * (S [32]).length ≤ 16777216 := by
  have : ∀ xs : List Cn.T, (∀ k ∈ xs, k.length ≤ 8) → ((xs.map S).map (·.length)).sum ≤ 8 * xs.length := fun xs => by
    induction xs with
    | nil => intro _; simp
    | cons x r ih =>
      intro h
      have h1 := h x List.mem_cons_self
      have h4 := ih fun k hk => h k (List.mem_cons_of_mem _ hk)
      rw [List.map_cons, List.map_cons, List.sum_cons, S_len, List.length_cons]
      omega
  have h1 := this ks h
  rw [List.length_map, S_len]
  simp at h1 ⊢
  omega
theorem ok_table_rows (F : Fun K "table_rows" "table_rows" s_table_rows f fd) (T : Txt K mg CR CT CS) : FnOk P w K mg base (L2.CX P w) 1 f fd ["table"] (sp_table_rows CT) := by
  refine F.okX sc_table_rows (fun vs H Q E h => ?_) (fun cdv A outer s H vs Q E hr h => ?_)
  · obtain ⟨tb, t, rfl, _⟩ := h
    rfl
  · obtain ⟨tb, t, rfl, ht, wf, k⟩ := h
    obtain ⟨_, dx, ca, ua, ra, ks, rs, etb, htb, hca, hua, hks, hra, hrs⟩ := ht
    cases etb
    refine ⟨_, (pss_cons (ps_set (i := 1) sc_table_rows.nd rfl (Or.inl rfl) (pe_lst (pa_cons (pe_joined (.cons pe_str (.cons (pe_fmt (pe_fldK K rfl (pv 0) rfl)) .nil))) pa_nil)))
  (pss_cons (ps_for (passes_of rfl) (by rfl) (pi_tupK K rfl (pe_fldK K rfl (pv 0) rfl)) (pg_name (i := 2) sc_table_rows.nd rfl (Or.inl rfl))
  (pss_one (ps_expr (pe_bm PySem.F.plainAttrs_list PySem.F.slot_list_append PySem.F.type_list_append mt_append (pv 1) (pa_cons (pe_joined (.cons pe_str (.cons (pe_fmt (pv 2)) .nil))) pa_nil)))))
  (pss_cons (ps_for (passes_of rfl) (by rfl) (pi_tupK K rfl (pe_fldK K rfl (pv 0) rfl)) (pg_name (i := 3) sc_table_rows.nd rfl (Or.inl rfl))
  (pss_cons (ps_set (i := 4) sc_table_rows.nd rfl (Or.inl rfl) (pe_joinK K rfl pe_str (pv 3)))
  (pss_one (ps_expr (pe_bm PySem.F.plainAttrs_list PySem.F.slot_list_append PySem.F.type_list_append mt_append (pv 1) (pa_cons (pe_joined (.cons pe_str (.cons (pe_fmt (pv 4)) .nil))) pa_nil))))))
  (pss_cons (ps_for (passes_of rfl) (by rfl) (pi_tupK K rfl (pe_fldK K rfl (pv 0) rfl)) (pg_tup (by rfl) (pgs_cons (pg_name (i := 5) sc_table_rows.nd rfl (Or.inl rfl)) (pgs_cons (pg_name (i := 6) sc_table_rows.nd rfl (Or.inl rfl)) (pgs_cons (pg_name (i := 7) sc_table_rows.nd rfl (Or.inl rfl)) pgs_nil))))
  (pss_cons (ps_set (i := 8) sc_table_rows.nd rfl (Or.inl rfl) (pe_ifExp (pt_val (pv 7)) pe_str pe_str))
  (pss_cons (ps_set (i := 4) sc_table_rows.nd rfl (Or.inl rfl) (pe_joinK K rfl pe_str (pv 5)))
  (pss_one (ps_expr (pe_bm PySem.F.plainAttrs_list PySem.F.slot_list_append PySem.F.type_list_append mt_append (pv 1) (pa_cons (pe_joined (.cons pe_str (.cons (pe_fmt (pv 8)) (.cons pe_str (.cons (pe_fmt (pv 4)) (.cons pe_str (.cons (pe_fmt (pv 6)) .nil))))))) pa_nil)))))))
  (pss_cons (ps_expr (pe_bm PySem.F.plainAttrs_list PySem.F.slot_list_append PySem.F.type_list_append mt_append (pv 1) (pa_cons pe_str pa_nil)))
  (pss_one (ps_ret (pv 1)))))))), ?_⟩
    -- rows = [f"table {table.name}"]
    have z8 := wf.name
    refine ⟨S kTable, rfl, szl (by rw [empty_app, S_len]; decide), _, rfl, tb, CT, dx, _, _, rfl, htb, T.clT, T.naT1, tf_name, .inl ⟨S t.name, rfl, szl (by rw [S_len]; omega), S t.name, rfl, szl ?_, ?_⟩⟩
    · rw [empty_app, S_app, S_len, List.length_append]
      show kTable.length + _ ≤ _
      have : kTable.length = 6 := rfl
      omega
    rw [empty_app, S_app]
    refine ⟨by show 1 ≤ sizeLine; decide, fun l hl => ?_⟩
    have bl : ∀ {H' : Hp} {o : HO}, But [] H H' → But [] H (upd H' l o) := fun b => b.put0 hl
    have nl : ∀ {a : Addr} {o : HO}, H a = some o → a ≠ l := fun e => ne_of_none e hl
    -- columns
    refine ⟨_, rfl, tb, CT, dx, _, _, rfl, (newB hl).at htb, T.clT, T.naT2, tf_columns, ca, rfl, ⟨_, (hca.to fun o e => (newB hl).at e).sq⟩, ?_⟩
    refine for_it (walk_tup (K := K) (a := ca) (xs := svs t.cols)) (fun i σ H' => ∃ v2 v3 v4 v5 v6 v7 v8, σ = [some (.ref tb), some (.ref l), v2, v3, v4, v5, v6, v7, v8] ∧ But [] H H' ∧ H' l = some (.lst (svs ([kTable ++ t.name] ++ (t.cols.take i).map fun c => kColumn ++ c))))
      ⟨_, _, _, _, _, _, _, rfl, newB hl, by rw [upd_same]; rfl⟩ (fun i σ H' _ ⟨_, _, _, _, _, _, _, _, b, _⟩ => (hca.to fun o e => b.at e).sq) (fun i x σ H1 H1' hi ⟨v2, v3, v4, v5, v6, v7, v8, es, b, hl1⟩ y => ?_) (fun σ H1 ⟨v2, v3, v4, v5, v6, v7, v8, es, b, hl1⟩ => ?_)
    · obtain ⟨rfl, hx⟩ := y
      obtain ⟨c, hc, rfl⟩ := svs_get hx
      subst es
      have c8 := wf.col c (List.mem_of_getElem? hc)
      have hi5 : i < 5 := by have := (List.getElem?_eq_some_iff.mp hc).1; have := wf.cols; omega
      refine ⟨_, rfl, tyList hl1, S kColumn, rfl, szl (by rw [empty_app, S_len]; decide), _, rfl, .inl ⟨S c, rfl, szl (by rw [S_len]; omega), S c, rfl, szl ?_, ?_⟩⟩
      · rw [empty_app, S_app, S_len, List.length_append]
        have : kColumn.length = 9 := rfl
        omega
      rw [empty_app, S_app]
      refine ⟨l, _, _, rfl, rfl, hl1, szt (by rw [svs_len, List.length_append, List.length_map, List.length_take]; simp; omega), _, _, _, _, _, _, _, rfl, bl b, ?_⟩
      rw [upd_same]
      congr 2
      have st : t.cols.take (i + 1) = t.cols.take i ++ [c] := by rw [List.take_add_one, hc]; rfl
      rw [st, List.map_append, ← List.append_assoc]; exact svs_one _ _ _
    subst es
    rw [svs_len, List.take_length] at hl1
    -- keys
    refine ⟨_, rfl, tb, CT, dx, _, _, rfl, b.at htb, T.clT, T.naT3, tf_unique, ua, rfl, ⟨_, SqT.of (b.at hua)⟩, ?_⟩
    refine for_it (walk_tup (K := K) (a := ua) (xs := ks)) (fun i σ H' => ∃ v2 v3 v4 v5 v6 v7 v8, σ = [some (.ref tb), some (.ref l), v2, v3, v4, v5, v6, v7, v8] ∧ But [] H H' ∧ H' l = some (.lst (svs (([kTable ++ t.name] ++ t.cols.map fun c => kColumn ++ c) ++ (t.keys.take i).map fun q => kKey ++ joinT [32] q))))
      ⟨_, _, _, _, _, _, _, rfl, b, by rw [hl1]; simp⟩ (fun i σ H' _ ⟨_, _, _, _, _, _, _, _, b, _⟩ => SqT.of (b.at hua)) (fun i x σ H2 H2' hi ⟨v2, v3, v4, v5, v6, v7, v8, es, b2, hl2⟩ y => ?_) (fun σ H2 ⟨v2, v3, v4, v5, v6, v7, v8, es, b2, hl2⟩ => ?_)
    · obtain ⟨rfl, hx⟩ := y
      obtain ⟨q, hq, qa, rfl, hqa⟩ := hks.at hx
      subst es
      obtain ⟨q3, qc⟩ := wf.key q (List.mem_of_getElem? hq)
      have q8 : ∀ c ∈ q, c.length ≤ 8 := fun c hc => wf.col c (qc c hc)
      have jl := joinT_len q q8
      have hi3 : i < 3 := by have := (List.getElem?_eq_some_iff.mp hq).1; have := wf.keys; omega
      refine ⟨⟨_, rfl⟩, _, rfl, S [32], qa, q.map S, rfl, rfl, .inr (by rw [← svs_str]; exact SqT.of (b2.at hqa)), join_room q8 (by omega), ?_⟩
      rw [join_S]
      refine ⟨_, rfl, tyList hl2, S kKey, rfl, szl (by rw [empty_app, S_len]; decide), _, rfl, .inl ⟨S (joinT [32] q), rfl, szl (by rw [S_len]; omega), S (joinT [32] q), rfl, szl ?_, ?_⟩⟩
      · rw [empty_app, S_app, S_len, List.length_append]
        have : kKey.length = 6 := rfl
        omega
      rw [empty_app, S_app]
      refine ⟨l, _, _, rfl, rfl, hl2, szt (by rw [svs_len]; simp [wf.cols]; have := wf.cols; omega), _, _, _, _, _, _, _, rfl, bl b2, ?_⟩
      rw [upd_same]
      congr 2
      have st : t.keys.take (i + 1) = t.keys.take i ++ [q] := by rw [List.take_add_one, hq]; rfl
      rw [st, List.map_append, ← List.append_assoc]; exact svs_one _ _ _
    subst es
    rw [hks.1, List.take_length] at hl2
    -- references
    refine ⟨_, rfl, tb, CT, dx, _, _, rfl, b2.at htb, T.clT, T.naT4, tf_refers, ra, rfl, ⟨_, SqT.of (b2.at hra)⟩, ?_⟩
    refine for_it (walk_tup (K := K) (a := ra) (xs := rs)) (fun i σ H' => ∃ v2 v3 v4 v5 v6 v7 v8, σ = [some (.ref tb), some (.ref l), v2, v3, v4, v5, v6, v7, v8] ∧ But [] H H' ∧ H' l = some (.lst (svs ((([kTable ++ t.name] ++ t.cols.map fun c => kColumn ++ c) ++ t.keys.map fun q => kKey ++ joinT [32] q) ++ (t.refs.take i).map refRow))))
      ⟨_, _, _, _, _, _, _, rfl, b2, by rw [hl2]; simp⟩ (fun i σ H' _ ⟨_, _, _, _, _, _, _, _, b, _⟩ => SqT.of (b.at hra)) (fun i x σ H3 H3' hi ⟨v2, v3, v4, v5, v6, v7, v8, es, b3, hl3⟩ y => ?_) (fun σ H3 ⟨v2, v3, v4, v5, v6, v7, v8, es, b3, hl3⟩ => ?_)
    · obtain ⟨rfl, hx⟩ := y
      obtain ⟨q, hq, qa, qc, rfl, hqa, hqc⟩ := hrs.at hx
      subst es
      obtain ⟨q3, q28, qcc⟩ := wf.ref q (List.mem_of_getElem? hq)
      have q8 : ∀ c ∈ q.1, c.length ≤ 8 := fun c hc => wf.col c (qcc c hc)
      have jl := joinT_len q.1 q8
      have hi2 : i < 2 := by have := (List.getElem?_eq_some_iff.mp hq).1; have := wf.refs; omega
      refine ⟨qa, _, rfl, SqT.of (b3.at hqa), rfl, _, _, rfl, _, _, rfl, _, _, rfl, rfl, ?_⟩
      refine ⟨_, rfl, _, rfl, str_go ?_⟩
      refine ⟨⟨_, rfl⟩, _, rfl, S [32], qc, q.1.map S, rfl, rfl, .inr (by rw [← svs_str]; exact SqT.of (b3.at hqc)), join_room q8 (by omega), ?_⟩
      rw [join_S]
      have ew : (if q.2.2 = true then ("ref" : Str) else ("optional" : Str)) = S (if q.2.2 then [114, 101, 102] else [111, 112, 116, 105, 111, 110, 97, 108]) := by cases q.2.2 <;> rfl
      have wl : (if q.2.2 = true then ([114, 101, 102] : Cn.T) else [111, 112, 116, 105, 111, 110, 97, 108]).length ≤ 8 := by cases q.2.2 <;> decide
      rw [ew]
      have er : refRow q = [32, 32] ++ ((if q.2.2 then [114, 101, 102] else [111, 112, 116, 105, 111, 110, 97, 108]) ++ ([32] ++ (joinT [32] q.1 ++ ([32, 45, 62, 32] ++ q.2.1)))) := rfl
      generalize (if q.2.2 = true then ([114, 101, 102] : Cn.T) else [111, 112, 116, 105, 111, 110, 97, 108]) = wd at wl er ⊢
      generalize hj : joinT [32] q.1 = jn at jl er ⊢
      have sz : ∀ a : Cn.T, a.length ≤ 100 → (S a).length ≤ sizeLine := fun a h => szl (by rw [S_len]; omega)
      refine ⟨_, rfl, tyList hl3, S [32, 32], rfl, by rw [empty_app]; exact sz _ (by decide), ?_⟩
      rw [empty_app]
      refine ⟨_, rfl, .inl ⟨S wd, rfl, sz _ (by omega), S wd, rfl, by rw [S_app]; exact sz _ (by simp; omega), ?_⟩⟩
      rw [S_app]
      refine ⟨S [32], rfl, by rw [S_app]; exact sz _ (by simp; omega), ?_⟩
      rw [S_app]
      refine ⟨_, rfl, .inl ⟨S jn, rfl, sz _ (by omega), S jn, rfl, by rw [S_app]; exact sz _ (by simp; omega), ?_⟩⟩
      rw [S_app]
      refine ⟨S [32, 45, 62, 32], rfl, by rw [S_app]; exact sz _ (by simp; omega), ?_⟩
      rw [S_app]
      refine ⟨_, rfl, .inl ⟨S q.2.1, rfl, sz _ (by omega), S q.2.1, rfl, by rw [S_app]; exact sz _ (by simp; omega), ?_⟩⟩
      rw [S_app]
      refine ⟨l, _, _, rfl, rfl, hl3, szt (by rw [svs_len]; simp; have := wf.cols; have := wf.keys; omega), _, _, _, _, _, _, _, rfl, bl b3, ?_⟩
      rw [upd_same]
      congr 2
      have st : t.refs.take (i + 1) = t.refs.take i ++ [q] := by rw [List.take_add_one, hq]; rfl
      rw [st, List.map_append, ← List.append_assoc, ← svs_one]
      show _ ++ [sv _] = _ ++ [sv _]
      rw [er]
      simp only [List.append_assoc]
    subst es
    rw [hrs.1, List.take_length] at hl3
    refine ⟨_, rfl, tyList hl3, l, _, sv kEnd, rfl, rfl, hl3, szt (by rw [svs_len]; simp; have := wf.cols; have := wf.keys; have := wf.refs; omega), _, rfl, k _ l (bl b3) hl ?_⟩
    rw [upd_same]
    congr 2
    have et : tableRows t = ((([kTable ++ t.name] ++ t.cols.map fun c => kColumn ++ c) ++ t.keys.map fun q => kKey ++ joinT [32] q) ++ t.refs.map refRow) ++ [kEnd] := by
      unfold tableRows; simp only [List.append_assoc]
    rw [et, svs_app _ [kEnd]]; rfl
end
end Cn
set_option Elab.async false
set_option linter.all false
set_option maxRecDepth 100000
set_option maxHeartbeats 4000000
/-! schemas -/
namespace Cn
open PySem L2
section
variable {P : Program} {w : World} {K : PySem.W.Frag} {mg : Str → Option Value} {base : Heap} {CR CT CS CI : Addr} {f : Addr} {fd : FuncData}
theorem sc_Schema_init : FnScope ["self", "tables", "table", "row"] ["self", "tables"] (defScope s_Schema_init) := ⟨rfl, rfl, rfl, by decide +kernel, rfl, by decide +kernel, by decide +kernel⟩
theorem sc_Schema_parse : FnScope ["cls", "text", "rows"] ["cls", "text"] (defScope s_Schema_parse) := ⟨rfl, rfl, rfl, by decide +kernel, rfl, by decide +kernel, by decide +kernel⟩
theorem sc_Schema_str : FnScope ["self"] ["self"] (defScope s_Schema_str) := ⟨rfl, rfl, rfl, by decide +kernel, rfl, by decide +kernel, by decide +kernel⟩
def sf (tt : Addr) (x : Cn.T) : List (Str × V) := [("tables", .ref tt), ("_text", sv x)]
theorem sf_tables {tt : Addr} {x : Cn.T} : (sf tt x).lookup ("tables" : Str) = some (.ref tt) := by rfl
theorem sf_text {tt : Addr} {x : Cn.T} : (sf tt x).lookup ("_text" : Str) = some (sv x) := by rfl
def SchR (CS CT : Addr) (H : Hp) (v : V) (ts : List Tbl) : Prop := ∃ a dx tt vt, v = .ref a ∧ H a = some (.ins CS dx (sf tt (schemaText ts))) ∧ H tt = some (.tup vt) ∧ Each (TblR CT H) vt ts
def sp_Schema_init (CS CT : Addr) : Sp := fun vs H Q _ => ∃ x dx l vt ts, vs = [.ref x, .ref l] ∧ H x = some (.ins CS dx []) ∧ H l = some (.lst vt) ∧ Each (TblR CT H) vt ts ∧ ts.length ≤ 5 ∧ (∀ t ∈ ts, WfT t) ∧
  ∀ H' tt, But [x] H H' → H' x = some (.ins CS dx (sf tt (schemaText ts))) → H' tt = some (.tup vt) → Q .non H'
theorem rows_room {t : Tbl} (wf : WfT t) : (tableRows t).length ≤ 12 ∧ ∀ r ∈ tableRows t, r.length ≤ 100 := by
  have h1 := wf.cols; have h2 := wf.keys; have h3 := wf.refs; have h4 := wf.name
  refine ⟨by unfold tableRows; simp; omega, fun r hr => ?_⟩
  unfold tableRows at hr
  simp only [List.mem_append, List.mem_cons, List.not_mem_nil, or_false, List.mem_map] at hr
  rcases hr with rfl | ⟨c, hc, rfl⟩ | ⟨k, hk, rfl⟩ | ⟨q, hq, rfl⟩ | rfl
  · have : kTable.length = 6 := rfl
    rw [List.length_append]; omega
  · have := wf.col c hc
    have : kColumn.length = 9 := rfl
    rw [List.length_append]; omega
  · obtain ⟨k3, kc⟩ := wf.key k hk
    have := joinT_len k fun c hc => wf.col c (kc c hc)
    have : kKey.length = 6 := rfl
    rw [List.length_append]; omega
  · obtain ⟨q3, q8, qc⟩ := wf.ref q hq
    have := joinT_len q.1 fun c hc => wf.col c (qc c hc)
    have : (if q.2.2 = true then ([114, 101, 102] : Cn.T) else [111, 112, 116, 105, 111, 110, 97, 108]).length ≤ 8 := by cases q.2.2 <;> decide
    unfold refRow
    simp only [List.length_append, List.length_cons, List.length_nil]
    omega
  · decide
theorem all_room {ts : List Tbl} (h5 : ts.length ≤ 5) (wf : ∀ t ∈ ts, WfT t) : (ts.flatMap tableRows).length ≤ 60 ∧ ∀ r ∈ ts.flatMap tableRows, r.length ≤ 100 := by
  refine ⟨?_, fun r hr => ?_⟩
  · have : ∀ xs : List Tbl, (∀ t ∈ xs, WfT t) → (xs.flatMap tableRows).length ≤ 12 * xs.length := fun xs => by
      induction xs with
      | nil => intro _; simp
      | cons x r ih =>
        intro h
        have h1 := (rows_room (h x List.mem_cons_self)).1
        have h2 := ih fun k hk => h k (List.mem_cons_of_mem _ hk)
        rw [List.flatMap_cons, List.length_append, List.length_cons]; omega
    have := this ts wf
    omega
  · obtain ⟨t, ht, h⟩ := List.mem_flatMap.mp hr
    exact (rows_room (wf t ht)).2 r h
theorem join_room2 {ks : List Cn.T} {m n : Nat} (h : ∀ k ∈ ks, k.length ≤ m) (h3 : ks.length ≤ n) (hz : n * (m + 1) ≤ 16777216) : ((ks.map S).map (·.length)).sum + (ks.map S).length * (S [10]).length ≤ 16777216 := by
  have : ∀ xs : List Cn.T, (∀ k ∈ xs, k.length ≤ m) → ((xs.map S).map (·.length)).sum ≤ m * xs.length := fun xs => by
    induction xs with
    | nil => intro _; simp
    | cons x r ih =>
      intro h
      have h1 := h x List.mem_cons_self
      have h4 := ih fun k hk => h k (List.mem_cons_of_mem _ hk)
      rw [List.map_cons, List.map_cons, List.sum_cons, S_len, List.length_cons, Nat.mul_add, Nat.mul_one]
      omega
  have h1 := this ks h
  rw [List.length_map, S_len]
  have h2 : m * ks.length ≤ m * n := Nat.mul_le_mul_left m h3
  have h4 : n * (m + 1) = m * n + n := by rw [Nat.mul_add, Nat.mul_one, Nat.mul_comm]
  simp at h1 ⊢
  omega
theorem ok_Schema_init (F : Fun K "__init__" "Schema.__init__" s_Schema_init f fd) (T : Txt K mg CR CT CS) (c_table_rows : Cal P w K mg base 1 "table_rows" (sp_table_rows CT)) : FnOk P w K mg base (L2.CX P w) 2 f fd ["self", "tables"] (sp_Schema_init CS CT) := by
  refine F.okX sc_Schema_init (fun vs H Q E h => ?_) (fun cdv A outer s H vs Q E hr h => ?_)
  · obtain ⟨x, dx, l, vt, ts, rfl, _⟩ := h
    rfl
  · obtain ⟨x, dx, l, vt, ts, rfl, hx, hl, hvt, h5, wf, k⟩ := h
    have nlx : l ≠ x := ne_of hl hx (by intro z; cases z)
    refine ⟨_, (pss_cons (ps_fldK K rfl (pv 0) (pe_callTy (call_tuple_ofK K rfl) (by rfl) T.b_tuple (by decide +kernel) (pa_cons (pv 1) pa_nil)) rfl)
  (pss_one (ps_fldK K rfl (pv 0) (pe_joinK K rfl pe_str (pe_lc2 (own := [("table", 2), ("row", 3)]) (vs1 := [3]) (g := gName 2) (g1 := gName 3) (tt := tYes) (tt1 := tYes) (by rfl) sc_Schema_init.nd (pi_tupK K rfl (pe_fldK K rfl (pv 0) rfl)) (blkOk_by (own := [("table", 2), ("row", 3)]) (N := ["self", "tables", "table", "row"]) (sc := (defScope s_Schema_init)) (by decide +kernel)) (by decide) (fun _ _ _ _ _ => (pg_name (i := 2) sc_Schema_init.nd rfl (Or.inl rfl))) (fun _ _ _ _ _ => pts_nil) (fun _ _ _ _ _ => (pi_listK K rfl (p_call E0 c_table_rows hr (by decide) (by rfl) passL (pa_cons (pv 2) pa_nil)))) (fun _ _ _ _ _ => (pg_name (i := 3) sc_Schema_init.nd rfl (Or.inl rfl))) (fun _ _ _ _ _ => pts_nil) (fun _ _ _ _ _ => (pv 3)))) rfl))), ?_⟩
    refine ⟨_, rfl, l, vt, rfl, .inl ⟨SqL.of hl, fun tt htt => ?_⟩⟩
    have ntx : tt ≠ x := fun z => by rw [z, hx] at htt; cases htt
    refine ⟨_, rfl, x, CS, dx, _, rfl, (by rw [upd_ne ntx.symm]; exact hx), T.clS, T.naS1, (by show 0 < 1000; decide), ?_⟩
    have b0 : But [x] H (upd (upd H tt (.tup vt)) x (.ins CS dx (putF "tables" (.ref tt) []))) := ((newB htt).of).put (by simp)
    have hx1 : (upd (upd H tt (.tup vt)) x (.ins CS dx (putF "tables" (.ref tt) []))) x = some (.ins CS dx [("tables", .ref tt)]) := by rw [upd_same]; rfl
    have ht1 : (upd (upd H tt (.tup vt)) x (.ins CS dx (putF "tables" (.ref tt) []))) tt = some (.tup vt) := by rw [upd_ne ntx, upd_same]
    generalize upd (upd H tt (.tup vt)) x (.ins CS dx (putF "tables" (.ref tt) [])) = H1 at b0 hx1 ht1
    have f0 : ∀ {v : V} {t : Tbl}, TblR CT H v t → TblR CT H1 v t := fun {v t} ⟨a, d2, ca, ua, ra, ks, rs, e, h1, h2, h3, h4, h6, h7⟩ => by
      have ne : ∀ {y : Addr} {o : HO}, H y = some o → (∀ C d fs, o = .ins C d fs → C ≠ CS) → H1 y = some o := fun {y o} e hc => b0.at1 e (ne_of e hx (by
        intro z
        exact hc CS dx [] z rfl))
      exact ⟨a, d2, ca, ua, ra, ks, rs, e, ne h1 (fun C d fs z => by cases z; exact T.nTS), (let ⟨oo, od, oc, oz⟩ := h2; ⟨oo, od, oc, ne oz (fun _ _ _ z => by cases z)⟩), ne h3 (fun _ _ _ z => by cases z), h4.mono (fun _ _ ⟨q, e, z⟩ => ⟨q, e, ne z (fun _ _ _ z => by cases z)⟩), ne h6 (fun _ _ _ z => by cases z),
        h7.mono fun _ _ ⟨q, c, e, z, y⟩ => ⟨q, c, e, ne z (fun _ _ _ z => by cases z), ne y (fun _ _ _ z => by cases z)⟩⟩
    have hvt1 : Each (TblR CT H1) vt ts := hvt.mono fun _ _ z => f0 z
    have room := all_room h5 wf
    refine ⟨⟨_, rfl⟩, _, rfl, x, CS, dx, _, _, rfl, hx1, T.clS, T.naS1, rfl, tt, rfl, ⟨_, SqT.of ht1⟩, fun D hD => ?_⟩
    refine turns (walk_tup (K := K) (a := tt) (xs := vt)) (fun i H' => But [] H1 H' ∧ H' D = some (.lst (svs ((ts.take i).flatMap tableRows)))) ⟨newB hD, upd_same⟩ (fun i H' _ e => SqT.of (e.1.at ht1)) (fun i v H2 H2' hi e y => ?_) (fun H2 e => ?_)
    · obtain ⟨rfl, hv⟩ := y
      obtain ⟨t, ht, htr⟩ := hvt1.at hv
      obtain ⟨a, _, _, _, _, _, _, rfl, _⟩ := id htr
      have wt := wf t (List.mem_of_getElem? ht)
      have st : ts.take (i + 1) = ts.take i ++ [t] := by rw [List.take_add_one, ht]; rfl
      refine ⟨rfl, _, rfl, a, t, rfl, htr.fix T.nT (e.1.fix0 (CR := CR)), wt, fun H3 lr b3 hlr0 hlr => ⟨lr, rfl, ⟨_, SqL.of hlr⟩, ?_⟩⟩
      have nDl : D ≠ lr := ne_of_none e.2 hlr0
      refine turns (walk_list (K := K) (a := lr) (xs := svs (tableRows t))) (fun j H' => But [] H1 H' ∧ H' lr = some (.lst (svs (tableRows t))) ∧ H' D = some (.lst (svs ((ts.take i).flatMap tableRows ++ (tableRows t).take j)))) ⟨e.1.trans b3, hlr, by rw [b3.at e.2]; simp⟩ (fun j H' _ e => SqL.of e.2.1) (fun j v H4 H4' hj e4 y => ?_) (fun H4 e4 => ?_)
      · obtain ⟨rfl, hv2⟩ := y
        obtain ⟨row, hrow, rfl⟩ := svs_get hv2
        refine ⟨rfl, _, rfl, _, e4.2.2, szt ?_, ?_, ?_, ?_⟩
        · rw [svs_len, List.length_append, List.length_take]
          have h1 := (all_room (ts := ts.take i) (by rw [List.length_take]; omega) fun q hq => wf q (List.mem_of_mem_take hq)).1
          have h2 := (rows_room wt).1
          omega
        · exact e4.1.put0 hD
        · rw [upd_ne nDl.symm]; exact e4.2.1
        · rw [upd_same]
          congr 2
          have st2 : (tableRows t).take (j + 1) = (tableRows t).take j ++ [row] := by rw [List.take_add_one, hrow]; rfl
          rw [st2, ← List.append_assoc, svs_app (_ ++ _)]; rfl
      · refine ⟨e4.1, ?_⟩
        rw [e4.2.2, svs_len, List.take_length, st, List.flatMap_append]
        simp
    · obtain ⟨b2, hD2⟩ := e
      rw [hvt1.1, List.take_length] at hD2
      refine ⟨S [10], D, (ts.flatMap tableRows).map S, rfl, rfl, .inl (by rw [← svs_str]; exact SqL.of hD2), join_room2 (m := 100) (n := 60) room.2 room.1 (by decide), ?_⟩
      rw [join_S]
      refine ⟨_, rfl, x, CS, dx, _, rfl, b2.at hx1, T.clS, T.naS2, (by show 1 < 1000; decide), ?_⟩
      refine k _ tt ((b0.trans b2.of).put (by simp)) (by rw [upd_same]; rfl) (by rw [upd_ne ntx]; exact b2.at ht1)
end
end Cn
set_option Elab.async false
set_option linter.all false
set_option maxRecDepth 100000
set_option maxHeartbeats 4000000
/-! Schema.parse, Schema.__str__ -/
namespace Cn
open PySem L2
section
variable {P : Program} {w : World} {K : PySem.W.Frag} {mg : Str → Option Value} {base : Heap} {CR CT CS CI : Addr} {f : Addr} {fd : FuncData}
def sp_parse (CT CS CI : Addr) : Sp := fun vs H Q E => ∃ t : Cn.T, vs = [.ref CS, sv t] ∧ t.length ≤ 900000 ∧ match parseRows (splitC 10 t) with
  | .error e => ∀ H' d, But [] H H' → H' d = some (.xd [("row", .int (e : Nat))]) → E (.ref CI) (some d) H'
  | .ok ts => ∀ H' v, But [] H H' → SchR CS CT H' v ts → Q v H'
theorem ok_parse (F : Fun K "parse" "Schema.parse" s_Schema_parse f fd) (T : Txt K mg CR CT CS) (m_Rows : Mak P w K mg base 1 "Rows" CR (sp_Rows_init CR)) (m_Schema : Mak P w K mg base 2 "Schema" CS (sp_Schema_init CS CT))
    (c_read_tables : Cal P w K mg base 7 "read_tables" (sp_read_tables CR CT CI)) : FnOk P w K mg base (L2.CX P w) 8 f fd ["cls", "text"] (sp_parse CT CS CI) := by
  refine F.okX sc_Schema_parse (fun vs H Q E h => ?_) (fun cdv A outer s H vs Q E hr h => ?_)
  · obtain ⟨t, rfl, _⟩ := h
    rfl
  · obtain ⟨t, rfl, hz, k⟩ := h
    refine ⟨_, (pss_cons (ps_set (i := 2) sc_Schema_parse.nd rfl (Or.inl rfl) (p_make E m_Rows hr (by decide) (by rfl) (passX rfl rfl rfl (takes_of rfl rfl rfl rfl)) (pa_cons (pv 1) pa_nil)))
  (pss_one (ps_ret (p_cls E m_Schema hr (by decide) (i := 0) (passX rfl rfl rfl (takes_of rfl rfl rfl rfl)) (pa_cons (p_call E c_read_tables hr (by decide) (by rfl) (passX rfl rfl rfl (takes_of rfl rfl rfl rfl)) (pa_cons (pv 2) pa_nil)) pa_nil))))), ?_⟩
    refine ⟨_, rfl, fun p dx hp hdx ndx => ?_⟩
    refine ⟨p, dx, t, rfl, upd_same, hz, fun H1 b1 hR => ⟨rfl, ?_⟩⟩
    obtain ⟨r, R⟩ := hR
    have b0 : But [] H H1 := (((But.refl (l := [p])).new hdx).put (by simp) |>.trans b1).drop hp
    refine ⟨rfl, _, rfl, p, dx, r, _, 0, rfl, R, Nat.zero_le _, ?_⟩
    unfold parseRows at k
    have db : ∀ {H'}, But [p] H1 H' → But [] H H' := fun b => ((But.of b0).trans b).drop hp
    cases ht : tablesLoop (splitC 10 t) 6 0 [] with
    | error e =>
      rw [ht] at k
      exact fun H' d b hd => k H' d (db b) hd
    | ok tn =>
      obtain ⟨ts, n'⟩ := tn
      have ok := parseRows_ok (L := splitC 10 t) (ts := ts) (by unfold parseRows; rw [ht])
      rw [ht] at k
      intro H2 l vt b2 hl hts x dx2 hx hdx2 ndx2
      have stay : ∀ {y : Addr} {o : HO}, H2 y = some o → (upd (upd H2 dx2 (.own x)) x (.ins CS dx2 [])) y = some o := fun {y o} e => by
        rw [upd_ne (ne_of_none e hx), upd_ne (ne_of_none e hdx2)]; exact e
      have b3 : But [] H2 (upd (upd H2 dx2 (.own x)) x (.ins CS dx2 [])) := fun y o _ e => stay e
      refine ⟨x, dx2, l, vt, ts, rfl, upd_same, stay hl, hts.mono fun _ _ z => z.fix T.nT (b3.fix0 (CR := CR)), ok.2.1, ok.2.2, fun H3 tt b4 hx3 htt => ⟨rfl, ?_⟩⟩
      have b5 : But [] H2 H3 := ((But.of b3).trans b4).drop hx
      refine k H3 _ ((db b2).trans b5) ⟨x, dx2, tt, vt, rfl, hx3, htt, hts.mono fun _ _ z => z.fix T.nT (b5.fix0 (CR := CR))⟩
def sp_str (CT CS : Addr) : Sp := fun vs H Q _ => ∃ a ts, vs = [.ref a] ∧ SchR CS CT H (.ref a) ts ∧ Q (sv (schemaText ts)) H
theorem ok_str (F : Fun K "__str__" "Schema.__str__" s_Schema_str f fd) (T : Txt K mg CR CT CS) : FnOk P w K mg base (L2.CX P w) 1 f fd ["self"] (sp_str CT CS) := by
  refine F.okX sc_Schema_str (fun vs H Q E h => ?_) (fun cdv A outer s H vs Q E hr h => ?_)
  · obtain ⟨a, ts, rfl, _⟩ := h
    rfl
  · obtain ⟨a, ts, rfl, ⟨a', dx, tt, vt, e, ha, htt, hvt⟩, k⟩ := h
    cases e
    refine ⟨_, (pss_one (ps_ret (pe_callTy SkE.call_str_str (by rfl) T.b_str (by decide +kernel) (pa_cons (pe_fldK K rfl (pv 0) rfl) pa_nil)))), ?_⟩
    refine ⟨_, rfl, a, CS, dx, _, _, rfl, ha, T.clS, T.naS2, sf_text, ?_⟩
    exact ⟨_, rfl, k⟩
end
end Cn
set_option Elab.async false
set_option linter.all false
set_option maxRecDepth 100000
set_option maxHeartbeats 2000000
/-! Cn.B13: a method's call in a try; isinstance of a kept error. -/
namespace Cn
open PySem PySem.Spec PyProof.Rows L2
section
variable {X : Cx} {k j : Nat} {C : Addr} {m : Str} {sp : Sp} {E : L2.St → XK} {o e : Expr} {es : List Expr} {pos apos : Pos} {ta : TE} {t : TA}
def tMethS (C : Addr) (m : Str) (sp : Sp) (E : L2.St → XK) (ta : TE) (t : TA) : TE := fun σ H Q => ta σ H fun x H1 => ∃ (a dx : Addr) (fs : List (Str × V)), x = .ref a ∧ H1 a = some (.ins C dx fs) ∧ fs.lookup m = none ∧ t σ H1 fun vs H2 => sp (.ref a :: vs) H2 Q (E σ)
theorem p_methS {pl : Sem Bool} (c : Met X.prog X.w X.K X.mg X.base k C m sp) (hr : Room j X.A) (hk : k ≤ j) (hx : ∀ σ, PassesAt (L2.CX X.prog X.w) X σ (E σ)) (he : PE X o ta) (ha : PA X (e :: es) t)
    (hst : starEach (e :: es) X.env = (false, eval e X.env) :: starEach es X.env := by rfl) (hpl : (backTo pos (starEach es X.env)).any (·.1) = false := by rfl)
    (ht : eval (.Call (.Attribute o m apos) (e :: es) [] pos) X.env = (do
      let ov ← eval o X.env
      standAt apos.atName
      let (f, first) ← holding [ov] (getMethod ov m pl)
      callWith pos f first (backTo pos (starEach (e :: es) X.env)) (backToKw pos (keywordEach [] X.env))) := by rfl) :
    PE X (.Call (.Attribute o m apos) (e :: es) [] pos) (tMethS C m sp E ta t) := by
  obtain ⟨f, fd, ps, hc, hm, F, b⟩ := c.ex
  refine ⟨fun pins s σ H Q I h => ?_⟩
  refine PySem.W.methodCall_KW (pl := pl) (thn (he.run pins s σ H _ I h) fun u s1 ⟨x, H1, I1, rx, a, dx, fs, ex, ea, l, q⟩ => ?_) ht
  subst ex
  obtain rfl : u = Value.ref a := rx
  refine getmeth_ok I1 ea hc hm l ?_
  refine PySem.W.callWith_K (first := [.ref a]) (h₀ := X.base) I.ok.mod.kin hm.kp (thn (ha.run pos pins s1 σ H1 _ I1 q) fun us s2 ⟨vs, H2, I2, r, q2⟩ => ⟨I2.kIn, ?_⟩) hst hpl
  exact run_fnS (us := .ref a :: us) (vs := .ref a :: vs) F (hr.mono hk) b (hx σ) I2 (.cons rfl r) q2
end
/-! ### isinstance of a kept error -/
def rIsX (K : PySem.W.Frag) (C : Addr) : List V → Hp → VK → Prop := fun xs H Q => ∃ (a dd : Addr) (fs : List (Str × V)) (c : V) (u : Value) (b : Bool), xs = [.ref a, c] ∧ H a = some (XV (.ref C) (some dd) a) ∧ H dd = some (.xd fs) ∧ ClsV c u ∧ PySem.W.kitOne K (.ref C) u = some b ∧ Q (.bl b) H
def rIsXT (K : PySem.W.Frag) (C : Addr) : List V → Hp → VK → Prop := fun xs H Q => ∃ (a dd : Addr) (fs : List (Str × V)) (tp : Addr) (cs : List V) (us : List Value) (b : Bool), xs = [.ref a, .ref tp] ∧ H a = some (XV (.ref C) (some dd) a) ∧ H dd = some (.xd fs) ∧ H tp = some (.tup cs) ∧ Paired ClsV cs us ∧ PySem.W.kitAny K (.ref C) us = some b ∧ Q (.bl b) H
section
variable {X : Cx} {C : Addr}
theorem xv_inst {pins : List (Addr × Obj)} {σ : L2.St} {H : Hp} {s : Shared} {a dd : Addr} {fs : List (Str × V)} (I : Inv X pins σ H s) (ea : H a = some (XV (.ref C) (some dd) a)) (ed : H dd = some (.xd fs)) : ∃ (oe od : Obj), PySem.W.InstAt s.heap a oe C (some od) := by
  have hx : ObjOk X.prog X.w H s.heap dd (.xd fs) := I.hok dd _ ed
  obtain ⟨mA, hns, hr⟩ := hx
  have hA : ObjOk X.prog X.w H s.heap a (XV (.ref C) (some dd) a) := I.hok a _ ea
  obtain ⟨⟨oe, vs, ha, hz, hd⟩, _⟩ := hA
  obtain ⟨od, ho, hl⟩ := lookIn_ns hns
  exact ⟨oe, od, ha, hz.1, by unfold PySem.W.notCls; rw [hd], by rw [hz.2]; exact ho⟩
theorem call_isX (E : ExcC X.K C) : CallR X (.builtin "isinstance") (rIsX X.K C) := by
  intro pins s σ H xs us Q I r h
  obtain ⟨a, dd, fs, c, u, b, rfl, ea, ed, k, e, q⟩ := h
  obtain ⟨u1, u2, rfl, r1, r2⟩ := vals2 r
  have e2 := k.eq r2
  subst e2
  obtain rfl : u1 = Value.ref a := r1
  obtain ⟨oe, od, J⟩ := xv_inst I ea ed
  have cl : (PySem.W.clsIn X.K C).isSome = true := by
    obtain ⟨cd, hc, _⟩ := PySem.W.any_some E.hd
    rw [hc]; rfl
  exact PySem.W.kia_one (PySem.W.kitx_exc cl E.hg E.hk E.hs E.ha E.hn E.ht E.hm) I.kIn J e (fun z => nomatch z) fun tk => ⟨.bl b, H, I.tok tk, rfl, q⟩
theorem call_isXT (E : ExcC X.K C) : CallR X (.builtin "isinstance") (rIsXT X.K C) := by
  intro pins s σ H xs us Q I r h
  obtain ⟨a, dd, fs, tp, cs, ws, b, rfl, ea, ed, hT, k, e, q⟩ := h
  obtain ⟨u1, u2, rfl, r1, r2⟩ := vals2 r
  cases (show u2 = Value.ref tp from r2)
  obtain rfl : u1 = Value.ref a := r1
  obtain ⟨oe, od, J⟩ := xv_inst I ea ed
  have cl : (PySem.W.clsIn X.K C).isSome = true := by
    obtain ⟨cd, hc, _⟩ := PySem.W.any_some E.hd
    rw [hc]; rfl
  obtain ⟨_, its, rv, o, h1, h2, n, h3⟩ := (show ObjOk X.prog X.w H s.heap tp (.tup cs) from I.hok tp _ hT)
  have e3 := ClsV.all k rv
  subst e3
  obtain ⟨oc, od', dt, sl⟩ := o
  simp only at h2 h3
  subst h2 h3
  exact PySem.W.kia_tup (PySem.W.kitx_exc cl E.hg E.hk E.hs E.ha E.hn E.ht E.hm) I.kIn J h1 e (fun z => nomatch z) fun tk => ⟨.bl b, H, I.tok tk, rfl, q⟩
end
section
variable {X : Cx} {C : Addr} (K : PySem.W.Frag) (h : X.K = K)
include h
theorem call_isXK (E : ExcC K C) : CallR X (.builtin "isinstance") (rIsX K C) := by subst h; exact call_isX E
theorem call_isXTK (E : ExcC K C) : CallR X (.builtin "isinstance") (rIsXT K C) := by subst h; exact call_isXT E
end
section
variable {X : Cx} {C : Addr} {x : Str} {pos : Pos}
/-- an own class by its name -/
theorem p_gcls (hm : X.mg x = some (.ref C)) (hg : Gl X x := by rfl) (hd : (x == ("__debug__" : Str)) = false := by decide) : PE X (.Name x pos) (tC (.ref C)) := pe_glob (v := .ref C) hg hm rfl hd
theorem p_gval (hm : X.mg "ValueError" = none) (hg : Gl X "ValueError" := by rfl) : PE X (.Name "ValueError" pos) (tC (.ty "ValueError")) := pe_bltn (v := .ty "ValueError") hg hm (by decide +kernel) rfl
end
/-- the class's facts, decided -/
def excB (K : PySem.W.Frag) (D : Addr) : Bool := decide (PySem.W.findIn K (.ref D) "__getattribute__" = some (some (.builtin "BaseException.__getattribute__"))) && (decide (PySem.W.findIn K (.ref D) "__getattr__" = some none) && (decide (PySem.W.subIn K (.ref D) (.type "BaseException") = some true) && (PySem.W.hasDictIn K D && (decide (PySem.W.findIn K (.ref D) "__class__" = some (some (.builtin "object.__class__"))) && (decide (PySem.W.specialIn K (.builtin "object.__class__") "__get__" = some (some (.builtin "getset_descriptor.__get__"))) && (decide (PySem.W.takesIn K (.builtin "object.__class__") = some true) && decide (PySem.W.mroIn K D (.type "object") = some true)))))))
theorem excB_ok {K : PySem.W.Frag} {D : Addr} (h : excB K D = true) : ExcC K D := by
  unfold excB at h
  simp only [Bool.and_eq_true, decide_eq_true_eq] at h
  obtain ⟨h1, h2, h3, h4, h5, h6, h7, h8⟩ := h
  exact ⟨h1, h2, h3, h4, h5, h6, h7, h8⟩
end Cn
set_option Elab.async false
set_option linter.all false
set_option maxRecDepth 100000
set_option maxHeartbeats 2000000
/-! Cn.B16: defs that are promised where no guard is on the way (no text of a list is being made): contracts, calls, the law's end. -/
namespace Cn
open PySem PySem.Spec PyProof.Rows L2
structure FnG (P : Program) (w : World) (K : PySem.W.Frag) (mg : Str → Option Value) (base : Heap) (k : Nat) (f : Addr) (fd : FuncData) (ps : List Str) (sp : Sp) : Prop where
  len : ∀ vs H Q E, sp vs H Q E → vs.length = ps.length
  run : ∀ (A : Around) (out : List Env) (s : Shared) (H : Hp) (ar : Args) (us : List Value) (vs : List V) (Q : VK) (E : XK), A.guards = some [] → Room k A → Env0 P w K mg base A out s H → BindsTo s fd ar (ps.zip us) → Vals vs us → sp vs H Q E →
    codeAny (model P w) A (.call (.ref f) ar) (CR (L2.CX P w) out P w H s Q E) s
theorem FnG.of {P : Program} {w : World} {K : PySem.W.Frag} {mg : Str → Option Value} {base : Heap} {k : Nat} {f : Addr} {fd : FuncData} {ps : List Str} {sp : Sp} (F : FnOk P w K mg base (L2.CX P w) k f fd ps sp) : FnG P w K mg base k f fd ps sp :=
  ⟨F.len, fun A out s H ar us vs Q E _ hr => F.run A out s H ar us vs Q E hr⟩
/-- as okX, a guard-free way told -/
theorem okG {P : Program} {w : World} {K : PySem.W.Frag} {mg : Str → Option Value} {base : Heap} {x qual : Str} {st : Stmt} {f : Addr} {fd : FuncData} {N ps : List Str} {k : Nat} {sp : Sp} (F : Fun K x qual st f fd) (S : FnScope N ps (defScope st))
    (len : ∀ vs H Q E, sp vs H Q E → vs.length = ps.length)
    (body : ∀ (cdv : Value) (A : Around) (out : List Env) (s : Shared) (H : Hp) (vs : List V) (Q : VK) (E : XK), A.guards = some [] → Room k (A.deeper (envOfC qual (defScope st) s.heap.objs.size f cdv)) → sp vs H Q E →
      ∃ t, PSs (cxOf (L2.CX P w) P w K mg base N qual (defScope st) f cdv A out s H E) (defBody st) t ∧ t { nx := fun _ H' => Q .non H', rt := Q } (start N vs) H) : FnG P w K mg base (k + 1) f fd ps sp := by
  obtain ⟨oc, od, kV, doc, pm, an, cdv, ct, osl, rfl, lk, hcd⟩ := F.ex
  refine ⟨len, fun A out s H ar us vs Q E hg hr e0 hb r hsp => ?_⟩
  have zl := len _ _ _ _ hsp
  have inH : K.In s.heap := e0.mod.kin.keeps fun b o z => (e0.bs b o z).1
  have nl : s.heap.NoLimit := e0.mod.nolimit.keeps fun b o z => (e0.bs b o z).1
  have kinds : ∀ y ∈ ps.zip us, (defScope st).names.lookup y.1 = some .local ∨ ((defScope st).names.lookup y.1 = some .cell ∧ ((cellsFrom (s.heap.objs.size + 1) (defScope st).names []).lookup y.1).isSome = true) := by
    rintro ⟨n, v⟩ hy
    exact (S.par n (List.of_mem_zip hy).1).elim Or.inl fun q => Or.inr ⟨q, PySem.W.cellsFrom_some _ _ _ (.inl q)⟩
  refine codeAny_call_function hr.depth (inH _ _ lk) rfl S.co S.gen rfl
    (PySem.W.codeRec_of inH hcd) (hb _ _ _ _ ?_)
  refine wpAny_newFunctionEnv_cells S.kind kinds fun env ee s1 nw => ?_
  subst ee
  refine ⟨nl.keeps nw.toInCall.keep, codeAny_func ?_⟩
  obtain ⟨t, ht, goal⟩ := body cdv A out s H vs Q E hg (hr.deeper _) hsp
  have I0 : Inv (cxOf (L2.CX P w) P w K mg base N qual (defScope st) f cdv A out s H E) [] (start N vs) H s1 := inv_start S hr.hd e0 zl r nw
  refine wpAny_mono (ht.run [] s1 (start N vs) H _ I0 goal) (fun fl s2 h2 => ?_) fun _ _ h2 => h2
  have ends : ∀ {σ' : L2.St} {H' : Hp} {v : V} {u : Value}, Inv (cxOf (L2.CX P w) P w K mg base N qual (defScope st) f cdv A out s H E) [] σ' H' s2 → RelV v u → Q v H' → CE out P w H s Q u s2 := fun {_ H' v _} J rv q => ⟨v, H', J.os, J.bare, J.base, J.hok, rv, q⟩
  rcases fl with _ | _ | _ | u
  · obtain ⟨_, _, J, q⟩ := h2
    exact ends (v := .non) (u := .none) J rfl q
  · exact h2.elim fun _ h => h.elim fun _ h => h.2.elim
  · exact h2.elim fun _ h => h.elim fun _ h => h.2.elim
  · obtain ⟨_, _, _, J, rv, q⟩ := h2
    exact ends J rv q
structure CalG (P : Program) (w : World) (K : PySem.W.Frag) (mg : Str → Option Value) (base : Heap) (k : Nat) (x : Str) (sp : Sp) : Prop where
  ex : ∃ (f : Addr) (fd : FuncData) (ps : List Str), FnG P w K mg base k f fd ps sp ∧ mg x = some (.ref f) ∧ PySem.W.keepIn K (.ref f) = true ∧ Binds K fd ps []
section
variable {X : Cx} {k j : Nat} {x : Str} {sp : Sp} {p pos : Pos} {e : Expr} {es : List Expr} {t : TA} {E : XK}
theorem p_callG (E : XK) (c : CalG X.prog X.w X.K X.mg X.base k x sp) (hg : X.A.guards = some []) (hr : Room j X.A) (hk : k ≤ j) (gl : Gl X x) (hx : Passes (L2.CX X.prog X.w) X E) (ha : PA X (e :: es) t)
    (hdb : (x == ("__debug__" : Str)) = false := by decide) (he : starEach (e :: es) X.env = (false, eval e X.env) :: starEach es X.env := by rfl) (hpl : (backTo pos (starEach es X.env)).any (·.1) = false := by rfl) :
    PE X (.Call (.Name x p) (e :: es) [] pos) (tCall sp [] E t) := by
  obtain ⟨f, fd, ps, F, hm, kp, b⟩ := c.ex
  refine ⟨fun pins s σ H Q I h => wpAny_Call_Name_kw (ld_glob I gl hm ?_ hdb)⟩
  refine PySem.W.callWith_K (h₀ := X.base) I.ok.mod.kin kp
    (thn (ha.run pos pins s σ H _ I h) fun us s1 ⟨vs, H1, I1, r, q⟩ => ⟨I1.kIn, ?_⟩) he hpl
  have q : sp vs H1 Q E := by
    have q2 : sp (vs ++ []) H1 Q E := q
    rwa [List.append_nil] at q2
  have hl : us.length = ps.length := by rw [← r.length]; exact F.len _ _ _ _ q
  have bb := b s1 us I1.kIn (by rw [List.append_nil]; exact hl)
  rw [List.append_nil] at bb
  refine wpAny_call (codeAny_mono (F.run X.A X.stack s1 H1 ⟨us, []⟩ us vs Q E hg (hr.mono hk) I1.env0 bb r q) fun rr s2 hq => ?_)
  rcases rr with z | fl
  · exact hx pins σ H1 s1 z s2 I1 hq
  · rcases fl with _ | _ | _ | u
    · exact hq.elim
    · exact hq.elim
    · exact hq.elim
    · exact I1.after hq
end
/-- the law is called where no guard is on the way -/
theorem lawG {P : Program} {w : World} {K : PySem.W.Frag} {mg mb : Str → Option Value} {k : Nat} {fa a : Addr} {fd : FuncData} {x : Str} {sp : Sp} {s0 : Shared} {us : List Value} {ns : List Int}
    (X0 : K.In s0.heap) (n1 : s0.heap.Ns mainGlobals mg) (n2 : s0.heap.Ns builtinsNs mb) (n3 : ∀ x : Str, x ≠ "__name__" → mb x = bootBuiltins x) (n4 : s0.heap.NoLimit) (n5 : s0.gens = #[])
    (ea : s0.heap.get? a = some { cls := .type "list", data := .seq us.toArray }) (ui : IntsAre us ns) (small : ns.length ≤ sizeLine) (room : Room k callerA)
    (F : ∀ base : Heap, K.In base → base.Ns mainGlobals mg → FnG P w K mg base k fa fd [x] sp) (bnd : ∀ (s : Shared) (u : Value), BindsTo s fd ⟨[u], []⟩ [(x, u)])
    (told : ∀ H : Hp, Only H → SqL K H a (ns.map V.int) → sp [.ref a] H (fun v _ => v = .bl true) fun _ _ _ => False)
    (never : ∀ H e s', L2.CX P w [] H s0 (fun _ _ _ => False) e s' → False) :
    codeAny (model P w) callerA (.call (.ref fa) ⟨[.ref a], []⟩) (fun r s' => r = .ok (.ret (.bool true)) ∧ OldK s0.heap s'.heap ∧ s'.os = s0.os ∧ AllBare s'.gens) s0 := by
  have rel := vals_ints ui
  have ul := ui.length
  have main : ∀ H : Hp, Only H → SqL K H a (ns.map V.int) → HOk P w H s0.heap → (∀ b, H b ≠ none → b = a) → (H a ≠ none → K.lookup a = none) →
      codeAny (model P w) callerA (.call (.ref fa) ⟨[.ref a], []⟩) (fun r s' => r = .ok (.ret (.bool true)) ∧ OldK s0.heap s'.heap ∧ s'.os = s0.os ∧ AllBare s'.gens) s0 := by
    intro H only sq hok ona ka
    have hide : ∀ {b : Addr} {o : Obj}, s0.heap.get? b = some o → H b = none → (hidT s0.heap H).get? b = some o := fun e n => hidT_get e n
    have free : ∀ {b : Addr} {o : Obj} {es : Array DictEntry} {ep : Nat}, s0.heap.get? b = some o → o.data = .dict es ep → H b = none := by
      intro b o es ep e d
      rcases hb : H b with _ | u
      · rfl
      · obtain rfl := ona b (by rw [hb]; simp)
        rw [ea] at e; cases e
        cases (d : Data.seq us.toArray _ = Data.dict es ep)
    have spaces : ∀ {b : Addr} {m : Str → Option Value}, s0.heap.Ns b m → (hidT s0.heap H).Ns b m := by
      rintro b m ⟨o, es, ep, e, d, r⟩
      exact ⟨o, es, ep, hide e (free e d), d, r⟩
    have inB : K.In (hidT s0.heap H) := by
      intro b o e
      refine hide (X0 b o e) ?_
      rcases hb : H b with _ | u
      · rfl
      · obtain rfl := ona b (by rw [hb]; simp)
        rw [ka (by rw [hb]; simp)] at e; cases e
    obtain ⟨mc, c1, c2⟩ := n4
    have md : Mod K mg (hidT s0.heap H) := ⟨inB, spaces n1, ⟨mb, spaces n2, n3⟩, ⟨mc, spaces c1, c2⟩⟩
    have env : Env0 P w K mg (hidT s0.heap H) callerA [] s0 H :=
      ⟨rfl, md, fun b o e => of_hidT e, Nat.le_of_eq (hidT_size _ _), trivial, (fun b hb => by cases hb), hok, .of_eq n5⟩
    have go := (F _ inB (spaces n1)).run callerA [] s0 H ⟨[.ref a], []⟩ [.ref a] [.ref a] _ _ rfl room env (bnd s0 (.ref a)) (.cons rfl .nil) (told H only sq)
    refine codeAny_mono go fun r s' h => ?_
    rcases r with z | fl
    · exact (never H z s' h).elim
    · rcases fl with _ | _ | _ | u
      · exact h.elim
      · exact h.elim
      · exact h.elim
      · obtain ⟨v, H', os, bare, un, hok', rv, rfl⟩ := h
        obtain rfl : u = Value.bool true := rv
        refine ⟨rfl, OldK.of_keep fun b o e => ?_, os, bare⟩
        rcases hb : H b with _ | y
        · exact un.keep b o e hb (by intro z; cases z) (by simp)
        · rcases only b with z | ⟨ob, xs, z⟩
          · rw [hb] at z; cases z
          · obtain ⟨e1, _⟩ := hok b _ z
            obtain ⟨e2, _⟩ := hok' b _ (un.frzs b ob _ z)
            rw [e] at e1; cases e1
            exact e2
  rcases hk : K.lookup a with _ | o
  · have one : ∀ {b : Addr} {u : HO}, (if b = a then some (HO.frz { cls := .type "list", data := .seq us.toArray } (.lst (ns.map V.int))) else none) = some u → b = a := fun {b u} z => by
      by_cases q : b = a
      · exact q
      · rw [if_neg q] at z; cases z
    refine main (fun b => if b = a then some (HO.frz { cls := .type "list", data := .seq us.toArray } (.lst (ns.map V.int))) else none) (fun b => ?_) (.inl (.inr ⟨{ cls := .type "list", data := .seq us.toArray }, if_pos rfl⟩)) (fun b u z => ?_) (fun b z => ?_) fun _ => hk
    · by_cases q : b = a
      · exact .inr ⟨_, _, if_pos q⟩
      · exact .inl (if_neg q)
    · obtain rfl := one z
      have z2 := (if_pos rfl).symm.trans z
      cases z2
      exact ⟨ea, by rw [List.length_map]; exact small, us, _, rel, ea⟩
    · by_cases q : b = a
      · exact q
      · exact absurd (if_neg q) z
  · have e := X0 a o hk
    rw [ea] at e
    cases e
    exact main (fun _ => none) (fun _ => .inl rfl) (.inr ⟨_, us.toArray, _, hk, rfl, rfl, rfl, by rw [List.size_toArray, ul]; exact small, by simpa using rel⟩) (fun b u z => by cases z) (fun b z => absurd rfl z) fun z => absurd rfl z
theorem walkG {l : PySem.W.OpenLaw} {n k : Nat} {q : Program} {loose : List Str} {XP : (Str → Option Value) → Heap → Prop} {YP : World → Heap → Prop} {d : DefRec} {x : Str} (hn : l.most = some n) (hn2 : n ≤ sizeLine) (hdf : d.params.defaults = []) (hr : Room k callerA)
    (F : ∀ (w : World) (mg : Str → Option Value) (fa : Addr) (h : Heap), YP w h → h.Ns mainGlobals mg → mg d.name = some (.ref fa) → ∃ (K : PySem.W.Frag) (fd : FuncData) (sp : Sp), K.In h ∧ (∀ (s : Shared) (u : Value), BindsTo s fd ⟨[u], []⟩ [(x, u)]) ∧
      (∀ (H : Hp) (a : Addr) (ns : List Int), ns.length ≤ n → Only H → SqL K H a (ns.map V.int) → sp [.ref a] H (fun v _ => v = .bl true) fun _ _ _ => False) ∧ ∀ base : Heap, K.In base → base.Ns mainGlobals mg → FnG l.prog w K mg base k fa fd [x] sp) : PySem.W.WalkO q loose XP YP l.row.toRowW d [] (fun f vs => PySem.call f vs) := by
  refine Att.attach_call hn hdf fun w t₀ t₁ mg mb fa ob p1 p2 p3 b us ns G Y g1 g2 g3 g4 g5 g6 g7 g8 => ?_
  obtain ⟨K, fd, sp, KX, hb, hsp, hF⟩ := F w mg fa _ Y G.T.g g4
  exact lawG KX G.T.g G.T.b G.T.builtins G.T.nolimit g8 g5 g6 (Nat.le_trans g7 hn2) hr hF hb (fun H hO hS => hsp H b ns g7 hO hS) fun H e s' h => by
    obtain ⟨_, _, _, _, _, _, _, _, _, _, _, _, z⟩ := h
    exact z.elim
end Cn
set_option Elab.async false
set_option linter.all false
set_option maxRecDepth 100000
set_option maxHeartbeats 2000000
/-! Cn.B17: repr of lists and tuples at every depth. -/
namespace Cn
open PySem PySem.Spec PyProof.Rows L2
/-- data without dicts, of depth n and weight m at most -/
structure GD (n m : Nat) (d : PyData) : Prop where
  sh : d.showable = true
  nd : d.hasDict = false
  ls : d.leavesShort 8 = true
  dp : d.depth ≤ n
  wt : d.weight ≤ m
theorem GD.mono {n m n' m' : Nat} {d : PyData} (h : GD n m d) (a : n ≤ n' := by omega) (b : m ≤ m' := by omega) : GD n' m' d := ⟨h.sh, h.nd, h.ls, Nat.le_trans h.dp a, Nat.le_trans h.wt b⟩
theorem GD.str {t : T} {m : Nat} (hs : ∀ c ∈ t, c < 256) (hl : t.length ≤ m) : GD 0 m (.str (S t)) := by
  refine ⟨by simp [PyData.showable], by simp [PyData.hasDict], ?_, by simp [PyData.depth], ?_⟩
  · simp only [PyData.leavesShort, List.all_eq_true, decide_eq_true_eq]
    intro c hc
    have := hs c hc
    have e : (16 : Nat) ^ 8 = 4294967296 := by decide
    omega
  · simp only [PyData.weight]
    exact hl
theorem GD.bl {b : Bool} {m : Nat} : GD 0 m (.bool b) := ⟨by simp [PyData.showable], by simp [PyData.hasDict], by simp [PyData.leavesShort], by simp [PyData.depth], by simp [PyData.weight]⟩
theorem GD.non {m : Nat} : GD 0 m .none := ⟨by simp [PyData.showable], by simp [PyData.hasDict], by simp [PyData.leavesShort], by simp [PyData.depth], by simp [PyData.weight]⟩
theorem gd_all {n m : Nat} : ∀ {xs : List PyData}, (∀ x ∈ xs, GD n m x) → PyData.showableAll xs = true ∧ PyData.hasDictAll xs = false ∧ PyData.leavesShortAll 8 xs = true ∧ PyData.depthAll xs ≤ n ∧ PyData.weightAll xs ≤ xs.length * (m + 1)
  | [], _ => ⟨by simp [PyData.showableAll], by simp [PyData.hasDictAll], by simp [PyData.leavesShortAll], by simp [PyData.depthAll], by simp [PyData.weightAll]⟩
  | x :: xs, h => by
    have a := h x List.mem_cons_self
    obtain ⟨b1, b2, b3, b4, b5⟩ := gd_all fun y hy => h y (List.mem_cons_of_mem _ hy)
    refine ⟨by simp [PyData.showableAll, a.sh, b1], by simp [PyData.hasDictAll, a.nd, b2], by simp [PyData.leavesShortAll, a.ls, b3], ?_, ?_⟩
    · have := a.dp
      simp only [PyData.depthAll]
      omega
    · have := a.wt
      simp only [PyData.weightAll, List.length_cons, Nat.add_mul]
      omega
theorem GD.tup {n m k : Nat} {xs : List PyData} (h : ∀ x ∈ xs, GD n m x) (hl : xs.length ≤ k) : GD (n + 1) (k * (m + 1)) (.tuple xs) := by
  obtain ⟨b1, b2, b3, b4, b5⟩ := gd_all h
  have := Nat.mul_le_mul_right (m + 1) hl
  exact ⟨by simpa [PyData.showable] using b1, by simpa [PyData.hasDict] using b2, by simpa [PyData.leavesShort] using b3, by simp only [PyData.depth]; omega, by simp only [PyData.weight]; omega⟩
theorem GD.lst {n m k : Nat} {xs : List PyData} (h : ∀ x ∈ xs, GD n m x) (hl : xs.length ≤ k) : GD (n + 1) (k * (m + 1)) (.list xs) := by
  obtain ⟨b1, b2, b3, b4, b5⟩ := gd_all h
  have := Nat.mul_le_mul_right (m + 1) hl
  exact ⟨by simpa [PyData.showable] using b1, by simpa [PyData.hasDict] using b2, by simpa [PyData.leavesShort] using b3, by simp only [PyData.depth]; omega, by simp only [PyData.weight]; omega⟩
theorem dpAll_of {K : PySem.W.Frag} {H : Hp} {α : Type} {R : V → α → Prop} {f : α → PyData} (hR : ∀ v x, R v x → Dp K H v (f x)) : ∀ {vs : List V} {xs : List α}, Each R vs xs → DpAll K H vs (xs.map f)
  | [], [], _ => .nil
  | [], _ :: _, h => by have := h.1; simp at this
  | _ :: _, [], h => by have := h.1; simp at this
  | v :: vs, x :: xs, h => .cons (hR _ _ (h.2 0 v x rfl rfl)) (dpAll_of hR ⟨by have := h.1; simpa using this, fun i a b p q => h.2 (i + 1) a b (by simpa using p) (by simpa using q)⟩)
theorem dp_svs {K : PySem.W.Frag} {H : Hp} : ∀ ts : List T, DpAll K H (svs ts) (ts.map fun t => .str (S t))
  | [] => .nil
  | t :: r => .cons (.str _) (dp_svs r)
def rRepr (K : PySem.W.Frag) : List V → Hp → VK → Prop := fun xs H Q => ∃ (a : Addr) (n m : Nat) (d : PyData), xs = [.ref a] ∧ Dp K H (.ref a) d ∧ GD n m d ∧ n ≤ 20 ∧ m ≤ 1000000 ∧ Q (.str d.shown) H
theorem call_repr_deep {X : Cx} (K : PySem.W.Frag) (hK : X.K = K) (hg : X.A.guards = some []) (hu : X.A.units + 64 < cLine) : CallR X (.builtin "repr") (rRepr K) := by
  subst hK
  intro pins s σ H xs us Q I r h
  obtain ⟨a, n, m, d, rfl, hd, g, hn, hm, q⟩ := h
  obtain ⟨u, rfl, ru⟩ := vals1 r
  cases (show u = Value.ref a from ru)
  obtain ⟨as, ra⟩ := Dp.reads I d _ _ hd ru
  refine repr_of_reads' (prog := X.prog) (w := X.w) ra g.sh (fun z => by rw [g.nd] at z; cases z) hg (by have := g.dp; omega) (fun b o e => e) (fun h' u tk hk => ⟨.str d.shown, H, I.kept hk, ⟨_, rfl⟩, q⟩) ?_
  exact PyData.shown_fits (B := 8) (by decide) (by decide) g.ls (Nat.le_trans g.wt (Nat.le_trans hm (by decide)))
end Cn
set_option Elab.async false
set_option linter.all false
set_option maxRecDepth 100000
set_option maxHeartbeats 2000000
/-! repr of a dict with keys ints and texts -/
namespace Cn
open PySem PySem.Spec PyProof.Rows L2
def kyD : Key → PyData
  | .inl i => .int i
  | .inr x => .str x
theorem reads_two {X : Cx} {pins : List (Addr × Obj)} {σ : L2.St} {H : Hp} {s : Shared} (I : Inv X pins σ H s) : ∀ {es : List DictEntry} {vs : List (Key × Value)} {kvs : List (Key × V)} {ds : List PyData}, Pairs (mixKind X.prog X.w) es vs → KV kvs vs → DpAll X.K H (kvs.map (·.2)) ds →
    (∃ as, ReadsAll s.heap (es.map (·.key)) (kvs.map fun p => kyD p.1) as) ∧ ∃ bs, ReadsAll s.heap (es.map (·.val)) ds bs
  | [], [], [], ds, p, k, d => by
    cases d
    exact ⟨⟨_, .nil⟩, _, .nil⟩
  | e :: es, v :: vs, q :: kvs, ds, p, k, d => by
    cases p with
    | cons hk hv p =>
      cases k with
      | cons k1 k =>
        cases d with
        | cons d1 d =>
          obtain ⟨⟨as, h1⟩, bs, h2⟩ := reads_two I p k d
          obtain ⟨ek, rv⟩ := k1
          rw [← hv] at rv
          obtain ⟨cs, r1⟩ := Dp.reads I _ _ _ d1 rv
          rw [← ek] at hk
          have r2 : ∃ as, Reads s.heap e.key (kyD q.1) as := by
            rcases keyIs_shape hk with ⟨i, t, e1, e2⟩ | ⟨x, t, e1, e2⟩
            · rw [e1, e2]; exact ⟨_, .int i t⟩
            · rw [e1, e2]; exact ⟨_, .str x t⟩
          obtain ⟨a2, r2⟩ := r2
          exact ⟨⟨_, .cons r2 h1⟩, _, .cons r1 h2⟩
/-- a dict's data -/
structure GK (n m : Nat) (ks : List PyData) (ds : List PyData) : Prop where
  sh : (PyData.dict (ks.zip ds)).showable = true
  nd : PyData.hasDictAll ds = false
  nk : PyData.hasDictAll ks = false
  ls : (PyData.dict (ks.zip ds)).leavesShort 8 = true
  dp : (PyData.dict (ks.zip ds)).depth ≤ n
  wt : (PyData.dict (ks.zip ds)).weight ≤ m
def rReprK (K : PySem.W.Frag) : List V → Hp → VK → Prop := fun xs H Q => ∃ (a : Addr) (n m : Nat) (kvs : List (Key × V)) (ds : List PyData), xs = [.ref a] ∧ H a = some (.dK kvs) ∧ DpAll K H (kvs.map (·.2)) ds ∧ GK n m (kvs.map fun p => kyD p.1) ds ∧ n ≤ 20 ∧ m ≤ 1000000 ∧ Q (.str (PyData.dict ((kvs.map fun p => kyD p.1).zip ds)).shown) H
theorem kv_len {K : PySem.W.Frag} {H : Hp} : ∀ {vs : List V} {ds : List PyData}, DpAll K H vs ds → vs.length = ds.length
  | _, _, .nil => rfl
  | _, _, .cons _ h => by rw [List.length_cons, List.length_cons, kv_len h]
theorem zip_fst {α β : Type} : ∀ {xs : List α} {ys : List β}, xs.length = ys.length → (xs.zip ys).map (·.1) = xs ∧ (xs.zip ys).map (·.2) = ys
  | [], [], _ => ⟨rfl, rfl⟩
  | x :: xs, y :: ys, h => by
    obtain ⟨h1, h2⟩ := zip_fst (xs := xs) (ys := ys) (by simpa using h)
    exact ⟨by rw [List.zip_cons_cons, List.map_cons, h1], by rw [List.zip_cons_cons, List.map_cons, h2]⟩
theorem call_reprDK {X : Cx} (K : PySem.W.Frag) (hK : X.K = K) (hg : X.A.guards = some []) (hu : X.A.units + 64 < cLine) : CallR X (.builtin "repr") (rReprK K) := by
  subst hK
  intro pins s σ H xs us Q I r h
  obtain ⟨a, n, m, kvs, ds, rfl, ha, hd, g, hn, hm, q⟩ := h
  obtain ⟨u, rfl, ru⟩ := vals1 r
  cases (show u = Value.ref a from ru)
  obtain ⟨_, hsys, vs, hkv, o, es, ep, h1, hcls, h3, _, hp, _⟩ := (show ObjOk X.prog X.w H s.heap a (.dK kvs) from I.hok a _ ha)
  obtain ⟨⟨as₁, h4⟩, bs₁, h5⟩ := reads_two I hp hkv hd
  have hl : (kvs.map fun p => kyD p.1).length = ds.length := by
    have := kv_len hd
    rw [List.length_map] at this ⊢
    exact this
  obtain ⟨z1, z2⟩ := zip_fst hl
  generalize hks : (kvs.map fun p => kyD p.1) = ks at *
  have h4' : ReadsAll s.heap (es.toList.map (·.key)) ((ks.zip ds).map (·.1)) as₁ := by rw [z1]; exact h4
  have h5' : ReadsAll s.heap (es.toList.map (·.val)) ((ks.zip ds).map (·.2)) bs₁ := by rw [z2]; exact h5
  have hsz : (PyData.dict (ks.zip ds)).shown.length ≤ sizeLine := PyData.shown_fits (B := 8) (by decide) (by decide) g.ls (Nat.le_trans g.wt (Nat.le_trans hm (by decide)))
  have gsh := g.sh
  have hdp := g.dp
  generalize hkd : ks.zip ds = kd at *
  have hz' : (dictText (PyData.shownKv kd)).length ≤ sizeLine := by simpa only [PyData.shown] using hsz
  obtain ⟨hs1, hs2⟩ := PyData.showableKv_split kd (by simpa [PyData.showable] using gsh)
  obtain ⟨b1, hb1, k1⟩ := ReprAllK.of_readsAll (prog := X.prog) (w := X.w) h4' hs1 (fun z => by rw [z1, g.nk] at z; cases z) (fun t ht => let ⟨p, hp, hl⟩ := PyData.shownKv_key_le kd t ht; Nat.le_trans hl (Nat.le_trans (dictText_mem_le hp) hz'))
  obtain ⟨b2, hb2, k2⟩ := ReprAllK.of_readsAll (prog := X.prog) (w := X.w) h5' hs2 (fun z => by rw [z2, g.nd] at z; cases z) (fun t ht => let ⟨p, hp, hl⟩ := PyData.shownKv_val_le kd t ht; Nat.le_trans hl (Nat.le_trans (dictText_mem_le hp) hz'))
  have hb : ReadAtMost s.heap (PyData.depthKv kd) (b1 ++ b2) := (hb1.mono (PyData.depthAll_keys_le kd)).append (hb2.mono (PyData.depthAll_vals_le kd))
  have hdc : o.cls = .type "dict" := hcls.1
  have hna : a ∉ b1 ++ b2 := not_mem_of_deeper (.dict h1 hdc h3 h4' h5') (by simp only [PyData.depth]; omega) hb
  simp only [PyData.depth] at hdp
  refine call_repr_slot (by omega) ⟨o, h1, hdc⟩ F.slot_dict_repr ?_
  refine call_dict_reprK h1 hdc h3 hsys hna (ReprEntriesK.of_two es.toList _ _ (k1.more_le (fun b hb => List.mem_append_left _ hb) (PyData.depthAll_keys_le kd)) (k2.more_le (fun b hb => List.mem_append_right _ hb) (PyData.depthAll_vals_le kd))) hg (fun b _ => Clear.nil b) (by show X.A.units + 1 + _ < cLine; omega) (fun b o e => e) (fun h' u tk hk => ?_) (by rw [← PyData.shownKv_eq]; exact hz')
  refine ⟨_, _, rfl, ?_⟩
  rw [← PyData.shownKv_eq]
  exact ⟨.str (PyData.dict kd).shown, H, I.kept hk, ⟨u, by simp only [PyData.shown]⟩, q⟩
end Cn
set_option Elab.async false
set_option linter.all false
set_option maxRecDepth 100000
set_option maxHeartbeats 2000000
/-! Cn.M8: the text of allowed tables is read back. -/
namespace Cn
open PySem L2
theorem join_no (c : Nat) (sep : T) (hs : c ∉ sep) : ∀ ps : List T, (∀ p ∈ ps, c ∉ p) → c ∉ joinT sep ps
  | [], _ => by simp [joinT]
  | [p], h => h p (by simp)
  | p :: q :: r, h => by
    have ih := join_no c sep hs (q :: r) fun x hx => h x (List.mem_cons_of_mem _ hx)
    show c ∉ p ++ (sep ++ joinT sep (q :: r))
    intro z
    rcases List.mem_append.mp z with z | z
    · exact h p (by simp) z
    · rcases List.mem_append.mp z with z | z
      · exact hs z
      · exact ih z
theorem diff_sub {k cols : List T} (h : areDiff k cols = true) : ∀ c ∈ k, c ∈ cols := by
  unfold areDiff at h
  simp only [Bool.and_eq_true] at h
  intro c hc
  have h2 := h.2
  unfold hasAll at h2
  have := List.all_eq_true.mp h2 c hc
  exact List.contains_iff_mem.mp this
theorem rows_no {above : List Tbl} {t : Tbl} (ok : OkT above t) : ∀ r ∈ tableRows t, 10 ∉ r := by
  have nn : ∀ c ∈ t.cols, 10 ∉ c := fun c hc => (name_signs (ok.colsN c hc)).2.2
  intro r hr
  unfold tableRows at hr
  simp only [List.mem_append, List.mem_cons, List.not_mem_nil, or_false, List.mem_map] at hr
  rcases hr with rfl | ⟨c, hc, rfl⟩ | ⟨k, hk, rfl⟩ | ⟨q, hq, rfl⟩ | rfl
  · intro z
    rcases List.mem_append.mp z with z | z
    · revert z; decide
    · exact (name_signs ok.name).2.2 z
  · intro z
    rcases List.mem_append.mp z with z | z
    · revert z; decide
    · exact nn c hc z
  · intro z
    rcases List.mem_append.mp z with z | z
    · revert z; decide
    · exact join_no 10 [32] (by decide) k (fun c hc => nn c (diff_sub (ok.keysK k hk).2.2 c hc)) z
  · have rr := ok.refsR q hq
    have h1 := join_no 10 [32] (by decide) q.1 (fun c hc => nn c (diff_sub rr.diff c hc))
    have h2 := (name_signs rr.names).2.2
    have h3 : 10 ∉ (if q.2.2 then ([114, 101, 102] : T) else [111, 112, 116, 105, 111, 110, 97, 108]) := by cases q.2.2 <;> decide
    unfold refRow
    simp only [List.mem_append, not_or]
    exact ⟨by decide, h3, by decide, h1, by decide, h2⟩
  · decide
theorem okTs_all : ∀ {above ts : List Tbl}, OkTs above ts → ∀ t ∈ ts, ∀ r ∈ tableRows t, 10 ∉ r := fun {above ts} h => by
  induction h with
  | nil => intro t ht; cases ht
  | cons o _ ih =>
    intro t ht
    rcases List.mem_cons.mp ht with z | z
    · rw [z]; exact rows_no o
    · exact ih t z
theorem text_rows {ts : List Tbl} (ok : OkTs [] ts) (h0 : ts ≠ []) : splitC 10 (schemaText ts) = ts.flatMap tableRows := by
  refine split_join 10 _ ?_ fun r hr => ?_
  · cases ts with
    | nil => exact absurd rfl h0
    | cons t r => rw [List.flatMap_cons]; unfold tableRows; simp
  · obtain ⟨t, ht, h⟩ := List.mem_flatMap.mp hr
    exact okTs_all ok t ht r h
theorem text_read {ts : List Tbl} (ok : OkTs [] ts) (h0 : ts ≠ []) (h5 : ts.length ≤ 5) : parseRows (splitC 10 (schemaText ts)) = .ok ts := by
  rw [text_rows ok h0]
  exact parse_rt ok h0 h5
end Cn
set_option Elab.async false
set_option linter.all false
set_option maxRecDepth 100000
set_option maxHeartbeats 2000000
namespace Cn
open PySem PySem.Spec PyProof.Rows L2
abbrev MK := Sum Int (List Key)
def hashM (P : Program) (w : World) : MK → Int
  | .inl i => (mixKind P w).hash (.inl i)
  | .inr ks => (tupleKind (mixKind P w)).hash ks
def dataM : MK → PyData
  | .inl i => .int i
  | .inr ks => .tuple (ks.map kyD)
def IsM (P : Program) (w : World) (h : Heap) : MK → Value → Prop
  | .inl i, v => ∃ t, v = .int i t
  | .inr ks, v => ∃ b, v = .ref b ∧ (tupleKind (mixKind P w)).is h ks b
def layM (k : MK) : Prop := (dataM k).canLay0 = true
theorem depth_M (k : MK) : (dataM k).depth ≤ 1 := by
  cases k with
  | inl i => simp [dataM, PyData.depth]
  | inr ks =>
    have h : PyData.depthAll (ks.map kyD) = 0 := by
      induction ks with
      | nil => simp [PyData.depthAll]
      | cons a r ih => cases a <;> simp [PyData.depthAll, PyData.depth, kyD, ih]
    simp [dataM, PyData.depth, h]
theorem eqv_keys : ∀ a b : List Key, PyData.eqvAll (a.map kyD) (b.map kyD) = decide (a = b)
  | [], [] => rfl
  | [], _ :: _ => rfl
  | _ :: _, [] => rfl
  | x :: a, y :: b => by
    show (PyData.eqv (kyD x) (kyD y) && PyData.eqvAll (a.map kyD) (b.map kyD)) = _
    rw [eqv_keys a b]
    have e : PyData.eqv (kyD x) (kyD y) = decide (x = y) := by
      cases x with
      | inl i =>
        cases y with
        | inl j =>
          show (i == j) = _
          rw [Bool.eq_iff_iff, beq_iff_eq, decide_eq_true_iff]
          exact ⟨fun h => by rw [h], fun h => Sum.inl.inj h⟩
        | inr z => exact (decide_eq_false (fun h => nomatch h)).symm
      | inr s =>
        cases y with
        | inl j => exact (decide_eq_false (fun h => nomatch h)).symm
        | inr z =>
          show (s == z) = _
          rw [Bool.eq_iff_iff, beq_iff_eq, decide_eq_true_iff]
          exact ⟨fun h => by rw [h], fun h => Sum.inr.inj h⟩
    rw [e, Bool.eq_iff_iff, Bool.and_eq_true, decide_eq_true_iff, decide_eq_true_iff, decide_eq_true_iff, List.cons.injEq]
theorem eqv_M (x y : MK) : (dataM x).eqv (dataM y) = decide (x = y) := by
  cases x with
  | inl i =>
    cases y with
    | inl j =>
      show (i == j) = _
      rw [Bool.eq_iff_iff, beq_iff_eq, decide_eq_true_iff]
      exact ⟨fun h => by rw [h], fun h => Sum.inl.inj h⟩
    | inr z => exact (decide_eq_false (fun h => nomatch h)).symm
  | inr s =>
    cases y with
    | inl j => exact (decide_eq_false (fun h => nomatch h)).symm
    | inr z =>
      show PyData.eqvAll (s.map kyD) (z.map kyD) = _
      rw [eqv_keys, Bool.eq_iff_iff, decide_eq_true_iff, decide_eq_true_iff]
      exact ⟨fun h => by rw [h], fun h => Sum.inr.inj h⟩
section
variable {P : Program} {w : World} {A : Around} {E : Value → Shared → Prop} {s : Shared}
theorem items_reads {h : Heap} : ∀ {ks : List Key} {vs : List Value}, PySem.ItemsAre (mixKind P w) ks vs → ∃ as, ReadsAll h vs (ks.map kyD) as
  | [], _, .nil => ⟨_, .nil⟩
  | k :: ks, _, .cons (v := v) hk r => by
    obtain ⟨bs, h2⟩ := items_reads (h := h) r
    have r2 : ∃ as, Reads h v (kyD k) as := by
      rcases keyIs_shape hk with ⟨i, t, e1, e2⟩ | ⟨x, t, e1, e2⟩
      · rw [e1, e2]; exact ⟨_, .int i t⟩
      · rw [e1, e2]; exact ⟨_, .str x t⟩
    obtain ⟨a2, r2⟩ := r2
    exact ⟨_, .cons r2 h2⟩
theorem reads_M {h : Heap} {k : MK} {v : Value} (hk : IsM P w h k v) : ∃ as, Reads h v (dataM k) as := by
  cases k with
  | inl i =>
    obtain ⟨t, rfl⟩ := hk
    exact ⟨_, .int i t⟩
  | inr ks =>
    obtain ⟨b, rfl, o, items, n, h1, h2, h3, h4⟩ := hk
    obtain ⟨as, r⟩ := items_reads (h := h) h4
    exact ⟨_, .tuple h1 h2 h3 r⟩
theorem eq_mix {x y : MK} {u v : Value} {Q : Bool → Shared → Prop} (hA : A.units + 1 < cLine) (hx : IsM P w s.heap x u) (hy : IsM P w s.heap y v) (lx : layM x) (ly : layM y) (ne : (u == v) = false) (nf : ∀ b t b2 t2, ¬ (u = .float b t ∧ v = .float b2 t2)) (q : Q ((dataM x).eqv (dataM y)) s) : wpAny (model P w) A (eqBool u v) Q E s := by
  unfold eqBool
  refine wpAny_holding ?_
  rw [if_neg (by rw [ne]; exact Bool.false_ne_true)]
  have k : wpAny (model P w) A (do
      let r ← richCompare CmpOp.Eq u v
      truthOfDropped r) Q E s := by
    obtain ⟨as, r1⟩ := reads_M hx
    obtain ⟨bs, r2⟩ := reads_M hy
    refine wpAny_bind (SeqAt.compareEq_reads r1 r2 lx ly ?_ ?_)
    · have := depth_M x
      omega
    · show wpAny (model P w) A (pure _) Q E s
      exact wpAny_pure q
  show wpAny (model P w) A (match (u, v) with
    | (Value.float bits tok, Value.float bits_1 tok_1) => _
    | x => _) Q E s
  split
  · rename_i b t b2 t2 e
    cases e
    exact absurd ⟨rfl, rfl⟩ (nf b t b2 t2)
  · exact k
theorem inj_M {h : Heap} {x y : MK} {v : Value} (hx : IsM P w h x v) (hy : IsM P w h y v) : x = y := by
  cases x with
  | inl i =>
    obtain ⟨t, rfl⟩ := hx
    cases y with
    | inl j => obtain ⟨t2, e⟩ := hy; cases e; rfl
    | inr ks => obtain ⟨b, e, _⟩ := hy; cases e
  | inr ks =>
    obtain ⟨b, rfl, h1⟩ := hx
    cases y with
    | inl j => obtain ⟨t2, e⟩ := hy; cases e
    | inr ks2 =>
      obtain ⟨b2, e, h2⟩ := hy
      cases e
      rw [(tupleKind (mixKind P w)).inj h1 h2]
theorem nostr_M {h : Heap} {k : MK} {v : Value} (hk : IsM P w h k v) : (∀ s t, v ≠ .str s t) ∧ (∀ b t, v ≠ .float b t) := by
  cases k with
  | inl i => obtain ⟨t, rfl⟩ := hk; exact ⟨(fun _ _ e => nomatch e), (fun _ _ e => nomatch e)⟩
  | inr ks => obtain ⟨b, rfl, _⟩ := hk; exact ⟨(fun _ _ e => nomatch e), (fun _ _ e => nomatch e)⟩
theorem eq_M {x y : MK} {u v : Value} {Q : Bool → Shared → Prop} (hA : A.units + 1 < cLine) (hx : IsM P w s.heap x u) (hy : IsM P w s.heap y v) (lx : layM x) (ly : layM y) (q : Q (decide (x = y)) s) : wpAny (model P w) A (eqBool u v) Q E s := by
  by_cases e : (u == v) = true
  · have e2 : u = v := by exact eq_of_beq e
    subst e2
    have exy := inj_M hx hy
    rw [decide_eq_true exy] at q
    unfold eqBool
    refine wpAny_holding ?_
    rw [if_pos e]
    exact wpAny_bind (wpAny_rule (wpAny_pure q))
  · rw [← eqv_M] at q
    exact eq_mix hA hx hy lx ly (Bool.eq_false_iff.mpr e) (fun b t _ _ h => (nostr_M hx).2 b t h.1) q
theorem quiet_M {k : MK} {v : Value} {Q : Bool → Shared → Prop} (hk : IsM P w s.heap k v) (q : Q true s) : wpAny (model P w) A (eqIsQuiet 8 v) Q E s := by
  cases k with
  | inl i =>
    obtain ⟨t, rfl⟩ := hk
    show wpAny (model P w) A (pure true) Q E s
    exact wpAny_pure q
  | inr ks =>
    obtain ⟨b, rfl, h⟩ := hk
    exact (tupleKind (mixKind P w)).quiet h q
theorem hash_M {k : MK} {v : Value} {Q : Int → Shared → Prop} (hA : A.units + 1 < cLine) (hk : IsM P w s.heap k v) (q : ∀ tk, Q (hashM P w k) { heap := s.heap, gens := s.gens, drawn := s.drawn, toks := tk, os := s.os }) : wpAny (model P w) A (pyHash v) Q E s := by
  cases k with
  | inl i =>
    obtain ⟨t, rfl⟩ := hk
    exact (mixKind P w).pyHash (k := .inl i) (L2.kV_is (P := P) (w := w) (k := .inl i) ⟨t, rfl⟩) (q _)
  | inr ks =>
    obtain ⟨b, rfl, h⟩ := hk
    exact (tupleKind (mixKind P w)).pyHash (show A.units < cLine by omega) h (q _)
def entM (P : Program) (w : World) (x : MK × Value × Value) : DictEntry := { hash := hashM P w x.1, key := x.2.1, val := x.2.2 }
theorem mem_places {es : Array DictEntry} {h : Int} {i : Nat} : i ∈ placesWithHash es.size (fun i => Option.map (fun x => x.hash) es[i]?) h ↔ ∃ e, es[i]? = some e ∧ e.hash = h := by
  unfold placesWithHash
  rw [List.mem_filter, List.mem_range, beq_iff_eq]
  constructor
  · rintro ⟨h1, h2⟩
    rw [Option.map_eq_some_iff] at h2
    exact h2
  · rintro ⟨e, h1, h2⟩
    obtain ⟨h3, _⟩ := Array.getElem?_eq_some_iff.mp h1
    exact ⟨h3, by show Option.map _ es[i]? = _; rw [h1]; exact congrArg some h2⟩
theorem tells_M {xs : List (MK × Value)} {k : MK} {v : Value} {Q : Bool → Shared → Prop} (hk : IsM P w s.heap k v) (hx : ∀ x ∈ xs, IsM P w s.heap x.1 x.2) (q : Q false s) : wpAny (model P w) A (tableMayTell v (xs.map (·.2))) Q E s := by
  unfold tableMayTell
  by_cases h0 : (xs.map (·.2)).isEmpty = true
  · rw [if_pos h0]; exact wpAny_pure q
  · rw [if_neg h0]
    refine wpAny_bind (quiet_M hk ?_)
    rw [if_neg (by decide)]
    refine wpAny_bind (wpAny_forIn_list _ (fun rest b s' => s' = s ∧ b.1 = none ∧ ∀ u ∈ rest, ∃ k', IsM P w s.heap k' u) _ (fun u rest b s' ⟨e, hb, hr⟩ => ?_) (fun b s' ⟨e, hb, _⟩ => ?_) _ _ ⟨rfl, rfl, fun u hu => ?_⟩)
    · obtain ⟨x, hx2, rfl⟩ := List.mem_map.mp hu
      exact ⟨x.1, hx x hx2⟩
    · subst e
      obtain ⟨k', hk'⟩ := hr u List.mem_cons_self
      refine wpAny_bind (quiet_M hk' ?_)
      rw [if_neg (by decide)]
      exact wpAny_pure ⟨rfl, rfl, fun u2 hu2 => hr u2 (List.mem_cons_of_mem _ hu2)⟩
    · subst e
      dsimp only
      rw [hb]
      exact wpAny_pure q
theorem stored_M {es : Array DictEntry} {xs : List (MK × Value × Value)} (he : es.toList = xs.map (entM P w)) (hx : ∀ x ∈ xs, IsM P w s.heap x.1 x.2.1 ∧ layM x.1) (pl : List Nat) : ∃ ys : List (MK × Value), pl.filterMap (fun i => Option.map (fun x => x.key) es[i]?) = ys.map (·.2) ∧ ∀ y ∈ ys, IsM P w s.heap y.1 y.2 := by
  induction pl with
  | nil => exact ⟨[], rfl, fun y h => nomatch h⟩
  | cons i r ih =>
    obtain ⟨ys, e, h⟩ := ih
    rw [List.filterMap_cons]
    cases q : es[i]? with
    | none => exact ⟨ys, e, h⟩
    | some en =>
      rw [← Array.getElem?_toList, he, List.getElem?_map, Option.map_eq_some_iff] at q
      obtain ⟨x, h1, rfl⟩ := q
      refine ⟨(x.1, x.2.1) :: ys, ?_, fun y hy => ?_⟩
      · show _ :: _ = _
        rw [e]; rfl
      · rcases List.mem_cons.mp hy with rfl | z
        · exact (hx x (List.mem_of_getElem? h1)).1
        · exact h y z
theorem wp_ite {M : Model} {α : Type} {c : Prop} [Decidable c] {a b : Sem α} {Q : α → Shared → Prop} (h1 : c → wpAny M A a Q E s) (h2 : ¬ c → wpAny M A b Q E s) : wpAny M A (if c then a else b) Q E s := by
  by_cases h : c
  · rw [if_pos h]; exact h1 h
  · rw [if_neg h]; exact h2 h
theorem find_M {d : Addr} {o : Obj} {es : Array DictEntry} {ep : Nat} {xs : List (MK × Value × Value)} {k : MK} {v : Value} {Q : Option Nat → Shared → Prop} (hA : A.units + 1 < cLine) (hk : IsM P w s.heap k v) (lk : layM k) (ho : s.heap.get? d = some o) (hd : o.data = .dict es ep) (he : es.toList = xs.map (entM P w)) (hx : ∀ x ∈ xs, IsM P w s.heap x.1 x.2.1 ∧ layM x.1)
    (nd : (xs.map (·.1)).Nodup) (hn : (∀ (j : Nat) p, xs[j]? ≠ some (k, p)) → Q none s) (hs : ∀ (j : Nat) p, xs[j]? = some (k, p) → Q (some j) s) : wpAny (model P w) A (dictFind d v (hashM P w k)) Q E s := by
  have hat : ∀ (i : Nat) (e : DictEntry), es[i]? = some e → ∃ x, xs[i]? = some x ∧ e = entM P w x := fun i e h => by
    rw [← Array.getElem?_toList, he, List.getElem?_map, Option.map_eq_some_iff] at h
    obtain ⟨x, h1, h2⟩ := h
    exact ⟨x, h1, h2.symm⟩
  unfold dictFind
  refine wpAny_holding (wpAny_bind (wpAny_dictEntries ho hd ?_))
  generalize hp : placesWithHash es.size (fun i => Option.map (fun x => x.hash) es[i]?) (hashM P w k) = places
  have mp : ∀ i, i ∈ places ↔ ∃ e, es[i]? = some e ∧ e.hash = hashM P w k := fun i => by rw [← hp]; exact mem_places
  have ndp : places.Nodup := by rw [← hp]; exact List.nodup_range.sublist List.filter_sublist
  have good : ∀ (j : Nat) p, xs[j]? = some (k, p) → j ∈ places := fun j p h => (mp j).mpr ⟨entM P w (k, p), by rw [← Array.getElem?_toList, he, List.getElem?_map, h]; rfl, rfl⟩
  obtain ⟨ys, ey, hy⟩ := stored_M he hx places
  have hns := nostr_M hk
  have one : ∀ (i : Nat), i ∈ places → ∃ x, es[i]? = some (entM P w x) ∧ xs[i]? = some x ∧ (entM P w x).hash = hashM P w k := fun i hi => by
    obtain ⟨e, h1, h2⟩ := (mp i).mp hi
    obtain ⟨x, h3, rfl⟩ := hat i e h1
    exact ⟨x, h1, h3, h2⟩
  have uniq : ∀ (i j : Nat) (p q : Value × Value), xs[i]? = some (k, p) → xs[j]? = some (k, q) → i = j := fun i j p q h1 h2 => by
    have e1 : (xs.map (·.1))[i]? = some k := by rw [List.getElem?_map, h1]; rfl
    have e2 : (xs.map (·.1))[j]? = some k := by rw [List.getElem?_map, h2]; rfl
    obtain ⟨a1, b1⟩ := List.getElem?_eq_some_iff.mp e1
    obtain ⟨a2, b2⟩ := List.getElem?_eq_some_iff.mp e2
    exact (List.getElem_inj nd).mp (b1.trans b2.symm)
  have plain : wpAny (model P w) A (dictWalkPlain d v (hashM P w k) es places) Q E s := by
    unfold dictWalkPlain
    refine wpAny_bind (wpAny_forIn_list _ (fun rest b s' => s' = s ∧ b.1 = none ∧ (∀ i ∈ rest, i ∈ places) ∧ ∀ (j : Nat) p, xs[j]? = some (k, p) → j ∈ rest) _ ?step ?done _ _ ⟨rfl, rfl, fun i h => h, good⟩)
    case step =>
      rintro i rest b s' ⟨rfl, hb, hr, hg⟩
      obtain ⟨x, h1, h2, h3⟩ := one i (hr i List.mem_cons_self)
      dsimp only
      rw [h1]
      dsimp only
      rw [if_pos (by rw [h3]; exact beq_self_eq_true _)]
      refine wpAny_bind (wpAny_dictEpoch ho hd (wpAny_bind (eq_M hA (hx x (List.mem_of_getElem? h2)).1 hk (hx x (List.mem_of_getElem? h2)).2 lk (wpAny_bind (wpAny_dictEpoch ho hd ?_)))))
      rw [if_neg (by simp)]
      by_cases e : x.1 = k
      · rw [decide_eq_true e, if_pos rfl]
        refine wpAny_bind (wpAny_rule (wpAny_pure ?_))
        obtain ⟨x1, x2⟩ := x
        cases e
        exact wpAny_pure (hs i x2 h2)
      · rw [decide_eq_false e, if_neg (by decide)]
        refine wpAny_bind (wpAny_rule (wpAny_pure ⟨rfl, rfl, fun j h => hr j (List.mem_cons_of_mem _ h), fun j p h => ?_⟩))
        rcases List.mem_cons.mp (hg j p h) with rfl | z
        · rw [h2] at h
          cases h
          exact absurd rfl e
        · exact z
    case done =>
      rintro b s' ⟨rfl, hb, _, hg⟩
      dsimp only
      rw [hb]
      exact wpAny_pure (hn fun j p h => by have := hg j p h; cases this)
  have nany : ¬ (es.any fun e => e.key == v && e.hash != hashM P w k) = true := fun h => by
    rw [Array.any_eq_true] at h
    obtain ⟨i, hi, h1⟩ := h
    rw [Bool.and_eq_true] at h1
    obtain ⟨x, h2, h3⟩ := hat i es[i] (Array.getElem?_eq_getElem hi)
    rw [h3] at h1
    have e1 : x.2.1 = v := eq_of_beq h1.1
    have e2 := inj_M (hx x (List.mem_of_getElem? h2)).1 (e1.symm ▸ hk)
    have h4 : (hashM P w x.1 != hashM P w k) = true := h1.2
    rw [e2, bne_self_eq_false] at h4
    cases h4
  cases k with
  | inl i0 =>
    have hk0 := hk
    obtain ⟨t, rfl⟩ := hk
    dsimp only
    by_cases hc : (Value.int i0 t :: places.filterMap fun i => Option.map (fun x => x.key) es[i]?).all carriedByValue = true
    · rw [if_pos hc]; exact plain
    · rw [if_neg hc]
      rw [ey]
      have nf : ∀ {c : Bool}, ¬ (false && c) = true := fun h => by rw [Bool.false_and] at h; cases h
      refine wp_ite (fun _ => wpAny_bind (wpAny_pure ?_)) (fun _ => wpAny_bind (tells_M hk0 hy ?_))
      all_goals
        rw [if_neg nf]
        refine wpAny_bind (wpAny_forIn_list _ (fun (rest : List Nat) (b : Option (Option Nat) × Option Nat) (s' : Shared) => s' = s ∧ b.1 = none ∧ rest.Nodup ∧ (∀ i ∈ rest, i ∈ places) ∧ (∀ (j : Nat), b.2 = some j → (∃ p : Value × Value, xs[j]? = some (.inl i0, p)) ∧ j ∉ rest) ∧ (b.2 = none → ∀ (j : Nat) p, xs[j]? = some (.inl i0, p) → j ∈ rest)) _ ?step ?done _ _ ⟨rfl, rfl, ndp, fun i h => h, (fun j h => nomatch h), fun _ => good⟩)
        case step =>
          rintro i rest ⟨b1, b2⟩ s' ⟨rfl, hb, hnd, hr, hs1, hs2⟩
          obtain ⟨x, h1, h2, h3⟩ := one i (hr i List.mem_cons_self)
          have hb : b1 = none := hb
          subst hb
          rw [List.nodup_cons] at hnd
          dsimp only at hs1 hs2 ⊢
          rw [h1]
          dsimp only
          rw [if_pos (by rw [h3]; exact beq_self_eq_true _)]
          refine wpAny_bind (wpAny_dictEpoch ho hd (wpAny_bind (eq_M hA (hx x (List.mem_of_getElem? h2)).1 hk0 (hx x (List.mem_of_getElem? h2)).2 lk (wpAny_bind (wpAny_dictEpoch ho hd ?_)))))
          rw [if_neg (by rw [bne_self_eq_false]; exact Bool.false_ne_true)]
          by_cases e : x.1 = .inl i0
          · rw [decide_eq_true e, if_pos rfl]
            obtain ⟨x1, x2⟩ := x
            have e : x1 = .inl i0 := e
            subst e
            have hb2 : b2 = none := by
              cases b2 with
              | none => rfl
              | some j =>
                obtain ⟨⟨p, hp2⟩, hnj⟩ := hs1 j rfl
                exact absurd (by rw [uniq j i _ _ hp2 h2]; exact List.mem_cons_self) hnj
            subst hb2
            rw [if_neg (by decide)]
            refine wpAny_bind (wpAny_rule (wp_ite (fun _ => wpAny_pure (wpAny_pure (hs i x2 h2))) (fun _ => wpAny_pure ⟨rfl, rfl, hnd.2, fun j h => hr j (List.mem_cons_of_mem _ h), fun j h => ?_, fun h => nomatch h⟩)))
            cases h
            exact ⟨⟨x2, h2⟩, hnd.1⟩
          · rw [decide_eq_false e, if_neg (by decide)]
            refine wpAny_bind (wpAny_rule ?_)
            rw [if_neg nf]
            refine wpAny_pure ⟨rfl, rfl, hnd.2, fun j h => hr j (List.mem_cons_of_mem _ h), fun j h => ⟨(hs1 j h).1, fun z => (hs1 j h).2 (List.mem_cons_of_mem _ z)⟩, fun h j p q => ?_⟩
            rcases List.mem_cons.mp (hs2 h j p q) with rfl | z
            · rw [h2] at q
              cases q
              exact absurd rfl e
            · exact z
        case done =>
          rintro ⟨b1, b2⟩ s' ⟨rfl, hb, _, _, hs1, hs2⟩
          have hb : b1 = none := hb
          subst hb
          dsimp only at hs1 hs2 ⊢
          refine wpAny_pure ?_
          cases b2 with
          | none => exact hn fun j p h => by have := hs2 rfl j p h; cases this
          | some j =>
            obtain ⟨⟨p, hp2⟩, _⟩ := hs1 j rfl
            exact hs j p hp2

  | inr ks =>
    have hk0 := hk
    obtain ⟨bb, rfl, hkk⟩ := hk
    dsimp only
    rw [if_neg nany]
    by_cases hc : (Value.ref bb :: places.filterMap fun i => Option.map (fun x => x.key) es[i]?).all carriedByValue = true
    · rw [if_pos hc]; exact plain
    · rw [if_neg hc]
      rw [ey]
      have nf : ∀ {c : Bool}, ¬ (false && c) = true := fun h => by rw [Bool.false_and] at h; cases h
      refine wp_ite (fun _ => wpAny_bind (wpAny_pure ?_)) (fun _ => wpAny_bind (tells_M hk0 hy ?_))
      all_goals
        rw [if_neg nf]
        refine wpAny_bind (wpAny_forIn_list _ (fun (rest : List Nat) (b : Option (Option Nat) × Option Nat) (s' : Shared) => s' = s ∧ b.1 = none ∧ rest.Nodup ∧ (∀ i ∈ rest, i ∈ places) ∧ (∀ (j : Nat), b.2 = some j → (∃ p : Value × Value, xs[j]? = some (.inr ks, p)) ∧ j ∉ rest) ∧ (b.2 = none → ∀ (j : Nat) p, xs[j]? = some (.inr ks, p) → j ∈ rest)) _ ?step ?done _ _ ⟨rfl, rfl, ndp, fun i h => h, (fun j h => nomatch h), fun _ => good⟩)
        case step =>
          rintro i rest ⟨b1, b2⟩ s' ⟨rfl, hb, hnd, hr, hs1, hs2⟩
          obtain ⟨x, h1, h2, h3⟩ := one i (hr i List.mem_cons_self)
          have hb : b1 = none := hb
          subst hb
          rw [List.nodup_cons] at hnd
          dsimp only at hs1 hs2 ⊢
          rw [h1]
          dsimp only
          rw [if_pos (by rw [h3]; exact beq_self_eq_true _)]
          refine wpAny_bind (wpAny_dictEpoch ho hd (wpAny_bind (eq_M hA (hx x (List.mem_of_getElem? h2)).1 hk0 (hx x (List.mem_of_getElem? h2)).2 lk (wpAny_bind (wpAny_dictEpoch ho hd ?_)))))
          rw [if_neg (by rw [bne_self_eq_false]; exact Bool.false_ne_true)]
          by_cases e : x.1 = .inr ks
          · rw [decide_eq_true e, if_pos rfl]
            obtain ⟨x1, x2⟩ := x
            have e : x1 = .inr ks := e
            subst e
            have hb2 : b2 = none := by
              cases b2 with
              | none => rfl
              | some j =>
                obtain ⟨⟨p, hp2⟩, hnj⟩ := hs1 j rfl
                exact absurd (by rw [uniq j i _ _ hp2 h2]; exact List.mem_cons_self) hnj
            subst hb2
            rw [if_neg (by decide)]
            refine wpAny_bind (wpAny_rule (wp_ite (fun _ => wpAny_pure (wpAny_pure (hs i x2 h2))) (fun _ => wpAny_pure ⟨rfl, rfl, hnd.2, fun j h => hr j (List.mem_cons_of_mem _ h), fun j h => ?_, fun h => nomatch h⟩)))
            cases h
            exact ⟨⟨x2, h2⟩, hnd.1⟩
          · rw [decide_eq_false e, if_neg (by decide)]
            refine wpAny_bind (wpAny_rule ?_)
            rw [if_neg nf]
            refine wpAny_pure ⟨rfl, rfl, hnd.2, fun j h => hr j (List.mem_cons_of_mem _ h), fun j h => ⟨(hs1 j h).1, fun z => (hs1 j h).2 (List.mem_cons_of_mem _ z)⟩, fun h j p q => ?_⟩
            rcases List.mem_cons.mp (hs2 h j p q) with rfl | z
            · rw [h2] at q
              cases q
              exact absurd rfl e
            · exact z
        case done =>
          rintro ⟨b1, b2⟩ s' ⟨rfl, hb, _, _, hs1, hs2⟩
          have hb : b1 = none := hb
          subst hb
          dsimp only at hs1 hs2 ⊢
          refine wpAny_pure ?_
          cases b2 with
          | none => exact hn fun j p h => by have := hs2 rfl j p h; cases this
          | some j =>
            obtain ⟨⟨p, hp2⟩, _⟩ := hs1 j rfl
            exact hs j p hp2
end
end Cn
set_option Elab.async false
set_option linter.all false
set_option maxRecDepth 100000
set_option maxHeartbeats 2000000
/-! sets of rows: tuples of numbers and None -/
namespace Cn
open PySem PySem.Spec PyProof.Rows L2
abbrev Cells := List (Option Int)
def ckey : Option Int → NestedKey
  | none => .none
  | some i => .num i
def rkey (r : Cells) : NestedKey := .tup (r.map ckey)
theorem ckey_inj : ∀ a b : Option Int, ckey a = ckey b → a = b
  | none, none, _ => rfl
  | some i, some j, h => by unfold ckey at h; cases h; rfl
  | none, some j, h => nomatch h
  | some i, none, h => nomatch h
theorem rkey_inj {a b : Cells} (h : rkey a = rkey b) : a = b := by
  unfold rkey at h
  exact (List.map_inj_right fun x y => ckey_inj x y).mp (NestedKey.tup.inj h)
theorem rkey_dec (a b : Cells) : decide (rkey a = rkey b) = decide (a = b) := by
  rw [Bool.eq_iff_iff, decide_eq_true_iff, decide_eq_true_iff]
  exact ⟨rkey_inj, fun e => by rw [e]⟩
theorem cells_flat : ∀ r : Cells, NestedKey.depthAll (r.map ckey) = 0
  | [] => rfl
  | x :: r => by
    rw [List.map_cons, NestedKey.depthAll, cells_flat r]
    cases x <;> rfl
theorem rkey_depth (r : Cells) : (rkey r).depth ≤ 8 := by
  unfold rkey
  rw [NestedKey.depth, cells_flat]; omega
def rowH (w : World) (r : Cells) : Int := (rkey r).hash w
def RowIs (h : Heap) (r : Cells) (b : Addr) : Prop := NestedIs h (rkey r) (.ref b)
/-- None, a number or a bool -/
def Leaf (v : Value) : Prop := v = .none ∨ (∃ i t, v = .int i t) ∨ ∃ c, v = .bool c
theorem leaves {h : Heap} : ∀ (r : Cells) (vs : List Value), NestedAll h (r.map ckey) vs → ∀ v ∈ vs, Leaf v
  | [], _, .nil => fun v hv => nomatch hv
  | x :: r, _, .cons (v := u) hu q => fun v hv => by
    rcases List.mem_cons.mp hv with rfl | z
    · cases x with
      | none => cases hu; exact .inl rfl
      | some i =>
        cases hu with
        | bool e => exact .inr (.inr ⟨_, rfl⟩)
        | int i t => exact .inr (.inl ⟨_, _, rfl⟩)
    · exact leaves r _ q v z
theorem RowIs.obj {h : Heap} {r : Cells} {b : Addr} (x : RowIs h r b) : ∃ o its n, h.get? b = some o ∧ o.cls = .type "tuple" ∧ o.data = .seq its n ∧ ∀ v ∈ its.toList, Leaf v := by
  unfold RowIs rkey at x
  cases x with
  | tup h1 h2 h3 h4 => exact ⟨_, _, _, h1, h2, h3, leaves r _ h4⟩
theorem RowIs.to {h h' : Heap} {r : Cells} {b : Addr} (x : RowIs h r b) (f : ∀ c o vs n, h.get? c = some o → o.data = .seq vs n → h'.get? c = some o) : RowIs h' r b := NestedIs.at f _ _ x
theorem RowIs.beside {h h' : Heap} {r : Cells} {a b : Addr} {o : Obj} {es : Array (Int × Value)} {ep : Nat} {t : SetTable} (x : RowIs h r b) (ho : h.get? a = some o) (hd : o.data = .set es ep t) (hs : Heap.SameBut a h h') : RowIs h' r b :=
  x.to fun c u vs n hc hu => (hs.2 c fun e => by
    subst e
    rw [ho] at hc
    cases hc
    rw [hd] at hu
    exact nomatch hu).trans hc
section
variable {P : Program} {w : World} {A : Around} {E : Value → Shared → Prop} {s : Shared} {r q : Cells} {a b c : Addr}
theorem row_hash {Q : Int → Shared → Prop} (hu : A.units + 8 < cLine) (x : RowIs s.heap r b) (k : ∀ tk, s.toks ≤ tk → Q (rowH w r) { s with toks := tk }) : wpAny (model P w) A (pyHash (.ref b)) Q E s :=
  (nestedKind P w).pyHash hu ⟨x, rkey_depth r⟩ (k _ (Nat.le_add_right _ _))
theorem row_eq {Q : Bool → Shared → Prop} (hu : A.units + 8 < cLine) (x : RowIs s.heap r b) (y : RowIs s.heap q c) (k : Q (decide (r = q)) s) : wpAny (model P w) A (eqBool (.ref b) (.ref c)) Q E s :=
  (nestedKind P w).eqBool hu ⟨x, rkey_depth r⟩ ⟨y, rkey_depth q⟩ (by rw [rkey_dec]; exact k)
theorem row_quiet {Q : Bool → Shared → Prop} (x : RowIs s.heap r b) (k : Q true s) : wpAny (model P w) A (eqIsQuiet 8 (.ref b)) Q E s := (nestedKind P w).quiet ⟨x, rkey_depth r⟩ k
theorem leaf_noclass {v : Value} (n : Nat) (h : Leaf v) : ofAClassStatement n v = pure false := by
  rcases h with rfl | ⟨i, t, rfl⟩ | ⟨d, rfl⟩ <;> cases n <;> rfl
theorem leaf_byvalue {v : Value} (n : Nat) (h : Leaf v) : hashByValue n v = pure true := by
  rcases h with rfl | ⟨i, t, rfl⟩ | ⟨d, rfl⟩ <;> cases n <;> rfl
/-- a walk over leaves that goes on at each -/
theorem leaf_walk {β : Type} {f : Value → β → Sem (ForInStep β)} {b0 : β} {Q : β → Shared → Prop} {vs : List Value} (hl : ∀ v ∈ vs, Leaf v) (hf : ∀ v, Leaf v → f v b0 = pure (.yield b0)) (k : Q b0 s) :
    wpAny (model P w) A (forIn vs b0 f) Q E s := by
  induction vs with
  | nil => exact wpAny_pure k
  | cons v vs ih =>
    rw [List.forIn_cons, hf v (hl v List.mem_cons_self)]
    exact wpAny_bind (wpAny_pure (ih fun u hu => hl u (List.mem_cons_of_mem _ hu)))
theorem row_noclass {Q : Bool → Shared → Prop} (x : RowIs s.heap r b) (k : Q false s) : wpAny (model P w) A (ofAClassStatement 8 (.ref b)) Q E s := by
  obtain ⟨o, its, n, h1, h2, h3, h4⟩ := x.obj
  unfold ofAClassStatement
  refine wpAny_bind (wpAny_typeOf (show s.TypeIs (.ref b) "tuple" from ⟨o, h1, h2⟩) ?_)
  have e : (("tuple" : String) == "tuple") = true := by decide
  dsimp only
  rw [if_pos e]
  refine wpAny_bind (wpAny_pure (wp_if_neg (by decide) ?_))
  show wpAny (model P w) A (seqItems? (.ref b) >>= _) Q E s
  refine wpAny_bind (wpAny_seqItems h1 h3 ?_)
  show wpAny (model P w) A (forIn its _ _ >>= _) Q E s
  rw [← Array.forIn_toList]
  exact wpAny_bind (leaf_walk h4 (fun v hv => by rw [leaf_noclass _ hv]; rfl) (wpAny_pure k))
theorem row_byvalue {Q : Bool → Shared → Prop} (x : RowIs s.heap r b) (k : Q true s) : wpAny (model P w) A (hashByValue 8 (.ref b)) Q E s := by
  obtain ⟨o, its, n, h1, h2, h3, h4⟩ := x.obj
  unfold hashByValue
  refine wpAny_bind (wpAny_specialOf (show s.TypeIs (.ref b) "tuple" from ⟨o, h1, h2⟩) F.slot_tuple_hash.lookup ?_)
  show wpAny (model P w) A (seqItems? (.ref b) >>= _) Q E s
  refine wpAny_bind (wpAny_seqItems h1 h3 ?_)
  show wpAny (model P w) A (forIn its _ _ >>= _) Q E s
  rw [← Array.forIn_toList]
  exact wpAny_bind (leaf_walk h4 (fun v hv => by rw [leaf_byvalue _ hv]; rfl) (wpAny_pure k))
theorem rows_unseen {ys : List Value} {Q : Bool → Shared → Prop} (x : RowIs s.heap r b) (hy : ∀ y ∈ ys, ∃ q c, y = Value.ref c ∧ RowIs s.heap q c) (k : Q false s) : wpAny (model P w) A (searchCouldBeSeen (.ref b) ys) Q E s := by
  unfold searchCouldBeSeen
  refine wpAny_bind (wpAny_forIn_list _ (fun rest st s1 => s1 = s ∧ st.1 = none ∧ ∀ y ∈ rest, ∃ q c, y = Value.ref c ∧ RowIs s.heap q c) _ (fun y rest st s1 ⟨e1, e2, e3⟩ => ?_) (fun st s1 ⟨e1, e2, _⟩ => ?_) _ _ ⟨rfl, rfl, hy⟩)
  · subst e1
    obtain ⟨q, c, rfl, y⟩ := e3 y List.mem_cons_self
    have go : ∀ u ∈ rest, ∃ q c, u = Value.ref c ∧ RowIs s1.heap q c := fun u hu => e3 u (List.mem_cons_of_mem _ hu)
    dsimp only
    refine wp_ite (fun _ => wpAny_pure ⟨rfl, rfl, go⟩) (fun _ => ?_)
    refine wpAny_bind (row_quiet x (wp_if_neg (by decide) (wpAny_bind (row_quiet y (wp_if_neg (by decide) ?_)))))
    refine wpAny_bind (row_noclass x (wp_if_neg (by decide) (wpAny_bind (row_noclass y (wp_if_neg (by decide) ?_)))))
    exact wpAny_pure ⟨rfl, rfl, go⟩
  · subst e1
    obtain ⟨s2, s3⟩ := st
    have e2 : s2 = none := e2
    subst e2
    exact wpAny_pure k
end
end Cn
set_option Elab.async false
set_option linter.all false
set_option maxRecDepth 100000
set_option maxHeartbeats 4000000
/-! sets of rows: the table -/
namespace Cn
open PySem PySem.Spec PyProof.Rows L2
abbrev RowL := List (Addr × Cells)
def rowEnt (w : World) (p : Addr × Cells) : Int × Value := (rowH w p.2, Value.ref p.1)
def rowHs (w : World) (L : RowL) : List Int := L.map fun p => rowH w p.2
/-- at a stands the set of the rows of L -/
structure SetR (w : World) (h : Heap) (a : Addr) (L : RowL) (es : Array (Int × Value)) (ep : Nat) (t : SetTable) : Prop where
  obj : ∃ o, h.get? a = some o ∧ o.ExactSet ∧ o.data = .set es ep t
  ents : es.toList = L.map (rowEnt w)
  tab : TabOk t (rowHs w L)
  once : (L.map (·.2)).Nodup
  rows : ∀ p ∈ L, RowIs h p.2 p.1
  val : t.plain = true
  ord : w.params.followText "set-order" = true ∨ t.led = true
  free : L.length * 5 < t.mask * 3
  less : L.length < 64
section
variable {P : Program} {w : World} {A : Around} {E : Value → Shared → Prop} {s : Shared} {a b : Addr} {L : RowL} {es : Array (Int × Value)} {ep : Nat} {t : SetTable} {k : Cells}
theorem rows_size (h : es.toList = L.map (rowEnt w)) : es.size = L.length := by rw [← Array.length_toList, h, List.length_map]
theorem rows_fit (h : es.toList = L.map (rowEnt w)) (T : TabOk t (rowHs w L)) (f : L.length ≤ t.mask) : t.fits es.size = true := by
  have n := T.sz
  unfold rowHs at n
  rw [List.length_map] at n
  unfold SetTable.fits SetTable.fill
  rw [T.dm, rows_size h, Bool.and_eq_true, beq_iff_eq, decide_eq_true_eq]
  exact ⟨n, by show t.place.size + 0 ≤ t.mask; omega⟩
theorem rows_ent (h : es.toList = L.map (rowEnt w)) {i : Nat} {p : Addr × Cells} (e : L[i]? = some p) : es[i]? = some (rowH w p.2, Value.ref p.1) := by
  rw [← Array.getElem?_toList, h, List.getElem?_map, e]; rfl
theorem rows_hash (h : es.toList = L.map (rowEnt w)) {i : Nat} {p : Addr × Cells} (e : L[i]? = some p) : (es[i]?.map (·.1)).getD 0 = rowH w p.2 := by rw [rows_ent h e]; rfl
theorem nth_clean (m : Nat) : ∀ (n : Nat) (p : SetTable.Probe), p.dummy = none → (nth m p n).dummy = none
  | 0, _, h => h
  | n + 1, p, h => nth_clean m n (adv m p) (by unfold adv; split <;> exact h)
/-- the way of a hash -/
def tread (m : Nat) (h : Int) (c : Nat) : SetTable.Probe := nth m (runAt m (SetTable.bits h % (m + 1)) (SetTable.bits h)) c
theorem tread_add (m : Nat) (h : Int) (c q : Nat) : nth m (tread m h c) q = tread m h (c + q) := (nth_add m c _ q).symm
theorem tread_way (m : Nat) (h : Int) (c : Nat) : (tread m h c).j = way m h c := rfl
theorem look_from (R : SetR w s.heap a L es ep t) (x : RowIs s.heap k b) (hu : A.units + 8 < cLine) {K : Nat} {Q : SetFound → Shared → Prop} (k1 : K < 10 * SetTable.turns t.mask) (k2 : way t.mask (rowH w k) K ∉ t.place.toList) (k3 : ∀ c, c < K → way t.mask (rowH w k) c ∈ t.place.toList)
    (yes : k ∈ L.map (·.2) → Q (.there none) s) (no : k ∉ L.map (·.2) → Q (.free (way t.mask (rowH w k) K) false) s) : ∀ (f c : Nat) (st : Option SetTable.Probe), st.getD (t.probeStart (rowH w k)) = tread t.mask (rowH w k) c → c ≤ K → K - c < f →
      (∀ (i : Nat) p, L[i]? = some p → p.2 = k → ∃ c', c ≤ c' ∧ c' < K ∧ t.place.toList[i]? = some (way t.mask (rowH w k) c')) → wpAny (model P w) A (setSearchFrom a (.ref b) (rowH w k) true f st) Q E s := by
  intro f
  induction f with
  | zero => exact fun c st _ _ z => absurd z (Nat.not_lt_zero _)
  | succ f ih =>
    intro c st e0 hc hf here
    obtain ⟨o, h1, h2, h3⟩ := R.obj
    have fit := rows_fit R.ents R.tab (by have := R.free; omega)
    have spec := go_spec t R.tab.ris R.tab.dm (fun i => (es[i]?.map (·.1)).getD 0) (rowH w k) (10 * SetTable.turns t.mask) (K - c) (tread t.mask (rowH w k) c) (nth_clean _ _ _ rfl) (by omega)
      (fun q hq => by rw [tread_add]; exact k3 (c + q) (by omega)) (by rw [tread_add, show c + (K - c) = K by omega]; exact k2)
    simp only [tread_add, tread_way] at spec
    rw [setSearchFrom_succ]
    refine wpAny_bind (wpAny_setState_of h1 h3 fit ?_)
    dsimp only
    refine wp_if_neg (by unfold SetTable.gaveWay; rw [mask_odd R.tab.mok]; decide) ?_
    rw [e0]
    rcases spec with ⟨q, i, hq, hi, hh, hno, hp⟩ | ⟨hno, hp⟩
    · rw [show t.probe (fun i => (es[i]?.map (·.1)).getD 0) (rowH w k) (tread t.mask (rowH w k) c) = _ from hp]
      have hl : i < L.length := by
        have n1 := (List.getElem?_eq_some_iff.mp hi).1
        have n2 := R.tab.sz
        unfold rowHs at n2
        rw [List.length_map] at n2
        rw [Array.length_toList] at n1
        omega
      obtain ⟨p, hpL⟩ : ∃ p, L[i]? = some p := ⟨_, List.getElem?_eq_getElem hl⟩
      have pm := List.mem_of_getElem? hpL
      have live := slot_live R.tab.ris hi
      have rest : wpAny (model P w) A (searchRest a (.ref b) (rowH w k) true f es t (way t.mask (rowH w k) (c + q)) i (tread t.mask (rowH w k) (c + (q + 1)))) Q E s := by
        unfold searchRest
        rw [rows_ent R.ents hpL]
        dsimp only
        refine wpAny_bind (wpAny_holding (row_eq hu (R.rows p pm) x (wpAny_bind (wpAny_setState_of h1 h3 fit ?_))))
        by_cases e : p.2 = k
        · exact wp_if_pos (by simp [e]) (wpAny_pure (yes (List.mem_map.mpr ⟨p, pm, e⟩)))
        · refine wp_if_neg (by simp [e]) ?_
          rw [sameMem]
          dsimp only
          rw [if_pos rfl, live]
          dsimp only
          rw [rows_ent R.ents hpL]
          dsimp only
          refine wpAny_bind (wpAny_isSame_ref_self (wpAny_bind (wpAny_pure ?_)))
          rw [if_pos rfl]
          refine wp_if_neg (by simp [e]) (ih (c + (q + 1)) _ rfl (by omega) (by omega) fun i2 p2 g1 g2 => ?_)
          obtain ⟨c', d1, d2, d3⟩ := here i2 p2 g1 g2
          refine ⟨c', ?_, d2, d3⟩
          rcases Nat.lt_trichotomy c' (c + q) with z | z | z
          · exact absurd (by rw [rows_hash R.ents g1, g2]) (hno (c' - c) i2 (by omega) (by rw [show c + (c' - c) = c' by omega]; exact d3))
          · rw [z] at d3
            have l2 := slot_live R.tab.ris d3
            rw [live] at l2
            injection l2 with l2
            rw [← l2, hpL] at g1
            exact absurd (by rw [Option.some.inj g1]; exact g2) e
          · omega
      refine wp_ite (fun _ => wpAny_bind (rows_unseen x (fun y hy => ?_) (wp_if_neg Bool.false_ne_true rest))) (fun _ => rest)
      obtain ⟨u, hu1, rfl⟩ := List.mem_map.mp hy
      have hu2 : u ∈ es.toList := by
        have := Array.mem_toList_iff.mp hu1
        exact Array.mem_toList_iff.mpr (Array.mem_filter.mp this).1
      rw [R.ents] at hu2
      obtain ⟨v, hv, rfl⟩ := List.mem_map.mp hu2
      exact ⟨v.2, v.1, rfl, R.rows v hv⟩
    · rw [show t.probe (fun i => (es[i]?.map (·.1)).getD 0) (rowH w k) (tread t.mask (rowH w k) c) = _ from hp, show c + (K - c) = K by omega]
      refine wpAny_pure (no fun hm => ?_)
      obtain ⟨p, hp1, hp2⟩ := List.mem_map.mp hm
      obtain ⟨i, hi⟩ := List.mem_iff_getElem?.mp hp1
      obtain ⟨c', d1, d2, d3⟩ := here i p hi hp2
      exact hno (c' - c) i (by omega) (by rw [show c + (c' - c) = c' by omega]; exact d3) (by rw [rows_hash R.ents hi, hp2])
/-- the search as adding asks for it -/
theorem look (R : SetR w s.heap a L es ep t) (x : RowIs s.heap k b) (hu : A.units + 8 < cLine) {Q : SetFound → Shared → Prop} (yes : k ∈ L.map (·.2) → Q (.there none) s)
    (no : ∀ K, k ∉ L.map (·.2) → way t.mask (rowH w k) K ∉ t.place.toList → (∀ c, c < K → way t.mask (rowH w k) c ∈ t.place.toList) → Q (.free (way t.mask (rowH w k) K) false) s) : wpAny (model P w) A (setSearch a (.ref b) (rowH w k) true) Q E s := by
  have hl : (rowHs w L).length ≤ t.mask := by
    unfold rowHs
    rw [List.length_map]
    have := R.free
    omega
  obtain ⟨K, k1, k2, k3⟩ := R.tab.first hl (rowH w k)
  have small : K < 100000 := by
    have : SetTable.turns t.mask ≤ 142 := by
      unfold SetTable.turns
      rcases R.tab.mok with e | e | e <;> omega
    omega
  unfold setSearch
  refine look_from R x hu k1 k2 k3 yes (fun h => no K h k2 k3) 100000 0 none rfl (Nat.zero_le _) (by omega) fun i p h1 h2 => ?_
  have g1 : (rowHs w L)[i]? = some (rowH w k) := by
    unfold rowHs
    rw [List.getElem?_map, h1, ← h2]; rfl
  have g2 : i < t.place.toList.length := by
    rw [Array.length_toList, R.tab.sz]
    exact (List.getElem?_eq_some_iff.mp g1).1
  obtain ⟨c, d1, d2⟩ := R.tab.before k2 g1 (List.getElem?_eq_getElem g2)
  exact ⟨c, Nat.zero_le _, d1, by rw [d2]; exact List.getElem?_eq_getElem g2⟩
end
end Cn
set_option Elab.async false
set_option linter.all false
set_option maxRecDepth 100000
set_option maxHeartbeats 4000000
/-! sets of rows: adding -/
namespace Cn
open PySem PySem.Spec PyProof.Rows L2
theorem fm_hash {w : World} {L : RowL} {es : Array (Int × Value)} (h : es.toList = L.map (rowEnt w)) : ∀ l : List Nat, (∀ i ∈ l, i < L.length) → ((l.filterMap fun i => L[i]?).map fun p => rowH w p.2) = l.map fun i => (es.map (·.1)).getD i 0
  | [], _ => rfl
  | i :: l, hl => by
    have e : L[i]? = some (L[i]'(hl i List.mem_cons_self)) := List.getElem?_eq_getElem _
    rw [List.filterMap_cons_some e, List.map_cons, List.map_cons, fm_hash h l fun j hj => hl j (List.mem_cons_of_mem _ hj)]
    have e2 : (es.map (·.1))[i]? = some (rowH w (L[i]'(hl i List.mem_cons_self)).2) := by rw [Array.getElem?_map, rows_ent h e]; rfl
    rw [Array.getD_eq_getD_getElem?, e2]; rfl
theorem fm_rows {w : World} {L : RowL} {es : Array (Int × Value)} {order : Array Nat} (h : es.toList = L.map (rowEnt w)) (hp : order.toList.Perm (List.range L.length)) :
    ∃ L2, (order.filterMap (es[·]?)).toList = L2.map (rowEnt w) ∧ L2.Perm L ∧ rowHs w L2 = order.toList.map fun i => (es.map (·.1)).getD i 0 := by
  refine ⟨order.toList.filterMap fun i => L[i]?, ?_, ?_, fm_hash h _ fun i hi => List.mem_range.mp (hp.mem_iff.mp hi)⟩
  · rw [Array.toList_filterMap, List.map_filterMap]
    congr 1
    funext i
    rw [← Array.getElem?_toList, h, List.getElem?_map]
  · have q := hp.filterMap fun i : Nat => L[i]?
    have e := range_map (fun x : Addr × Cells => x) L
    rw [List.map_id'] at e
    have e2 : (fun i : Nat => (L[i]?).map fun x : Addr × Cells => x) = fun i => L[i]? := by
      funext i
      exact Option.map_id'
    rw [e2] at e
    rw [e] at q
    exact q
section
variable {P : Program} {w : World} {A : Around} {E : Value → Shared → Prop} {s : Shared} {a b : Addr} {L : RowL} {es : Array (Int × Value)} {ep : Nat} {t : SetTable} {k : Cells}
theorem relay_rows {o : Obj} (h1 : s.heap.get? a = some o) (h2 : o.ExactSet) (h3 : o.data = .set es ep t) (he : es.toList = L.map (rowEnt w)) (hs : t.place.size = es.size) (hd : t.dummies = #[]) (hf : es.size ≤ t.mask) (once : (L.map (·.2)).Nodup) (rows : ∀ p ∈ L, RowIs s.heap p.2 p.1)
    (val : t.plain = true) (ord : w.params.followText "set-order" = true ∨ t.led = true) (less : L.length < 64) {n M : Nat} (hw : SetTable.sizeAbove n - 1 = M) (hM : MaskOk M) (hn : SetTable.sizeAbove n ≤ 128) (hr : L.length * 5 < M * 3) {Q : Unit → Shared → Prop}
    (q : ∀ h' L' es' ep' t', Heap.SameBut a s.heap h' → SetR w h' a L' es' ep' t' → L'.Perm L → Q () { s with heap := h' }) : wpAny (model P w) A (setRelay a n) Q E s := by
  have sz := rows_size he
  have fit : t.fits es.size = true := by
    unfold SetTable.fits SetTable.fill
    rw [hd, Bool.and_eq_true, beq_iff_eq, decide_eq_true_eq]
    exact ⟨hs, by show t.place.size + 0 ≤ t.mask; omega⟩
  obtain ⟨t2, order, e, pm, T, em, el, ev, _⟩ := relaid_ok t (hs := es.map (·.1)) hw hM (by rw [Array.size_map, sz]; omega)
  rw [Array.size_map, sz] at pm
  obtain ⟨L2, r1, r2, r3⟩ := fm_rows he pm
  rw [← r3] at T
  have sz2 : (order.filterMap (es[·]?)).size = es.size := by rw [rows_size r1, sz, r2.length_eq]
  rw [setRelay_eq]
  refine wpAny_bind (wpAny_setState_of h1 h3 fit (wp_if_neg (by rw [sizeLine_eq]; omega) ?_))
  dsimp only
  rw [e]
  dsimp only
  refine wpAny_bind (wp_if_neg (by rw [sz2]; simp) (wpAny_pure ?_))
  have sb : Heap.SameBut a s.heap (s.heap.update a (Obj.putSet (order.filterMap (es[·]?)) t2)) := Heap.SameBut.update ..
  refine wpAny_storeSet_of h1 h3 (q _ L2 (order.filterMap (es[·]?)) (ep + 1) t2 sb ?_ r2) (by rw [sz2, sz, sizeLine_eq]; omega)
  exact {
    obj := ⟨_, store_at h1 h3, ⟨h2.1, h2.2.1, h2.2.2⟩, rfl⟩
    ents := r1
    tab := T
    once := (r2.map (·.2)).nodup_iff.mpr once
    rows := fun p hp => (rows p (r2.mem_iff.mp hp)).beside h1 h3 sb
    val := by rw [ev]; exact val
    ord := by rw [el]; exact ord
    free := by rw [r2.length_eq, em]; exact hr
    less := by rw [r2.length_eq]; exact less }
/-- adding a row -/
theorem add_row (R : SetR w s.heap a L es ep t) (x : RowIs s.heap k b) (hu : A.units + 8 < cLine) (less : L.length + 1 < 64) {Q : Bool → Shared → Prop}
    (q : ∀ c h' L' es' ep' t', Heap.SameBut a s.heap h' → SetR w h' a L' es' ep' t' → (k ∈ L.map (·.2) → L' = L) → (k ∉ L.map (·.2) → L'.Perm ((b, k) :: L)) → Q c { s with heap := h' }) : wpAny (model P w) A (setAddHashed a (.ref b) (rowH w k)) Q E s := by
  obtain ⟨o, h1, h2, h3⟩ := R.obj
  have sz := rows_size R.ents
  have room := R.free
  have fit := rows_fit R.ents R.tab (by omega)
  unfold setAddHashed
  refine wpAny_holding ?_
  rw [show (100000 : Nat) = 99999 + 1 from rfl, setAddHashedIn_succ]
  refine wpAny_bind (wpAny_setState_of h1 h3 fit (wp_if_neg (by simp [byScan, Value.scannable]) ?_))
  refine wpAny_bind (look R x hu (fun m => wpAny_pure (q false s.heap L es ep t (Heap.SameBut.refl a s.heap) R (fun _ => rfl) fun z => absurd m z)) fun K m k2 k3 => ?_)
  refine wpAny_bind (wpAny_setState_of h1 h3 fit ?_)
  dsimp only
  obtain ⟨p1, p2, p3, p4, p5, p6, _, _, p9⟩ := R.tab.put k2 k3
  have v1 : (t.put (way t.mask (rowH w k) K)).1.plain = true := by rw [p6]; exact R.val
  generalize t.put (way t.mask (rowH w k) K) = u at p1 p3 p4 p5 p6 p9 v1 ⊢
  obtain ⟨t1, n⟩ := u
  dsimp only at p1 p3 p4 p5 p6 p9 v1 ⊢
  rw [← p1] at p2 p3
  refine wp_if_pos v1 (wpAny_bind (row_byvalue x ?_))
  simp only [↓reduceIte, Bool.not_false, Bool.true_and]
  have pm : (L.take n ++ (b, k) :: L.drop n).Perm ((b, k) :: L) := by
    have z : (L.take n ++ (b, k) :: L.drop n).Perm ((b, k) :: (L.take n ++ L.drop n)) := List.perm_middle
    rwa [List.take_append_drop] at z
  have hin : (SetTable.insertAt es n (rowH w k, Value.ref b)).toList = (L.take n ++ (b, k) :: L.drop n).map (rowEnt w) := by
    rw [SetTable.toList_insertAt, R.ents, List.map_append, List.map_cons, List.map_take, List.map_drop]; rfl
  have ht : rowHs w (L.take n ++ (b, k) :: L.drop n) = (rowHs w L).take n ++ rowH w k :: (rowHs w L).drop n := by
    unfold rowHs
    rw [List.map_append, List.map_cons, List.map_take, List.map_drop]
  rw [← ht] at p3
  have fill : t1.fill = L.length + 1 := by
    rw [p9]
    unfold rowHs
    rw [List.length_map]
  have len1 : (L.take n ++ (b, k) :: L.drop n).length = L.length + 1 := pm.length_eq
  have once1 : ((L.take n ++ (b, k) :: L.drop n).map (·.2)).Nodup := by
    refine (pm.map (·.2)).nodup_iff.mpr ?_
    rw [List.map_cons]
    exact List.nodup_cons.mpr ⟨m, R.once⟩
  generalize L.take n ++ (b, k) :: L.drop n = L1 at pm hin p3 len1 once1
  generalize SetTable.insertAt es n (rowH w k, Value.ref b) = es1 at hin ⊢
  have sz1 : es1.size = L.length + 1 := by rw [rows_size hin, len1]
  have sb : Heap.SameBut a s.heap (s.heap.update a (Obj.putSet es1 t1)) := Heap.SameBut.update ..
  have ho1 := store_at (es' := es1) (t' := t1) h1 h3
  refine wpAny_bind (wpAny_storeSet_of h1 h3 ?_ (by rw [sz1, sizeLine_eq]; omega))
  generalize s.heap.update a (Obj.putSet es1 t1) = g at sb ho1 ⊢
  have rows1 : ∀ p ∈ L1, RowIs g p.2 p.1 := fun p hp => by
    rcases List.mem_cons.mp (pm.mem_iff.mp hp) with rfl | z
    · exact x.beside h1 h3 sb
    · exact (R.rows p z).beside h1 h3 sb
  have ord1 : w.params.followText "set-order" = true ∨ t1.led = true := by rw [p5]; exact R.ord
  have full : t1.tooFull = true ↔ t.mask * 3 ≤ (L.length + 1) * 5 := by
    unfold SetTable.tooFull
    rw [decide_eq_true_eq, fill, p4]
  refine wp_ite (fun hf => ?_) (fun hf => ?_)
  · have hf := full.mp hf
    have go : ∀ M, SetTable.sizeAbove (SetTable.grown (L.length + 1)) - 1 = M → MaskOk M → SetTable.sizeAbove (SetTable.grown (L.length + 1)) ≤ 128 → (L.length + 1) * 5 < M * 3 → wpAny (model P w) A (setRelay a (SetTable.grown (es.size + 1)) >>= fun _ => pure true) Q E { s with heap := g } := fun M e1 e2 e3 e4 => by
      rw [sz]
      refine wpAny_bind (relay_rows (s := { s with heap := g }) ho1 ⟨h2.1, h2.2.1, h2.2.2⟩ rfl hin (by rw [p3.sz, sz1]; unfold rowHs; rw [List.length_map, len1]) p3.dm (by rw [sz1, p4]; rcases R.tab.mok with z | z | z <;> omega) once1 rows1 v1 ord1 (by omega) e1 e2 e3 (by rw [len1]; exact e4) fun h' L' es' ep' t' sb' R' pm' => ?_)
      exact wpAny_pure (q true h' L' es' ep' t' (sb.trans sb') R' (fun z => absurd z m) fun _ => pm'.trans pm)
    rcases R.tab.mok with z | z | z
    · have e : L.length = 4 := by omega
      rw [e] at go
      exact go 31 (by rw [size_20]) (.inr (.inl rfl)) (by rw [size_20]; decide) (by omega)
    · have e : L.length = 18 := by omega
      rw [e] at go
      exact go 127 (by rw [size_76]) (.inr (.inr rfl)) (by rw [size_76]; decide) (by omega)
    · omega
  · refine wpAny_pure (q true g L1 es1 (ep + 1) t1 sb ?_ (fun z => absurd z m) fun _ => pm)
    have hf := fun z => hf (full.mpr z)
    exact {
      obj := ⟨_, ho1, ⟨h2.1, h2.2.1, h2.2.2⟩, rfl⟩
      ents := hin
      tab := p3
      once := once1
      rows := rows1
      val := v1
      ord := ord1
      free := by
        rw [len1, p4]
        exact Nat.lt_of_not_le hf
      less := by rw [len1]; exact less }
end
end Cn
set_option Elab.async false
set_option linter.all false
set_option maxRecDepth 100000
set_option maxHeartbeats 4000000
/-! len(set(xs)), xs a list of rows -/
namespace Cn
open PySem PySem.Spec PyProof.Rows L2
/-! ### how many different ones -/
theorem nd_len {α : Type} [DecidableEq α] : ∀ (l D : List α), l.Nodup → (∀ x ∈ l, x ∈ D) → l.length ≤ D.length
  | [], _, _, _ => Nat.zero_le _
  | x :: l, D, h, hs => by
    obtain ⟨h1, h2⟩ := List.nodup_cons.mp h
    have hx := hs x List.mem_cons_self
    have ih := nd_len l (D.erase x) h2 fun y hy => (List.mem_erase_of_ne fun e => h1 (by rw [← e]; exact hy)).mpr (hs y (List.mem_cons_of_mem _ hy))
    rw [List.length_erase_of_mem hx] at ih
    have := List.length_pos_of_mem hx
    rw [List.length_cons]; omega
theorem twice {α : Type} [DecidableEq α] : ∀ D : List α, ¬ D.Nodup → ∃ x ∈ D, x ∈ D.erase x
  | [], h => absurd List.nodup_nil h
  | y :: D, h => by
    by_cases c : y ∈ D
    · exact ⟨y, List.mem_cons_self, by rw [List.erase_cons_head]; exact c⟩
    · obtain ⟨x, h1, h2⟩ := twice D fun z => h (List.nodup_cons.mpr ⟨c, z⟩)
      refine ⟨x, List.mem_cons_of_mem _ h1, ?_⟩
      have n : y ≠ x := fun e => c (by rw [e]; exact h1)
      rw [List.erase_cons_tail (by simpa using n)]
      exact List.mem_cons_of_mem _ h2
theorem same_len {α : Type} [DecidableEq α] {l D : List α} (h : l.Nodup) (h1 : ∀ x ∈ l, x ∈ D) (h2 : ∀ x ∈ D, x ∈ l) : l.length = D.length ↔ D.Nodup := by
  constructor
  · intro e
    refine Classical.byContradiction fun c => ?_
    obtain ⟨x, q1, q2⟩ := twice D c
    have := nd_len l (D.erase x) h fun y hy => by
      by_cases e2 : y = x
      · rw [e2]; exact q2
      · exact (List.mem_erase_of_ne e2).mpr (h1 y hy)
    rw [List.length_erase_of_mem q1] at this
    have := List.length_pos_of_mem q1
    omega
  · exact fun nd => Nat.le_antisymm (nd_len l D h h1) (nd_len D l nd h2)
/-- what the set has after i rows -/
structure Had (ks : RowL) (i : Nat) (L : RowL) : Prop where
  old : ∀ p ∈ L, p ∈ ks.take i
  all : ∀ p ∈ ks.take i, p.2 ∈ L.map (·.2)
  len : L.length ≤ i
theorem Had.next {ks L L' : RowL} {i : Nat} {x : Addr × Cells} (g : Had ks i L) (h : ks[i]? = some x) (h1 : x.2 ∈ L.map (·.2) → L' = L) (h2 : x.2 ∉ L.map (·.2) → L'.Perm (x :: L)) : Had ks (i + 1) L' := by
  have st : ks.take (i + 1) = ks.take i ++ [x] := by rw [List.take_add_one, h]; rfl
  by_cases c : x.2 ∈ L.map (·.2)
  · have e := h1 c
    subst e
    refine ⟨fun p hp => by rw [st]; exact List.mem_append_left _ (g.old p hp), fun p hp => ?_, Nat.le_succ_of_le g.len⟩
    rw [st] at hp
    rcases List.mem_append.mp hp with z | z
    · exact g.all p z
    · rw [List.mem_singleton.mp z]; exact c
  · have e := h2 c
    refine ⟨fun p hp => ?_, fun p hp => ?_, by rw [e.length_eq]; exact Nat.succ_le_succ g.len⟩
    · rw [st]
      rcases List.mem_cons.mp (e.mem_iff.mp hp) with rfl | z
      · exact List.mem_append_right _ List.mem_cons_self
      · exact List.mem_append_left _ (g.old p z)
    · rw [st] at hp
      refine (e.map (·.2)).mem_iff.mpr ?_
      rw [List.map_cons]
      rcases List.mem_append.mp hp with z | z
      · exact List.mem_cons_of_mem _ (g.all p z)
      · rw [List.mem_singleton.mp z]; exact List.mem_cons_self
section
variable {P : Program} {w : World} {A : Around} {E : Value → Shared → Prop} {s : Shared}
theorem SetR.move {h h' : Heap} {a : Addr} {L : RowL} {es : Array (Int × Value)} {ep : Nat} {t : SetTable} (R : SetR w h a L es ep t) (f : ∀ o, h.get? a = some o → h'.get? a = some o) (g : ∀ p ∈ L, RowIs h' p.2 p.1) : SetR w h' a L es ep t := by
  obtain ⟨⟨o, h1, h2⟩, r1, r2, r3, _, r5, r6, r7, r8⟩ := R
  exact ⟨⟨o, f o h1, h2⟩, r1, r2, r3, g, r5, r6, r7, r8⟩
/-- the loop of set.update -/
theorem fill_rows {I T : Addr} {fp wr : List Addr} {G : Array GenState → Array GenState → Prop} {n : Nat} {Pv : Nat → Value → Prop} {St : Nat → Shared → Prop} {R : Result → Shared → Prop} (V : WalksS P w A.in1 I fp wr G n Pv St) (nT : T ∉ fp) (ks : RowL) (hn : n = ks.length) (less : ks.length < 64)
    (hv : ∀ i v, Pv i v → ∃ p, ks[i]? = some p ∧ v = .ref p.1) (h0 : Heap) (rows : ∀ p ∈ ks, RowIs h0 p.2 p.1) (hT : h0.get? T = none) (hw : ∀ b ∈ wr, h0.get? b = none) (hu : A.in1.units + 8 < cLine) :
    ∀ (m i : Nat) (s : Shared), n - i = m → i ≤ n → St i s → (∀ b o, h0.get? b = some o → s.heap.get? b = some o) → (∃ L es ep t, SetR w s.heap T L es ep t ∧ Had ks i L) →
      (∀ s' L es ep t, Moved (T :: wr) G s s' → SetR w s'.heap T L es ep t → Had ks n L → R (.ok (.ret .none)) s') → codeAny (model P w) A (.builtin "set.update.loop" ⟨[.ref T, .ref I], []⟩) R s := by
  have nW : T ∉ wr := fun z => nT (V.sub _ z)
  have up : ∀ b ∈ wr, b ∈ T :: wr := fun b z => List.mem_cons_of_mem _ z
  have old : ∀ {s s' : Shared}, Moved wr G s s' → (∀ b o, h0.get? b = some o → s.heap.get? b = some o) → ∀ b o, h0.get? b = some o → s'.heap.get? b = some o := fun mv k b o e => mv.heap b o (fun z => by rw [hw b z] at e; cases e) (k b o e)
  have has : ∀ {s : Shared}, (∀ b o, h0.get? b = some o → s.heap.get? b = some o) → ∀ p ∈ ks, RowIs s.heap p.2 p.1 := fun k p hp => (rows p hp).to fun c o _ _ e _ => k c o e
  intro m
  induction m with
  | zero =>
    intro i s hm hi st hk ⟨L, es, ep, t, hS, g⟩ hR
    obtain rfl : i = n := by omega
    refine codeAny_builtin F.entry_set_update_loop ?_
    rw [Around.under_plainId F.plain_set_update_loop _]
    show wpAny _ A.in1 (pyNext (.ref I) >>= _) _ _ s
    refine wpAny_bind (V.done s _ _ st fun s' mv => ?_)
    show wpAny _ A.in1 (ret Value.none) _ _ s'
    exact wpAny_pure (hR s' L es ep t (mv.mono up) (hS.move (fun o e => mv.heap T o nW e) fun p hp => has (old mv hk) p (List.mem_of_mem_take (g.old p hp))) g)
  | succ m ih =>
    intro i s hm hi st hk ⟨L, es, ep, t, hS, g⟩ hR
    have lt : i < n := by omega
    refine codeAny_builtin F.entry_set_update_loop ?_
    rw [Around.under_plainId F.plain_set_update_loop _]
    show wpAny _ A.in1 (pyNext (.ref I) >>= _) _ _ s
    refine wpAny_bind (V.item i s _ _ lt st fun v s' hP st' mv => ?_)
    obtain ⟨p, hp, rfl⟩ := hv i v hP
    have hk' := old mv hk
    have hS' := hS.move (fun o e => mv.heap T o nW e) fun p hp => has hk' p (List.mem_of_mem_take (g.old p hp))
    have hx := has hk' p (List.mem_of_getElem? hp)
    show wpAny _ A.in1 (holding [Value.ref p.1] (setAdd T (.ref p.1)) >>= _) _ _ s'
    refine wpAny_bind (wpAny_holding ?_)
    unfold setAdd
    refine wpAny_holding (wpAny_bind (row_hash hu hx fun tk htk => add_row (s := { s' with toks := tk }) hS' hx hu (by have := g.len; omega) fun c h' L' es' ep' t' sb hS2 c1 c2 => ?_))
    have hk2 : ∀ b o, h0.get? b = some o → h'.get? b = some o := fun b o e => (sb.2 b fun z => by rw [z, hT] at e; cases e).trans (hk' b o e)
    refine wpAny_pure ⟨plainId_quiet F.plain_set_update_loop _, ih (i + 1) _ (by omega) lt (V.frame _ s' _ _ st' htk fun b z o e => ?_) hk2 ⟨L', es', ep', t', hS2, g.next hp c1 c2⟩ fun s2 L2 es2 ep2 t2 mv2 hS4 g2 => ?_⟩
    · rw [sb.2 b (fun q : b = T => nT (by rw [← q]; exact z))]; exact e
    · refine hR s2 L2 es2 ep2 t2 (Moved.trans V.gtrans ((mv.mono up).then_heap htk fun b o z e => ?_) mv2) hS4 g2
      rw [sb.2 b (fun q : b = T => z (by rw [q]; exact List.mem_cons_self))]; exact e
/-- set(l) -/
theorem set_of_rows {l : Addr} {its : Array Value} (ks : RowL) {Q : Value → Shared → Prop} (hh : A.handled = none) (hl : s.heap.IsList l its) (hi : its.toList = ks.map fun p => Value.ref p.1) (rows : ∀ p ∈ ks, RowIs s.heap p.2 p.1) (less : ks.length < 64) (hu : A.units + 12 < cLine)
    (h : ∀ (h' : Heap) (tk : Nat) L es ep t, SetR w h' s.heap.objs.size L es ep t → Had ks ks.length L → (∀ b o, b < s.heap.objs.size → s.heap.get? b = some o → h'.get? b = some o) → Q (.ref s.heap.objs.size) { s with heap := h', toks := tk }) : wpAny (model P w) A (call (.type "set") [.ref l]) Q E s := by
  obtain ⟨c, tl, mro⟩ := PySem.F.called_set.mro
  have made := PySem.F.called_set.made
  have sub := PySem.F.called_set.sub
  refine wpAny_call (codeAny_of_tree ?_)
  show wpAny _ _ (callAny (.type "set") _) _ _ _
  refine wpAny_pure ⟨Code.quiet_builtin _ (by decide +kernel), codeAny_builtin PySem.F.entry_type_call ?_⟩
  rw [Around.under_plain (weight_type_call_type "set" [.ref l] []) rfl]
  have nt := PySem.F.called_set.notType
  have cc := PySem.F.called_set.canCreate
  have tc := PySem.F.typeCall_set_1 (.ref l)
  repeat (any_goals (first | assumption | wp_step))
  refine codeAny_mono (code_set_led1 (.ref l) (E := E) (Q₁ := fun u s1 => u = .ref s.heap.objs.size ∧ s1 = { s with heap := s.heap.push (newSet (!w.params.followText "set-order")) }) ⟨rfl, rfl⟩) fun r s1 hr => ?_
  cases r with
  | error e => exact hr
  | ok fl =>
    cases fl with
    | ret u =>
      obtain ⟨rfl, rfl⟩ := hr
      have or0 : w.params.followText "set-order" = true ∨ (!w.params.followText "set-order") = true := by cases w.params.followText "set-order" <;> simp
      generalize (!w.params.followText "set-order") = led at or0 ⊢
      have atS : (s.heap.push (newSet led)).get? s.heap.objs.size = some (newSet led) := Heap.get?_push_size _ rfl
      have isS : Shared.TypeIs { s with heap := s.heap.push (newSet led) } (.ref s.heap.objs.size) "set" := ⟨_, atS, rfl⟩
      have il := PySem.F.called_set.init.lookup
      have ib := PySem.F.called_set.init.bind (.ref s.heap.objs.size)
      repeat (any_goals (first | assumption | wp_step))
      refine codeAny_mono (codeAny_call_builtin (R := wants (fun u s2 => u = .none ∧ ∃ h' tk L es ep t, s2 = { s with heap := h', toks := tk } ∧ SetR w h' s.heap.objs.size L es ep t ∧ Had ks ks.length L ∧
        (∀ b o, b < s.heap.objs.size → s.heap.get? b = some o → h'.get? b = some o)) E) PySem.F.called_set.init.plain PySem.F.entry_set_init (check_set_init_1 isS ?_)) fun r2 s2 hr2 => ?_
      · obtain ⟨⟨oc, od, odt, osl⟩, ho, ec, nl, ed⟩ := hl
        simp only at ec ed
        subst ec; subst ed
        have ho' : (s.heap.push (newSet led)).get? l = some { cls := .type "list", dict := od, data := .seq its nl, slots := osl } := Heap.get?_push_of_some _ ho
        have s1 := PySem.F.sub_list_set
        have s2 := PySem.F.sub_list_frozenset
        have nd : (Value.type "list" == Value.type "dict") = false := by decide
        have hl1 : (s.heap.push (newSet led)).IsList l its := ⟨_, ho', rfl, nl, rfl⟩
        unfold Builtin.«set.__init__» noKeywords Builtin.Frozenset.updateFrom
        generalize gP : pyIter = PI
        wp_walk
        subst gP
        refine wpAny_pyIter_list hl1 (wpAny_bind (wpAny_runValue ?_))
        have ltl : l < s.heap.objs.size := Heap.lt_size ho
        have h3 : A.in1.in1.in1.handled = none := by simp [hh]
        have nI : l ≠ (s.heap.push (newSet led)).objs.size := by
          rw [Heap.size_push]
          exact Nat.ne_of_lt (Nat.lt_succ_of_lt ltl)
        have nF : s.heap.objs.size ∉ [(s.heap.push (newSet led)).objs.size, l] := by
          rw [Heap.size_push]
          simp only [List.mem_cons, List.not_mem_nil, or_false, not_or]
          exact ⟨Nat.ne_of_lt (Nat.lt_succ_self _), Nat.ne_of_gt ltl⟩
        have sz : its.size = ks.length := by rw [← Array.length_toList, hi, List.length_map]
        have item : ∀ (i : Nat) (v : Value), its[i]? = some v → ∃ p, ks[i]? = some p ∧ v = .ref p.1 := fun i v e => by
          rw [← Array.getElem?_toList, hi, List.getElem?_map, Option.map_eq_some_iff] at e
          obtain ⟨p, e1, e2⟩ := e
          exact ⟨p, e1, e2.symm⟩
        have none_of : ∀ b, s.heap.objs.size ≤ b → s.heap.get? b = none := fun b hb => by
          cases q : s.heap.get? b with
          | none => rfl
          | some o => exact absurd (Heap.lt_size q) (Nat.not_lt.mpr hb)
        refine fill_rows ((Walks.list h3 _ l nI its).toS) nF ks sz less item s.heap rows (none_of _ (Nat.le_refl _)) (fun b hb => none_of b (by rw [List.mem_singleton.mp hb, Heap.size_push]; omega)) (by show A.units + 3 + 8 < cLine; omega) (its.size - 0) 0 _ (by omega) (Nat.zero_le _)
          ⟨⟨_, Heap.get?_push_size _ rfl, rfl, rfl⟩, (hl1.push _)⟩ (fun b o e => Heap.get?_push_of_some _ (Heap.get?_push_of_some _ e)) ?c1 ?c2
        case c1 =>
          exact ⟨[], #[], 0, _, ⟨⟨_, Heap.get?_push_of_some _ atS, ⟨rfl, rfl, rfl⟩, rfl⟩, rfl, ⟨List.Pairwise.nil, rfl, rfl, .inl rfl, (fun x hx => nomatch hx), (fun i h j hi => by simp [rowHs] at hi)⟩, List.nodup_nil, (fun p hp => nomatch hp), rfl, or0, (by show 0 * 5 < 7 * 3; decide), by decide⟩, ⟨(fun p hp => nomatch hp), (fun p hp => by simp at hp), Nat.le_refl _⟩⟩
        case c2 =>
          rintro ⟨h', g', d', tk', os'⟩ L es ep t mv hS' had
          have eg : g' = s.gens := mv.gens
          have ed : d' = s.drawn := mv.drawn
          have eo : os' = s.os := mv.os
          subst eg; subst ed; subst eo
          rw [sz] at had
          show wpAny _ _ _ _ _ _
          refine wpAny_pure ?_
          show wpAny _ _ (ret Value.none) _ _ _
          refine wpAny_pure ⟨rfl, h', tk', L, es, ep, t, rfl, hS', had, fun b o hlt e => ?_⟩
          refine mv.heap b o ?_ (Heap.get?_push_of_some _ (Heap.get?_push_of_some _ e))
          rw [Heap.size_push]
          simp only [List.mem_cons, List.not_mem_nil, or_false, not_or]
          exact ⟨Nat.ne_of_lt hlt, Nat.ne_of_lt (Nat.lt_succ_of_lt hlt)⟩
      · cases r2 with
        | error e => exact hr2
        | ok f2 =>
          cases f2 with
          | ret u2 =>
            obtain ⟨rfl, h', tk, L, es, ep, t, rfl, hS', had, hk⟩ := hr2
            repeat (any_goals (first | assumption | wp_step))
            exact h _ _ _ _ _ _ hS' had hk
          | _ => exact hr2.elim
    | _ => exact hr.elim
end
/-! ### the rule -/
def cellV : Option Int → V
  | none => .non
  | some i => .int i
def cellVs (r : Cells) : List V := r.map cellV
section
variable {X : Cx}
theorem cells_all {h : Heap} : ∀ {r : Cells} {us : List Value}, Vals (cellVs r) us → NestedAll h (r.map ckey) us
  | [], _, .nil => .nil
  | x :: r, _, .cons e q => by
    refine .cons ?_ (cells_all q)
    cases x with
    | none => rw [show _ = Value.none from e]; exact .none
    | some i =>
      obtain ⟨t, rfl⟩ := e
      exact .int i t
theorem row_of {pins : List (Addr × Obj)} {σ : L2.St} {H : Hp} {s : Shared} (I : L2.Inv X pins σ H s) {b : Addr} {r : Cells} (h : SqT X.K H b (cellVs r)) : RowIs s.heap r b := by
  obtain ⟨its, rv, ⟨o, h1, h2, n, h3⟩, _⟩ := I.tuple h
  exact .tup h1 h2 h3 (by simpa using cells_all rv)
theorem ref_vals : ∀ {ks : RowL} {us : List Value}, Vals (ks.map fun p => V.ref p.1) us → us = ks.map fun p => Value.ref p.1
  | [], _, .nil => rfl
  | p :: ks, _, .cons e q => by
    have e : _ = Value.ref p.1 := e
    rw [e, ref_vals q, List.map_cons]
/-- len(set(xs)) -/
def tLenSetR (K : PySem.W.Frag) (ta : TE) : TE := fun σ H Q => ta σ H fun x H1 => ∃ (l : Addr) (ks : RowL), x = .ref l ∧ SqL K H1 l (ks.map fun p => V.ref p.1) ∧ (∀ p ∈ ks, SqT K H1 p.1 (cellVs p.2)) ∧ ks.length < 64 ∧
  ∀ n : Nat, n ≤ ks.length → (n = ks.length ↔ (ks.map (·.2)).Nodup) → Q (.int (n : Int)) H1
theorem p_lenSetR {a : Expr} {ta : TE} {p p2 q pos : Pos} (K : PySem.W.Frag) (hK : X.K = K) (hu : X.A.units + 64 < cLine) (hc : X.calm = true) (hg : Gl X "len") (hm : X.mg "len" = none) (hg2 : Gl X "set") (hm2 : X.mg "set" = none) (ha : PE X a ta)
    (na : starEach [a] X.env = (false, eval a X.env) :: starEach [] X.env := by rfl) : PE X (.Call (.Name "len" p) [.Call (.Name "set" p2) [a] [] q] [] pos) (tLenSetR K ta) := by
  subst hK
  refine ⟨fun pins s σ H Q I h => Call_ (ld_blt I hg hm boot_len (PyProof.Rows.callWith_builtin1 (PyProof.Rows.args_cons ?_ rfl) rfl rfl))⟩
  refine Call_ (ld_blt I hg2 hm2 boot_set (PyProof.Rows.callWith_type1 (PyProof.Rows.args_cons (thn (ha.run pins s σ H _ I h) fun v s1 ⟨x, H1, I1, r1, q1⟩ => PyProof.Rows.args_nil ?_) na) na rfl))
  obtain ⟨l, ks, rfl, hq, hr, hz, q1⟩ := q1
  cases r1
  obtain ⟨its, rv, pl, _⟩ := I1.list hq
  refine set_of_rows (P := X.prog) (w := X.w) ks (I1.ok.hd hc) pl.isList (by simpa using ref_vals rv) (fun p hp => row_of I1 (hr p hp)) hz (by omega) fun h' tk L es ep t R g hk => PyProof.Rows.args_nil ?_
  obtain ⟨o, ho, hex, hd⟩ := R.obj
  have I2 : L2.Inv X pins σ H1 { s1 with heap := h', toks := tk } := I1.kept fun b o e => hk b o (Heap.lt_size e) e
  have sub : ∀ k ∈ L.map (·.2), k ∈ ks.map (·.2) := fun k hk => by
    obtain ⟨p, hp, rfl⟩ := List.mem_map.mp hk
    exact List.mem_map.mpr ⟨p, List.mem_of_mem_take (g.old p hp), rfl⟩
  have sup : ∀ k ∈ ks.map (·.2), k ∈ L.map (·.2) := fun k hk => by
    obtain ⟨p, hp, rfl⟩ := List.mem_map.mp hk
    exact g.all p (by rw [List.take_length]; exact hp)
  have iff := same_len R.once sub sup
  rw [List.length_map, List.length_map] at iff
  have sz := rows_size R.ents
  exact call_len_set ho hex hd (rows_fit R.ents R.tab (by have := R.free; omega)) (by rw [sz]; have := R.less; omega) ⟨.int ((L.length : Nat) : Int), H1, I2.tok _, ⟨_, by rw [sz]⟩, q1 _ g.len iff⟩
end
end Cn
set_option Elab.async false
set_option linter.all false
set_option maxRecDepth 100000
set_option maxHeartbeats 4000000
/-! sum(lists, start), start a list -/
namespace Cn
open PySem PySem.Spec PyProof.Rows L2
/-- a plain list, as the model has it -/
def PlainL (h : Heap) (a : Addr) (xs : List Value) : Prop := ∃ n, h.get? a = some { cls := .type "list", data := .seq xs.toArray n }
section
variable {P : Program} {w : World} {A : Around} {E : Value → Shared → Prop} {s : Shared}
theorem sum_lists {I S : Addr} {fp wr : List Addr} {G : Array GenState → Array GenState → Prop} {n : Nat} {Pv : Nat → Value → Prop} {St : Nat → Shared → Prop} {R : Result → Shared → Prop} (V : WalksS P w A.in1 I fp wr G n Pv St) (nS : S ∉ fp) (ls : List (Addr × List Value)) (hn : n = ls.length) (x0 : List Value) (c0 : Addr)
    (hv : ∀ i v, Pv i v → ∃ p, ls[i]? = some p ∧ v = .ref p.1) (h0 : Heap) (hs : ∀ p ∈ ls, PlainL h0 p.1 p.2) (hS : h0.get? S = none) (hw : ∀ b ∈ wr, h0.get? b = none) (hwS : ∀ b ∈ wr, b < S) (hz : x0.length + (ls.map fun p => p.2.length).sum ≤ 100000) :
    ∀ (m i : Nat) (s : Shared) (c : Addr) (xs : List Value) (q : Nat), n - i = m → i ≤ n → St i s → (∀ b o, h0.get? b = some o → s.heap.get? b = some o) → s.heap.get? S = some { cls := .type "list", data := .seq #[.ref c] q } → PlainL s.heap c xs → c ≠ S → c ∉ wr → xs = x0 ++ ((ls.take i).map (·.2)).flatten → ((i = 0 ∧ c = c0) ∨ S < c) →
      (∀ s' c' ys, Moved (S :: wr) G s s' → PlainL s'.heap c' ys → ys = x0 ++ (ls.map (·.2)).flatten → (∀ b o, h0.get? b = some o → s'.heap.get? b = some o) → ((n = 0 ∧ c' = c0) ∨ S < c') → R (.ok (.ret (.ref c'))) s') →
      codeAny (model P w) A (.builtin "sum.loop" ⟨[.ref I, .ref S, rawInt 2, rawInt 0], []⟩) R s := by
  have nW : S ∉ wr := fun z => nS (V.sub _ z)
  have up : ∀ b ∈ wr, b ∈ S :: wr := fun b z => List.mem_cons_of_mem _ z
  have old : ∀ {s s' : Shared}, Moved wr G s s' → (∀ b o, h0.get? b = some o → s.heap.get? b = some o) → ∀ b o, h0.get? b = some o → s'.heap.get? b = some o := fun mv k b o e => mv.heap b o (fun z => by rw [hw b z] at e; cases e) (k b o e)
  intro m
  induction m with
  | zero =>
    intro i s c xs q hm hi st hk hst hc ncS ncw ex cc hR
    obtain rfl : i = n := by omega
    refine codeAny_builtin F.entry_sum_loop ?_
    rw [Around.under_plainId F.plain_sum_loop _]
    show wpAny _ A.in1 (seqItems? (.ref S) >>= _) _ _ s
    refine wpAny_bind (wpAny_seqItems hst rfl ?_)
    show wpAny _ A.in1 (tryCatch (pyNext (.ref I)) _ >>= _) _ _ s
    refine wpAny_bind (wpAny_tryCatch (V.done s _ _ st fun s' mv => ?_))
    obtain ⟨nn, e⟩ := hc
    exact wpAny_pure (hR s' c xs (mv.mono up) ⟨nn, mv.heap c _ ncw e⟩ (by rw [ex, hn, List.take_length]) (old mv hk) cc)
  | succ m ih =>
    intro i s c xs q hm hi st hk hst hc ncS ncw ex cc hR
    have lt : i < n := by omega
    refine codeAny_builtin F.entry_sum_loop ?_
    rw [Around.under_plainId F.plain_sum_loop _]
    show wpAny _ A.in1 (seqItems? (.ref S) >>= _) _ _ s
    refine wpAny_bind (wpAny_seqItems hst rfl ?_)
    show wpAny _ A.in1 (tryCatch (pyNext (.ref I)) _ >>= _) _ _ s
    refine wpAny_bind (wpAny_tryCatch (V.item i s _ _ lt st fun v s' hP st' mv => ?_))
    obtain ⟨p, hp, rfl⟩ := hv i v hP
    have hk' := old mv hk
    have hS' := mv.heap S _ nW hst
    obtain ⟨n1, e1⟩ := hc
    have e1' := mv.heap c _ ncw e1
    obtain ⟨n2, e2⟩ := hs p (List.mem_of_getElem? hp)
    have e2' := hk' _ _ e2
    show wpAny _ A.in1 ((holding [Value.ref p.1] (binaryOp .Add (.ref c) (.ref p.1))).attempt >>= _) _ _ _
    have sp : (ls.map fun p => p.2.length).sum = ((ls.take i).map fun p => p.2.length).sum + ((ls.drop i).map fun p => p.2.length).sum := by
      rw [← List.sum_append, ← List.map_append, List.take_append_drop]
    have sd : p.2.length ≤ ((ls.drop i).map fun p => p.2.length).sum := by
      have e : ls.drop i = p :: ls.drop (i + 1) := by
        obtain ⟨z, rfl⟩ := List.getElem?_eq_some_iff.mp hp
        exact List.drop_eq_getElem_cons z
      rw [e, List.map_cons, List.sum_cons]; omega
    have sx : xs.length = x0.length + ((ls.take i).map fun p => p.2.length).sum := by
      rw [ex, List.length_append, List.length_flatten, List.map_map]; rfl
    have st1 : ls.take (i + 1) = ls.take i ++ [p] := by rw [List.take_add_one, hp]; rfl
    refine wpAny_bind (wpAny_attempt (wpAny_holding (PySem.P.add_list e1' e2' ?_ (by rw [List.size_toArray, List.size_toArray, sizeLine_eq]; omega))))
    have en : xs.toArray ++ p.2.toArray = (xs ++ p.2).toArray := by simp
    rw [en]
    generalize hD : s'.heap.objs.size = D
    have atD : (s'.heap.push { cls := .type "list", data := .seq (xs ++ p.2).toArray }).get? D = some { cls := .type "list", data := .seq (xs ++ p.2).toArray } := by rw [← hD]; exact Heap.get?_push_size _ rfl
    have keepD : ∀ b o, s'.heap.get? b = some o → (s'.heap.push { cls := .type "list", data := .seq (xs ++ p.2).toArray }).get? b = some o := fun b o e => Heap.get?_push_of_some _ e
    have nD : s'.heap.get? D = none := by
      cases z : s'.heap.get? D with
      | none => rfl
      | some o => exact absurd (Heap.lt_size z) (by rw [hD]; exact Nat.lt_irrefl _)
    have nDS : D ≠ S := fun z => by rw [z, hS'] at nD; cases nD
    generalize s'.heap.push { cls := .type "list", data := .seq (xs ++ p.2).toArray } = h1 at atD keepD ⊢
    show wpAny _ A.in1 (updateSeq S (fun _ => #[.ref D]) >>= _) _ _ _
    refine wpAny_bind (wpAny_updateSeq (keepD _ _ hS') rfl (wpAny_bind (wpAny_letGo ?_)))
    have hS2 := Heap.get?_update_self (Obj.mapSeq fun _ => #[Value.ref D]) (keepD _ _ hS') rfl
    have oth : ∀ b, b ≠ S → (h1.update S (Obj.mapSeq fun _ => #[Value.ref D])).get? b = h1.get? b := fun b hb => Heap.get?_update_other _ _ (fun h : S = b => hb h.symm)
    generalize h1.update S (Obj.mapSeq fun _ => #[Value.ref D]) = h2 at hS2 oth ⊢
    refine wpAny_bind (wpAny_updateSeq hS2 rfl (wpAny_pure ⟨plainId_quiet F.plain_sum_loop _, ?_⟩))
    have hS3 := Heap.get?_update_self (Obj.mapSeq fun _ => #[Value.ref D]) hS2 rfl
    have oth2 : ∀ b, b ≠ S → (h2.update S (Obj.mapSeq fun _ => #[Value.ref D])).get? b = h1.get? b := fun b hb => (Heap.get?_update_other _ _ (fun h : S = b => hb h.symm)).trans (oth b hb)
    generalize h2.update S (Obj.mapSeq fun _ => #[Value.ref D]) = h3 at hS3 oth2 ⊢
    have on : ∀ b o, b ≠ S → s'.heap.get? b = some o → h3.get? b = some o := fun b o hb e => (oth2 b hb).trans (keepD b o e)
    have k3 : ∀ b o, h0.get? b = some o → h3.get? b = some o := fun b o e => on b o (fun z => by rw [z, hS] at e; cases e) (hk' b o e)
    refine ih (i + 1) _ D (xs ++ p.2) _ (by omega) lt (V.frame _ s' _ _ st' (Nat.le_refl _) fun b z o e => on b o (fun q => nS (by rw [← q]; exact z)) e) k3 hS3 ⟨0, (oth2 D nDS).trans atD⟩ nDS (fun z => ?_) (by rw [ex, st1, List.map_append, List.flatten_append]; simp) (.inr (by have z2 := Heap.lt_size hS'; rw [hD] at z2; exact z2)) fun s2 c' ys mv2 h4 h5 h6 h7 => ?_
    · have z1 := hwS D z
      have z2 := Heap.lt_size hS'
      rw [hD] at z2
      exact absurd z1 (Nat.lt_asymm z2)
    · exact hR s2 c' ys (Moved.trans V.gtrans ((mv.mono up).then_heap (Nat.le_refl _) fun b o z e => on b o (fun q => z (by rw [q]; exact List.mem_cons_self)) e) mv2) h4 h5 h6 h7
theorem args_sum2 (a b : Value) : argsOk "sum" ⟨[a, b], []⟩ := by unfold argsOk; kernel_rfl
theorem call_sum_lists {l b : Addr} {its x0 : List Value} (ls : List (Addr × List Value)) {Q : Value → Shared → Prop} (hh : A.handled = none) (hl : PlainL s.heap l its) (hi : its = ls.map fun p => Value.ref p.1) (hb : PlainL s.heap b x0) (hs : ∀ p ∈ ls, PlainL s.heap p.1 p.2) (hz : x0.length + (ls.map fun p => p.2.length).sum ≤ 100000)
    (h : ∀ s' c ys, PlainL s'.heap c ys → ys = x0 ++ (ls.map (·.2)).flatten → (∀ b o, s.heap.get? b = some o → s'.heap.get? b = some o) → s'.gens = s.gens → s'.drawn = s.drawn → s'.os = s.os → ((ls = [] ∧ c = b) ∨ s.heap.objs.size ≤ c) → Q (.ref c) s') : wpAny (model P w) A (call (.builtin "sum") [.ref l, .ref b]) Q E s := by
  refine call_function_tree F.kind_sum F.plain_sum F.entry_sum (args_sum2 _ _) ?_
  unfold Builtin.«sum»
  simp only [List.length_cons, List.length_nil]
  rw [if_neg (by decide)]
  refine wpAny_bind (wpAny_of_eq (show Builtin.Builtins.bindParams "sum" ["start"] 0 { pos := [Value.ref b] } = pure [some (Value.ref b)] from rfl) ?_)
  obtain ⟨nl, e1⟩ := hl
  obtain ⟨nb, e2⟩ := hb
  have isl : s.heap.IsList l its.toArray := ⟨_, e1, rfl, nl, rfl⟩
  dsimp only
  refine wpAny_bind (wpAny_pyIter_list isl (wpAny_bind (wpAny_pure ?_)))
  have tb : Shared.TypeIs { s with heap := s.heap.push { cls := .type "list_iterator", data := .fields #[.ref l, .int 0 0] } } (.ref b) "list" := ⟨_, Heap.get?_push_of_some _ e2, rfl⟩
  simp only [List.forIn_cons, List.forIn_nil]
  refine wpAny_bind (wpAny_bind (wpAny_bind (wpAny_isInstance (T := "list") (b := false) tb F.sub_list_str (wp_if_neg Bool.false_ne_true (wpAny_pure ?_)))))
  refine wpAny_bind (wpAny_bind (wpAny_isInstance (T := "list") (b := false) tb F.sub_list_bytes (wp_if_neg Bool.false_ne_true (wpAny_pure ?_))))
  refine wpAny_bind (wpAny_bind (wpAny_isInstance (T := "list") (b := false) tb F.sub_list_bytearray (wp_if_neg Bool.false_ne_true (wpAny_pure (wpAny_pure ?_)))))
  refine wpAny_bind (wpAny_newObj_type ?_)
  have ltl := Heap.lt_size e1
  have isl1 := isl.push { cls := .type "list_iterator", data := .fields #[.ref l, .int 0 0] }
  have h3 : A.in1.handled = none := by simp [hh]
  generalize hS : ({ s with heap := s.heap.push { cls := .type "list_iterator", data := .fields #[.ref l, .int 0 0] } } : Shared).heap.objs.size = S
  have hS1 : S = s.heap.objs.size + 1 := by rw [← hS]; exact Heap.size_push ..
  have nI : l ≠ s.heap.objs.size := Nat.ne_of_lt ltl
  have none_of : ∀ b, s.heap.objs.size ≤ b → s.heap.get? b = none := fun b hb => by
    cases q : s.heap.get? b with
    | none => rfl
    | some o => exact absurd (Heap.lt_size q) (Nat.not_lt.mpr hb)
  have atS : ((s.heap.push { cls := .type "list_iterator", data := .fields #[.ref l, .int 0 0] }).push { cls := .type "list", data := .seq #[.ref b] }).get? S = some { cls := .type "list", data := .seq #[.ref b] } := by rw [← hS]; exact Heap.get?_push_size _ rfl
  have item : ∀ (i : Nat) (v : Value), its.toArray[i]? = some v → ∃ p, ls[i]? = some p ∧ v = .ref p.1 := fun i v e => by
    rw [List.getElem?_toArray, hi, List.getElem?_map, Option.map_eq_some_iff] at e
    obtain ⟨p, e1, e2⟩ := e
    exact ⟨p, e1, e2.symm⟩
  have ltb := Heap.lt_size e2
  have nbI : b ∉ [s.heap.objs.size] := fun z => Nat.ne_of_lt ltb (List.mem_singleton.mp z)
  have nbS : b ≠ S := by rw [hS1]; exact Nat.ne_of_lt (Nat.lt_succ_of_lt ltb)
  have nSf : S ∉ [s.heap.objs.size, l] := fun z => by
    rw [hS1] at z
    rcases List.mem_cons.mp z with e | e
    · exact Nat.succ_ne_self _ e
    · exact Nat.ne_of_gt (Nat.lt_succ_of_lt ltl) (List.mem_singleton.mp e)
  refine wpAny_pure ⟨plainId_quiet F.plain_sum_loop _, sum_lists ((Walks.list h3 _ l nI its.toArray).toS) (S := S) nSf ls (by rw [List.size_toArray, hi, List.length_map]) x0 b item s.heap hs (none_of _ (by omega)) (fun b hb => none_of b (by rw [List.mem_singleton.mp hb]; exact Nat.le_refl _)) (fun b hb => by rw [List.mem_singleton.mp hb, hS1]; exact Nat.lt_succ_self _) hz
    (its.toArray.size - 0) 0 _ b x0 0 (by omega) (Nat.zero_le _) ⟨⟨_, Heap.get?_push_of_some _ (Heap.get?_push_size _ rfl), rfl, rfl⟩, isl1.push _⟩ (fun c o e => Heap.get?_push_of_some _ (Heap.get?_push_of_some _ e)) atS ⟨nb, Heap.get?_push_of_some _ (Heap.get?_push_of_some _ e2)⟩ nbS nbI (by simp) (.inl ⟨rfl, rfl⟩) fun s' c' ys mv h4 h5 h6 h7 => ?_⟩
  exact h s' c' ys h4 h5 h6 mv.gens mv.drawn mv.os (h7.imp (fun z => ⟨by have := z.1; rw [List.size_toArray, hi, List.length_map] at this; exact List.length_eq_zero_iff.mp this, z.2⟩) fun z => by rw [hS1] at z; exact Nat.le_of_lt (Nat.lt_of_succ_lt z))
end
section
variable {X : Cx}
/-- sum(lists, start) -/
def rSumL (K : PySem.W.Frag) : List V → Hp → VK → Prop := fun vs H Q => ∃ (l b : Addr) (ls : List (Addr × List V)) (xs : List V), vs = [.ref l, .ref b] ∧ H l = some (.lst (ls.map fun p => V.ref p.1)) ∧ (∀ p ∈ ls, H p.1 = some (.lst p.2)) ∧ H b = some (.lst xs) ∧ xs.length + (ls.map fun p => p.2.length).sum ≤ 100000 ∧
  ∀ r H', But [] H H' → H' r = some (.lst (xs ++ (ls.map (·.2)).flatten)) → Q (.ref r) H'
theorem pd_lists {pins : List (Addr × Obj)} {σ : L2.St} {H : Hp} {s : Shared} (I : L2.Inv X pins σ H s) : ∀ {ls : List (Addr × List V)}, (∀ p ∈ ls, H p.1 = some (.lst p.2)) →
    ∃ vs : List (Addr × List Value), vs.map (·.1) = ls.map (·.1) ∧ (∀ p ∈ vs, PlainL s.heap p.1 p.2) ∧ (vs.map fun p => p.2.length) = (ls.map fun p => p.2.length) ∧ Vals (ls.map (·.2)).flatten (vs.map (·.2)).flatten
  | [], _ => ⟨[], rfl, (fun p hp => nomatch hp), rfl, .nil⟩
  | p :: ls, h => by
    obtain ⟨vs, h1, h2, h3, h4⟩ := pd_lists I fun q hq => h q (List.mem_cons_of_mem _ hq)
    obtain ⟨_, its, n, rv, hl, e⟩ := I.lstM (h p List.mem_cons_self)
    refine ⟨(p.1, its) :: vs, by rw [List.map_cons, List.map_cons, h1], fun q hq => ?_, by rw [List.map_cons, List.map_cons, h3, hl], rv.append h4⟩
    rcases List.mem_cons.mp hq with rfl | z
    · exact ⟨n, e⟩
    · exact h2 q z
theorem cr_sumL (K : PySem.W.Frag) (hK : X.K = K) (hc : X.calm = true) : CallR X (.builtin "sum") (rSumL K) := by
  subst hK
  intro pins s σ H vs us Q I r h
  obtain ⟨l, b, ls, xs, rfl, hl, hls, hb, hz, q⟩ := h
  obtain ⟨u1, u2, rfl, r1, r2⟩ := vals2 r
  cases (show u1 = Value.ref l from r1)
  cases (show u2 = Value.ref b from r2)
  obtain ⟨_, its, n, rv, _, e⟩ := I.lstM hl
  obtain ⟨_, its2, n2, rv2, hl2, e2⟩ := I.lstM hb
  obtain ⟨vs, h1, h2, h3, h4⟩ := pd_lists I hls
  have ei : its = vs.map fun p => Value.ref p.1 := by
    have z : ∀ {as : List Addr} {us : List Value}, Vals (as.map V.ref) us → us = as.map Value.ref := fun {as} => by
      induction as with
      | nil => intro us h; cases h; rfl
      | cons a as ih => intro us h; cases h with | cons e t => rw [ih t, show _ = Value.ref a from e]; rfl
    have z2 := z (as := ls.map (·.1)) (by rw [List.map_map]; exact rv)
    rw [z2, ← h1, List.map_map]; rfl
  refine call_sum_lists vs (I.ok.hd hc) ⟨n, e⟩ ei ⟨n2, e2⟩ h2 (by rw [h3, ← hl2]; exact hz) fun s' c ys g1 g2 g3 g4 g5 g6 g7 => ?_
  have rr : Vals (xs ++ (ls.map (·.2)).flatten) ys := by rw [g2]; exact rv2.append h4
  have lz : (xs ++ (ls.map (·.2)).flatten).length ≤ sizeLine := by
    rw [List.length_append, List.length_flatten, List.map_map, sizeLine_eq]
    exact Nat.le_trans hz (by decide)
  obtain ⟨nn, g1⟩ := g1
  obtain ⟨hh, gg, dd, tt, oo⟩ := s'
  have g4 : gg = s.gens := g4
  have g5 : dd = s.drawn := g5
  have g6 : oo = s.os := g6
  subst g4; subst g5; subst g6
  rcases g7 with ⟨z, rfl⟩ | cc
  · have z2 : ls = [] := by
      have := congrArg List.length h1
      rw [z, List.length_map] at this
      exact List.length_eq_zero_iff.mp (by rw [← List.length_map (f := (·.1))]; exact this.symm)
    subst z2
    exact ⟨.ref c, H, I.kept (t' := tt) g3, rfl, q c H But.refl (by rw [hb]; simp)⟩
  · have nc : H c = none := I.hok.fresh cc
    exact ⟨.ref c, _, I.laid (t' := tt) (o := .lst (xs ++ (ls.map (·.2)).flatten)) g3 cc ⟨lz, ys, nn, rr, g1⟩, rfl, q c _ (newB nc) upd_same⟩
end
end Cn
set_option Elab.async false
set_option linter.all false
set_option maxRecDepth 100000
set_option maxHeartbeats 2000000
/-! Cn.B24: enumerate over a tuple. -/
namespace Cn
open PySem PySem.Spec PyProof.Rows L2
/-- a new enumerate over what an iterator begins at -/
theorem new_enum1 {v : Value} {o : Obj} {G : Heap → Prop} (B : Begins v o G) : Meets (Builtin.«enumerate.__new__» ⟨[.type "enumerate", v], []⟩) (fun _ R s => G s.heap ∧ R (.ok (.ret (.ref (s.heap.push o).objs.size))) { s with heap := (s.heap.push o).push { cls := .type "enumerate", data := .fields #[.none, .bool false, .ref s.heap.objs.size, rawInt 0, .none, .none] } }) :=
  .of_wp fun prog w A R s h => by
    obtain ⟨hp, g, d, tk, os⟩ := s
    obtain ⟨hG, hR⟩ := h
    have sub := sub_enumerate
    have go : ∀ {A' : Around} {E Q : Value → Shared → Prop}, Q (.ref hp.objs.size) ⟨hp.push o, g, d, tk, os⟩ → wpAny (model prog w) A' (pyIter v) Q E ⟨hp, g, d, tk, os⟩ := fun q => B.iter prog w _ _ ⟨hp, g, d, tk, os⟩ _ hG q
    wp_walk using go
    refine wpAny_stack_any fun st => wpAny_pure ?_
    split
    · rename_i c _ _ _ _ _
      cases (c == Value.type "enumerate") <;> (wp_walk using go; exact ⟨_, rfl, hR⟩)
    · wp_walk using go
      exact ⟨_, rfl, hR⟩
section
variable {prog : Program} {w : World} {A : Around} {E : Value → Shared → Prop} {s : Shared}
/-- enumerate(t): two new cells -/
theorem enum_tup {l : Addr} {items : Array Value} {Q : Value → Shared → Prop} (hL : s.heap.IsTuple l items) (h : ∀ h', IsEnum h' (s.heap.objs.size + 1) s.heap.objs.size 0 .none → h'.IsTupleIter s.heap.objs.size l 0 → (∀ b o, s.heap.get? b = some o → h'.get? b = some o) → Q (.ref (s.heap.objs.size + 1)) { s with heap := h' }) :
    wpAny (model prog w) A (call (.type "enumerate") [.ref l]) Q E s := by
  refine callType_new F.called_enumerate (by decide) (F.typeCall_enumerate_1 _) (F.newCall_enumerate_1 _) (fun obj => F.args_object_init_2 obj _) F.entry_enumerate_new (new_enum1 (begins_tuple l items)) ⟨hL, ?_⟩
  generalize ho : ({ cls := .type "tuple_iterator", data := .fields #[.ref l, .int 0 0] } : Obj) = o
  have fo : o.isFreed = false := by rw [← ho]; rfl
  have g1 : (s.heap.push o).get? s.heap.objs.size = some o := Heap.get?_push_size _ fo
  have z1 : (s.heap.push o).objs.size = s.heap.objs.size + 1 := Heap.size_push ..
  generalize hu : ({ cls := .type "enumerate", data := .fields #[.none, .bool false, .ref s.heap.objs.size, rawInt 0, .none, .none] } : Obj) = u
  have fu : u.isFreed = false := by rw [← hu]; rfl
  have g2 : ((s.heap.push o).push u).get? (s.heap.push o).objs.size = some u := Heap.get?_push_size _ fu
  rw [z1] at g2
  have ge : IsEnum ((s.heap.push o).push u) (s.heap.objs.size + 1) s.heap.objs.size 0 .none := by
    unfold IsEnum
    rw [g2, ← hu]
  show _ ∧ _
  rw [z1]
  refine ⟨⟨_, ge, rfl⟩, h _ ge ⟨o, Heap.get?_push_of_some _ g1, by rw [← ho], by rw [← ho]; rfl⟩ fun b q hb => Heap.get?_push_of_some _ (Heap.get?_push_of_some _ hb)⟩
end
theorem ne_ti {h : Heap} {it a : Addr} {i : Nat} {xs : Array Value} (hi : h.IsTupleIter it a i) (ht : h.IsTuple a xs) : a ≠ it := fun z => by
  obtain ⟨o, ho, hc, _⟩ := hi
  obtain ⟨p, hp, hd, _⟩ := ht
  rw [z, ho] at hp
  cases hp
  rw [hc] at hd
  revert hd
  decide
/-- nothing is left of a tuple -/
theorem drawn_out {prog : Program} {w : World} {A : Around} (hh : A.handled = none) {it a : Addr} (la : a ≠ it) {xs : Array Value} {i : Nat} (hi : xs.size ≤ i) : Draws prog w A it [it, a] i (fun _ _ => False) (fun j h => j = i ∧ h.IsTupleIter it a i ∧ h.IsTuple a xs) where
  live := fun _ _ ⟨_, ⟨o, ho, _⟩, _⟩ => ⟨o, ho⟩
  frame := fun _ _ _ ⟨e, h1, h2⟩ k => ⟨e, h1.at fun o q => k it (by simp) o q, h2.at fun o q => k a (by simp) o q⟩
  item := fun j _ _ _ hj ⟨e, _⟩ _ => absurd e (Nat.ne_of_lt hj)
  done := fun s _ _ ⟨_, h1, h2⟩ hE => wpAny_nextOf_tuple_end hh h1 h2 (by simp; omega) hE
/-- the tuple at a as it stands at each turn, each item in a new pair -/
def IteT (K : PySem.W.Frag) (a : Addr) : It :=
  ⟨fun i H => ∃ (xs : List V) (x : V), SqT K H a xs ∧ xs[i]? = some x, fun i H v H' => ∃ T x, v = .ref T ∧ H T = none ∧ H' = upd H T (.tup [.int (i : Nat), x]) ∧ ∀ xs, SqT K H a xs → xs[i]? = some x, fun i H => ∃ xs : List V, SqT K H a xs ∧ xs.length ≤ i⟩
theorem turn_enumT {P : Program} {w : World} {K : PySem.W.Frag} {elts : List Expr} {kk : Nat} {tpos : Pos} (a e it : Addr) :
    Turn P w K (.Tuple elts kk tpos) (IteT K a) [e, it] e (fun i h => (∃ old, IsEnum h e it ((i : Nat) : Int) old) ∧ h.IsTupleIter it a i ∧ e ≠ it ∧ a ≠ e) where
  mem := by simp
  obj := fun i h ⟨⟨old, he⟩, ⟨o, ho, hc, hd⟩, _⟩ b hb => by
    simp only [List.mem_cons, List.not_mem_nil, or_false] at hb
    rcases hb with rfl | rfl
    · exact ⟨_, he, fun v q => nomatch q⟩
    · exact ⟨o, ho, fun v q => by rw [hd] at q; cases q⟩
  keep := fun i h h' ⟨⟨old, he⟩, hi, hne, hae⟩ k => ⟨⟨old, k e (by simp) _ he⟩, hi.at fun o q => k it (by simp) o q, hne, hae⟩
  item := by
    intro X eP ew eK hc i pins s σ H E I hf ⟨⟨old, he⟩, hit, hne, hae⟩ ⟨xs, x, hq, hx⟩
    subst eP ew eK
    obtain ⟨its, rv, p, hz⟩ := I.tuple hq
    have pt : s.heap.IsTuple a its.toArray := p
    obtain ⟨u, hu, ru⟩ := rv.get hx
    have la : a ≠ it := ne_ti hit pt
    have l1 : e < s.heap.objs.size := Heap.lt_size he
    have l2 : it < s.heap.objs.size := by obtain ⟨_, q, _⟩ := hit; exact Heap.lt_size q
    have iu : i < its.length := (List.getElem?_eq_some_iff.mp hu).1
    refine wpAny_pyNext_enum_itemD (Draws.tuple (A := X.A.in1) (I.ok.hd hc) it a la its.toArray) he ⟨hit, pt⟩ (by simpa using iu) hne (by simp [hne, Ne.symm hae]) fun y h' tk hy ho ⟨hit', _⟩ hT hsz hk => ?_
    have ey : y = u := by
      have hy : its.toArray[i]? = some y := hy
      rw [List.getElem?_toArray, hu] at hy
      exact (Option.some.inj hy).symm
    subst ey
    refine ⟨_, rfl, wpAny_letOwnedTupleGo_enum (s := { s with heap := h', toks := tk + 1 }) ho fun h2 he2 sb => ?_⟩
    have hT2 : h2.get? s.heap.objs.size = some { cls := .type "tuple", data := .seq #[.int i tk, y] } := (sb.2 _ (Nat.ne_of_gt l1)).trans hT
    have new : ObjOk X.prog X.w (upd H s.heap.objs.size (.tup [.int (i : Nat), x])) h2 s.heap.objs.size (.tup [.int (i : Nat), x]) := ⟨by show 2 ≤ sizeLine; decide, [.int i tk, y], .cons ⟨_, rfl⟩ (.cons ru .nil), ⟨_, hT2, rfl, _, rfl⟩⟩
    have I1 : Inv X pins σ (upd H s.heap.objs.size (.tup [.int (i : Nat), x])) { s with heap := h2, toks := tk + 1 } :=
      I.turnedNew (ch := [e, it]) (fun b ob hb q => (sb.2 b fun z => hb (by simp [z])).trans (hk b ob (fun z => hb (by simp [z])) (fun z => hb (by simp [z])) q)) hf (Nat.le_refl _) new
    refine ⟨.ref s.heap.objs.size, _, I1, rfl, ⟨_, x, rfl, I.hok.fresh (Nat.le_refl _), rfl, fun ys hy => by rw [I.tuple_inj hy hq]; exact hx⟩, ⟨⟨y, ?_⟩, hit'.at fun o q => (sb.2 it (Ne.symm hne)).trans q, hne, hae⟩, fun b hb => ?_⟩
    · have e1 : ((i + 1 : Nat) : Int) = (i : Int) + 1 := by omega
      rw [e1]; exact he2
    · have lb : b < s.heap.objs.size := by
        simp only [List.mem_cons, List.not_mem_nil, or_false] at hb
        rcases hb with z | z <;> (rw [z]; assumption)
      rw [upd_ne (Nat.ne_of_lt lb)]
      exact (hf b hb).1
  done := by
    intro X eP ew eK hc i pins s σ H E I hf ⟨⟨old, he⟩, hit, hne, hae⟩ ⟨xs, hq, hx⟩
    subst eP ew eK
    obtain ⟨its, rv, p, hz⟩ := I.tuple hq
    have pt : s.heap.IsTuple a its.toArray := p
    have la : a ≠ it := ne_ti hit pt
    obtain ⟨f0, f1, f2, f3, f4, f5⟩ := hf it (by simp)
    have hl := rv.length
    have ei : its.toArray.size ≤ i := by simp; omega
    exact wpAny_pyNext_enum_endD (drawn_out (A := X.A.in1) (I.ok.hd hc) la ei) he ⟨rfl, hit, pt⟩ fun h' eb => ⟨rfl, I.turned (t' := s.toks) (fun b o hb q => eb b o hb q) f0 f1 f3 f4 f5⟩
  self := fun A i s Q E ⟨⟨_, he⟩, _⟩ h => wpAny_pyIter_enum he h
def iEnumT (K : PySem.W.Frag) (ta : TA) : TI := fun σ H R => ta σ H fun vs H1 => ∃ a xs, vs = [.ref a] ∧ SqT K H1 a xs ∧ R (IteT K a) H1
theorem pi_enumT {X : Cx} {e : Expr} {ta : TA} {p pos tpos : Pos} {elts : List Expr} {kk : Nat} (hg : Gl X "enumerate") (hm : X.mg "enumerate" = none) (ha : PA X [e] ta) (hs : starEach [e] X.env = [(false, eval e X.env)] := by rfl) :
    PI X (.Tuple elts kk tpos) (.Call (.Name "enumerate" p) [e] [] pos) (iEnumT X.K ta) := by
  refine ⟨fun pins s σ H R I h => Call_ (ld_blt I hg hm boot_enumerate (PyProof.Rows.callWith_type1 (thn (ha.run pos pins s σ H _ I h) fun us s1 ⟨vs, H1, I1, r1, a, xs, ex, hq, q⟩ => ?_) hs rfl))⟩
  subst ex
  obtain ⟨u, rfl, ru⟩ := vals1 r1
  cases (show u = Value.ref a from ru)
  obtain ⟨its, rv, pt, hz⟩ := I1.tuple hq
  refine enum_tup (show s1.heap.IsTuple a its.toArray from pt) fun h' he hit hk => wpAny_pyIter_enum he ?_
  have I2 : Inv X pins σ H1 { s1 with heap := h' } := I1.kept (t' := s1.toks) hk
  have la : a < s1.heap.objs.size := by obtain ⟨o, ho, _⟩ := pt; exact Heap.lt_size ho
  refine ⟨s1.heap.objs.size + 1, [s1.heap.objs.size + 1, s1.heap.objs.size], _, _, H1, rfl, I2, turn_enumT a (s1.heap.objs.size + 1) s1.heap.objs.size, ⟨⟨.none, he⟩, hit, Nat.succ_ne_self _, Nat.ne_of_lt (Nat.lt_succ_of_lt la)⟩, fun b hb => ?_, q⟩
  have hle : s1.heap.objs.size ≤ b := by
    simp only [List.mem_cons, List.not_mem_nil, or_false] at hb
    rcases hb with z | z
    · rw [z]; exact Nat.le_succ _
    · rw [z]; exact Nat.le_refl _
  exact I1.fpOk hle (I1.hok.fresh hle)
theorem pi_enumTK {X : Cx} (K : PySem.W.Frag) (hK : X.K = K) {e : Expr} {ta : TA} {p pos tpos : Pos} {elts : List Expr} {kk : Nat} (hg : Gl X "enumerate") (hm : X.mg "enumerate" = none) (ha : PA X [e] ta) (hs : starEach [e] X.env = [(false, eval e X.env)] := by rfl) :
    PI X (.Tuple elts kk tpos) (.Call (.Name "enumerate" p) [e] [] pos) (iEnumT K ta) := by
  subst hK
  exact pi_enumT hg hm ha hs
theorem walk_enumT {K : PySem.W.Frag} {a : Addr} {xs : List V} : Walk (IteT K a) xs.length (fun H => SqT K H a xs) (YPair (fun i => some (.int (i : Nat))) (fun i => xs[i]?)) :=
  ⟨fun i _ hi q => ⟨xs, xs[i], q, by simp [hi]⟩, fun _ q => ⟨xs, q, Nat.le_refl _⟩, fun i H v H' _ q ⟨T, x, h1, h2, h3, h4⟩ => ⟨T, .int (i : Nat), x, h1, h2, h3, rfl, h4 xs q⟩⟩
end Cn
set_option Elab.async false
set_option linter.all false
set_option maxRecDepth 100000
set_option maxHeartbeats 2000000
/-! Cn.M10: reports as plain functions over lists of signs. -/
namespace Cn
open PySem L2
abbrev Col := T × T
structure Rep where
  name : T
  aliases : List (T × T)
  links : List (Col × Col)
  filters : List (Col × Nat)
  groups : List Col
  measure : Option T
  deriving DecidableEq
def kReport : T := [114, 101, 112, 111, 114, 116, 32]
def kFrom : T := [32, 32, 102, 114, 111, 109, 32]
def kJoin : T := [32, 32, 106, 111, 105, 110, 32]
def kLink : T := [32, 32, 108, 105, 110, 107, 32]
def kWhere : T := [32, 32, 119, 104, 101, 114, 101, 32]
def kBy : T := [32, 32, 98, 121, 32]
def kSum : T := [32, 32, 115, 117, 109, 32]
def kRows : T := [32, 32, 114, 111, 119, 115]
def kEq : T := [61]
def isNumber (w : T) : Bool := decide (1 ≤ w.length) && (decide (w.length ≤ 10) && ((w.all fun c => decide (48 ≤ c) && decide (c ≤ 57)) && ((TL.numL (NumText.digitsVal w) == w) && decide (NumText.digitsVal w ≤ 1000000000))))
/-- a text at the first sign c -/
def cutAt (c : Nat) : T → T × T
  | [] => ([], [])
  | x :: r => if x == c then ([], r) else (x :: (cutAt c r).1, (cutAt c r).2)
def optCols (t : Tbl) : List T := (t.refs.filter fun r => !r.2.2).flatMap (·.1)
def tabOf (ts : List Tbl) (n : T) : Option Tbl := ts.find? fun t => t.name == n
def aliasOf (ts : List Tbl) (al : List (T × T)) (a : T) : Option Tbl := match al.find? fun p => p.1 == a with
  | some p => tabOf ts p.2
  | none => none
def colOf (ts : List Tbl) (al : List (T × T)) (w : T) : Option Col := match aliasOf ts al (cutAt 46 w).1 with
  | some t => if t.cols.contains (cutAt 46 w).2 then some ((cutAt 46 w).1, (cutAt 46 w).2) else none
  | none => none
section
variable (L : List T) (ts : List Tbl)
def aliasLoop : Nat → Nat → List (T × T) → Except Nat (List (T × T) × Nat)
  | 0, n, al => .ok (al, n)
  | f + 1, n, al =>
    if al.isEmpty || begins L n kJoin then
      match words L n (if al.isEmpty then kFrom else kJoin) with
      | none => .error n
      | some ws =>
        if ws.length == 2 && (ts.map (·.name)).contains (ws.getD 0 []) then
          if isName (ws.getD 1 []) && !(al.map (·.1)).contains (ws.getD 1 []) then
            if al.length + 1 ≤ 4 then aliasLoop f (n + 1) (al ++ [(ws.getD 1 [], ws.getD 0 [])]) else .error n
          else .error n
        else .error n
    else .ok (al, n)
variable (al : List (T × T))
def linkLoop : Nat → Nat → List (Col × Col) → Except Nat (List (Col × Col) × Nat)
  | 0, n, ls => .ok (ls, n)
  | f + 1, n, ls =>
    if begins L n kLink then
      match words L n kLink with
      | none => .error n
      | some ws =>
        if ws.length == 3 && ws.getD 1 [] == kEq then
          match colOf ts al (ws.getD 0 []), colOf ts al (ws.getD 2 []) with
          | some a, some b => if ls.length + 1 ≤ 20 then linkLoop f (n + 1) (ls ++ [(a, b)]) else .error n
          | _, _ => .error n
        else .error n
    else .ok (ls, n)
def filterLoop : Nat → Nat → List (Col × Nat) → Except Nat (List (Col × Nat) × Nat)
  | 0, n, fs => .ok (fs, n)
  | f + 1, n, fs =>
    if begins L n kWhere then
      match words L n kWhere with
      | none => .error n
      | some ws =>
        if ws.length == 3 && (ws.getD 1 [] == kEq && isNumber (ws.getD 2 [])) then
          match colOf ts al (ws.getD 0 []) with
          | some a => if fs.length + 1 ≤ 5 then filterLoop f (n + 1) (fs ++ [(a, NumText.digitsVal (ws.getD 2 []))]) else .error n
          | none => .error n
        else .error n
    else .ok (fs, n)
def groupLoop : Nat → Nat → List Col → Except Nat (List Col × Nat)
  | 0, n, gs => .ok (gs, n)
  | f + 1, n, gs =>
    if begins L n kBy then
      match words L n kBy with
      | none => .error n
      | some ws =>
        match colOf ts al (ws.headD []) with
        | some a =>
          if ws.length == 1 && !gs.contains a then
            if ((aliasOf ts al a.1).map fun t => (optCols t).contains a.2) == some false then
              if gs.length + 1 ≤ 3 then groupLoop f (n + 1) (gs ++ [a]) else .error n
            else .error n
          else .error n
        | none => .error n
    else .ok (gs, n)
def readMeasure (n : Nat) (t : Tbl) : Except Nat (Option T × Nat) :=
  if begins L n kSum then
    match words L n kSum with
    | none => .error n
    | some ws => if ws.length == 1 && (t.cols.contains (ws.headD []) && !(optCols t).contains (ws.headD [])) then .ok (some (ws.headD []), n + 1) else .error n
  else if exactly L n kRows then .ok (none, n + 1) else .error n
end
def parseRep (L : List T) (ts : List Tbl) : Except Nat Rep :=
  match newName L 0 kReport [] with
  | .error e => .error e
  | .ok name =>
    match aliasLoop L ts 5 1 [] with
    | .error e => .error e
    | .ok (al, n1) =>
      match linkLoop L ts al 21 n1 [] with
      | .error e => .error e
      | .ok (ls, n2) =>
        match filterLoop L ts al 6 n2 [] with
        | .error e => .error e
        | .ok (fs, n3) =>
          match groupLoop L ts al 4 n3 [] with
          | .error e => .error e
          | .ok (gs, n4) =>
            match tabOf ts ((al.map (·.2)).headD []) with
            | none => .error n4
            | some t =>
              match readMeasure L n4 t with
              | .error e => .error e
              | .ok (me, n5) => if exactly L n5 kEnd then (if n5 + 1 == L.length then .ok ⟨name, al, ls, fs, gs, me⟩ else .error (n5 + 1)) else .error n5
def colW (c : Col) : T := c.1 ++ ([46] ++ c.2)
def aliasRow (first : Bool) (p : T × T) : T := (if first then kFrom else kJoin) ++ (p.2 ++ ([32] ++ p.1))
def linkRow (l : Col × Col) : T := kLink ++ (colW l.1 ++ ([32, 61, 32] ++ colW l.2))
def filterRow (f : Col × Nat) : T := kWhere ++ (colW f.1 ++ ([32, 61, 32] ++ TL.numL f.2))
def groupRow (c : Col) : T := kBy ++ colW c
def aliasRows : List (T × T) → List T
  | [] => []
  | p :: r => aliasRow true p :: r.map (aliasRow false)
def repRows (r : Rep) : List T := [kReport ++ r.name] ++ (aliasRows r.aliases ++ (r.links.map linkRow ++ (r.filters.map filterRow ++ (r.groups.map groupRow ++ [match r.measure with
  | none => kRows
  | some m => kSum ++ m] ++ [kEnd]))))
def repText (r : Rep) : T := joinT [10] (repRows r)
end Cn
set_option Elab.async false
set_option linter.all false
set_option maxRecDepth 100000
set_option maxHeartbeats 2000000
/-! Cn.B25: what reports need: in over nested data, numbers' texts, a text at its first dot. -/
namespace Cn
open PySem PySem.Spec PyProof.Rows L2
theorem hu1 {k : Nat} {A : Around} (hr : Room k A) : A.units + 1 < cLine := by have := hr.units; omega
theorem hu64 {k : Nat} {A : Around} (hr : Room k A) : A.units + 64 < cLine := by have := hr.units; omega
section
variable {X : Cx}
def rNotInT (K : PySem.W.Frag) : R2 := fun x y H Q => ∃ d ds, Dp K H x d ∧ Dp K H y (.tuple ds) ∧ d.canLay0 = true ∧ PyData.canLayAll0 ds = true ∧ min (PyData.depthAll ds) d.depth ≤ 8 ∧ Q (.bl (!ds.any fun z => PyData.eqv z d)) H
theorem op_notInDTK (K : PySem.W.Frag) (hK : X.K = K) (hu : X.A.units + 64 < cLine) : OpR X (compareOp .NotIn) (rNotInT K) := by
  subst hK
  intro pins s σ H x y v u Q I rx ry h
  obtain ⟨d, ds, hd, he, sd, se, sm, q⟩ := h
  obtain ⟨as, r1⟩ := Dp.reads I d x v hd rx
  obtain ⟨bs, r2⟩ := Dp.reads I (.tuple ds) y u he ry
  exact SeqAt.notIn_tuple_reads r2 r1 se sd (by omega) ⟨.bl _, H, I, rfl, q⟩
def rNotInL (K : PySem.W.Frag) : R2 := fun x y H Q => ∃ d ds, Dp K H x d ∧ Dp K H y (.list ds) ∧ d.canLay0 = true ∧ PyData.canLayAll0 ds = true ∧ min (PyData.depthAll ds) d.depth ≤ 8 ∧ Q (.bl (!ds.any fun z => PyData.eqv z d)) H
theorem op_notInDK (K : PySem.W.Frag) (hK : X.K = K) (hu : X.A.units + 64 < cLine) : OpR X (compareOp .NotIn) (rNotInL K) := by
  subst hK
  intro pins s σ H x y v u Q I rx ry h
  obtain ⟨d, ds, hd, he, sd, se, sm, q⟩ := h
  obtain ⟨as, r1⟩ := Dp.reads I d x v hd rx
  obtain ⟨bs, r2⟩ := Dp.reads I (.list ds) y u he ry
  exact SeqAt.notIn_list_reads r2 r1 se sd (by omega) ⟨.bl _, H, I, rfl, q⟩
end
theorem pg_tupQ {X : Cx} (K : PySem.W.Frag) (hK : X.K = K) {es : List Expr} {k : Nat} {t : TGs} {n : Nat} {pos : Pos} (hc : X.calm = true) (h : PGs X es t) (hn : (assignEach es X.env).length = n := by rfl) (hst : (assignEach es X.env).findIdx? (·.1) = none := by rfl) :
    PG X (.Tuple es k pos) (gTup K n t) := by subst hK; exact pg_tup hc h hn hst
/-! ### numbers -/
theorem str_numL (n : Nat) : Str.ofString (toString ((n : Nat) : Int)) = S (TL.numL n) := S_eq _ (TL.tl_num n)
theorem int_of {w : T} (h : (w.all fun c => decide (48 ≤ c) && decide (c ≤ 57)) = true) (h1 : w ≠ []) (h2 : w.length ≤ 640) : PySem.intText? (S w) = some ((NumText.digitsVal w : Nat) : Int) := by
  have e : (S w).cps.toList = w := tl_S w
  have a : NumText.AllDigits w := fun c hc => by
    have := List.all_eq_true.mp h c hc
    rw [Bool.and_eq_true, decide_eq_true_eq, decide_eq_true_eq] at this
    exact this
  have := PySem.intText_digits (x := S w) (by rw [e]; exact a) (by rw [e]; exact h1) (by rw [S_len]; omega)
  rw [e] at this
  exact this
theorem digits_fold : ∀ (w : T) (acc : Nat), (w.all fun c => decide (48 ≤ c) && decide (c ≤ 57)) = true → w.foldl (fun acc c => acc * 10 + (c - 48)) acc < (acc + 1) * 10 ^ w.length
  | [], acc, _ => by simp
  | c :: w, acc, h => by
    rw [List.all_cons, Bool.and_eq_true, Bool.and_eq_true, decide_eq_true_eq, decide_eq_true_eq] at h
    have ih := digits_fold w (acc * 10 + (c - 48)) h.2
    have h2 : (acc * 10 + (c - 48) + 1) * 10 ^ w.length ≤ (acc + 1) * 10 * 10 ^ w.length := Nat.mul_le_mul_right _ (by omega)
    rw [List.foldl_cons, List.length_cons, Nat.pow_succ, Nat.mul_comm (10 ^ w.length) 10, ← Nat.mul_assoc]
    omega
theorem digits_lt (w : T) (h : (w.all fun c => decide (48 ≤ c) && decide (c ≤ 57)) = true) : NumText.digitsVal w < 10 ^ w.length := by
  have := digits_fold w 0 h
  rw [Nat.zero_add, Nat.one_mul] at this
  exact this
/-! ### the first dot -/
theorem cutAt_app {c : Nat} {b : T} : ∀ {a : T}, c ∉ a → cutAt c (a ++ c :: b) = (a, b)
  | [], _ => by simp [cutAt]
  | x :: a, h => by
    have h1 : (x == c) = false := beq_eq_false_iff_ne.mpr fun z => h (by rw [z]; simp)
    have ih := cutAt_app (b := b) (a := a) fun z => h (List.mem_cons_of_mem _ z)
    show (if (x == c) = true then _ else _) = _
    rw [if_neg (by rw [h1]; exact Bool.false_ne_true)]
    show (x :: (cutAt c (a ++ c :: b)).1, (cutAt c (a ++ c :: b)).2) = _
    rw [ih]
theorem cutAt_none {c : Nat} : ∀ {a : T}, c ∉ a → cutAt c a = (a, [])
  | [], _ => rfl
  | x :: a, h => by
    have h1 : (x == c) = false := beq_eq_false_iff_ne.mpr fun z => h (by rw [z]; simp)
    have ih := cutAt_none (a := a) fun z => h (List.mem_cons_of_mem _ z)
    show (if (x == c) = true then _ else _) = _
    rw [if_neg (by rw [h1]; exact Bool.false_ne_true), ih]
theorem split_dot (w : T) : ∃ m, Txt.partition (S w) (S [46]) = (S (cutAt 46 w).1, S m, S (cutAt 46 w).2) := by
  have ey : TL.tl (S [46]) = 46 :: [] := rfl
  by_cases h : 46 ∈ w
  · obtain ⟨a, b, rfl, ha⟩ := List.eq_append_cons_of_mem h
    rw [cutAt_app ha]
    refine ⟨[46], ?_⟩
    have e := TL.partition_app (y := S [46]) ey (a := S a) (b := S b) ha
    rw [S_app, S_app] at e
    have e2 : a ++ [46] ++ b = a ++ 46 :: b := by simp
    rw [e2] at e
    exact e
  · rw [cutAt_none h]
    exact ⟨[], TL.partition_none (y := S [46]) ey (a := S w) h⟩
theorem sq_guard {tt : TT} {x u : TS} {D : Ends} {σ : L2.St} {H : Hp} (c : Bool) (h : ∀ Q' : Bool → Hp → Prop, (∀ H', But [] H H' → Q' c H') → tt σ H Q') (ky : c = true → ∀ H', But [] H H' → x { D with nx := u D } σ H') (kn : c = false → ∀ H', But [] H H' → u D σ H') : tSeq (tIfS tt x tNext) u D σ H :=
  h _ fun H' b => by
    cases c with
    | true => exact iteT (ky rfl H' b)
    | false => exact iteF (kn rfl H' b)
theorem if_guard {tt : TT} {x : TS} {D : Ends} {σ : L2.St} {H : Hp} (c : Bool) (h : ∀ Q' : Bool → Hp → Prop, (∀ H', But [] H H' → Q' c H') → tt σ H Q') (ky : c = true → ∀ H', But [] H H' → x D σ H') (kn : c = false → ∀ H', But [] H H' → D.nx σ H') : tIfS tt x tNext D σ H :=
  h _ fun H' b => by
    cases c with
    | true => exact iteT (ky rfl H' b)
    | false => exact iteF (kn rfl H' b)
end Cn
set_option Elab.async false
set_option linter.all false
set_option maxRecDepth 100000
set_option maxHeartbeats 2000000
/-! dicts of cells -/
namespace Cn
open PySem L2
theorem call_dictPX {X : Cx} (K : PySem.W.Frag) (hK : X.K = K) (hc : X.calm = true) : CallR X (.type "dict") (fun xs H Q => ∃ (a : Addr) (ps : List Addr) (kvs : List (Key × V)), xs = [.ref a] ∧ SqL K H a (ps.map V.ref) ∧ Paired (fun p kv => SqT K H p [kV kv.1, kv.2]) ps kvs ∧
    ∀ p, H p = none → Q (.ref p) (upd H p (.dK (mergeK [] kvs)))) := by subst hK; exact call_dictP hc
def CellOk : Option Int → Prop
  | none => True
  | some i => 0 ≤ i ∧ i ≤ 1000000000
/-- a column and its cell, as a pair -/
def PrR (H : Hp) (v : V) (p : T × Option Int) : Prop := ∃ q, v = .ref q ∧ H q = some (.tup [sv p.1, cellV p.2])
theorem PrR.fix {CR : Addr} {H H' : Hp} (f : Fix CR H H') {v : V} {p : T × Option Int} (r : PrR H v p) : PrR H' v p := let ⟨a, e, z⟩ := r; ⟨a, e, f a _ z trivial⟩
theorem PrR.upd {H : Hp} {D : Addr} {xs : List V} {o : HO} (h : H D = some (.lst xs)) {v : V} {p : T × Option Int} (r : PrR H v p) : PrR (upd H D o) v p := by
  obtain ⟨a, e, z⟩ := r
  exact ⟨a, e, by rw [upd_ne fun q => by rw [q, h] at z; cases z]; exact z⟩
def pkv (p : T × Option Int) : Key × V := (.inr (S p.1), cellV p.2)
theorem pairs_pkv {K : PySem.W.Frag} {H : Hp} : ∀ {va : List V} {al : List (T × Option Int)}, Each (PrR H) va al → ∃ ps : List Addr, va = ps.map V.ref ∧ Paired (fun p kv => SqT K H p [kV kv.1, kv.2]) ps (al.map pkv)
  | [], [], _ => ⟨[], rfl, .nil⟩
  | [], _ :: _, h => by have := h.1; simp at this
  | _ :: _, [], h => by have := h.1; simp at this
  | v :: va, p :: al, h => by
    obtain ⟨a, rfl, e⟩ := h.2 0 v p rfl rfl
    obtain ⟨ps, e1, e2⟩ := pairs_pkv (K := K) (H := H) (va := va) (al := al) ⟨by have := h.1; simpa using this, fun i x y p q => h.2 (i + 1) x y (by simpa using p) (by simpa using q)⟩
    exact ⟨a :: ps, by rw [e1]; rfl, .cons (SqT.of e) e2⟩
/-- a dict of cells: each of the columns has one -/
def CellsD (H : Hp) (d : Addr) (cols : List T) : Prop := ∃ kvs : List (Key × V), H d = some (.dK kvs) ∧ kvs.length ≤ 1000 ∧ ∀ c ∈ cols, ∃ x, valV kvs (.inr (S c)) = some (cellV x) ∧ CellOk x
theorem merge_len : ∀ (more acc : List (Key × V)), (mergeK acc more).length ≤ acc.length + more.length
  | [], acc => by unfold mergeK; exact Nat.le_refl _
  | x :: more, acc => by
    have h := merge_len more (putK acc x.1 x.2)
    have h2 := length_putK acc x.1 x.2
    unfold mergeK at h ⊢
    rw [List.foldl_cons, List.length_cons]
    omega
theorem merge_cells {cols : List T} : ∀ {al : List (T × Option Int)} {acc : List (Key × V)}, (∀ p ∈ al, CellOk p.2) → (∀ c ∈ cols, c ∈ al.map (·.1) ∨ ∃ x, valV acc (.inr (S c)) = some (cellV x) ∧ CellOk x) → ∀ c ∈ cols, ∃ x, valV (mergeK acc (al.map pkv)) (.inr (S c)) = some (cellV x) ∧ CellOk x
  | [], acc, _, h => fun c hc => by
    rcases h c hc with z | z
    · simp at z
    · exact z
  | p :: al, acc, ho, h => by
    have ih := merge_cells (cols := cols) (al := al) (acc := putK acc (.inr (S p.1)) (cellV p.2)) (fun q hq => ho q (List.mem_cons_of_mem _ hq)) fun c hc => by
      by_cases e : c = p.1
      · refine .inr ⟨p.2, ?_, ho p List.mem_cons_self⟩
        rw [valV_put, if_pos (by rw [e])]
      · rcases h c hc with z | ⟨x, z1, z2⟩
        · rw [List.map_cons, List.mem_cons] at z
          rcases z with z | z
          · exact absurd z e
          · exact .inl z
        · refine .inr ⟨x, ?_, z2⟩
          rw [valV_put, if_neg fun q => e (S_inj (Sum.inr.inj q))]
          exact z1
    unfold mergeK at ih ⊢
    rw [List.map_cons, List.foldl_cons]
    exact ih
theorem put_old {kvs : List (Key × V)} {k : Key} {v x : V} (h : valV kvs k = some x) : (putK kvs k v).length = kvs.length := by
  unfold putK
  rw [valV_any, h]
  simp
theorem CellsD.keep {H H' : Hp} {d : Addr} {cols : List T} (h : CellsD H d cols) (f : ∀ o, H d = some o → H' d = some o) : CellsD H' d cols := let ⟨kvs, e, z⟩ := h; ⟨kvs, f _ e, z⟩
theorem CellsD.put {H : Hp} {d : Addr} {cols : List T} (h : CellsD H d cols) {c : T} (hc : c ∈ cols) {y : Option Int} (hy : CellOk y) : ∃ H', DPut H d (sv c) (cellV y) H' ∧ But [d] H H' ∧ CellsD H' d cols := by
  obtain ⟨kvs, e, hl, z⟩ := h
  refine ⟨_, .inl ⟨kvs, .inr (S c), e, rfl, by rw [sizeLine_eq]; omega, rfl⟩, But.refl.put (by simp), putK kvs (.inr (S c)) (cellV y), upd_same, ?_, fun c' hc' => ?_⟩
  · obtain ⟨x, h1, _⟩ := z c hc
    rw [put_old h1]; exact hl
  · obtain ⟨x, h1, h2⟩ := z c' hc'
    rw [valV_put]
    by_cases q : (Sum.inr (S c') : Key) = .inr (S c)
    · rw [if_pos q]; exact ⟨y, rfl, hy⟩
    · rw [if_neg q]; exact ⟨x, h1, h2⟩
theorem CellsD.get {H : Hp} {d : Addr} {cols : List T} (h : CellsD H d cols) {c : T} (hc : c ∈ cols) : ∃ x, DGet H d (sv c) (some (cellV x)) ∧ CellOk x := by
  obtain ⟨kvs, e, _, z⟩ := h
  obtain ⟨x, h1, h2⟩ := z c hc
  exact ⟨x, .inl ⟨kvs, .inr (S c), Rd.of e, rfl, h1.symm⟩, h2⟩
end Cn
set_option Elab.async false
set_option linter.all false
set_option maxRecDepth 100000
set_option maxHeartbeats 2000000
/-! rows as data; databases as dicts of lists of rows -/
namespace Cn
open PySem L2
/-- a row, as a tuple -/
def RowV (H : Hp) (v : V) (r : Cells) : Prop := ∃ q, v = .ref q ∧ H q = some (.tup (cellVs r))
theorem RowV.fix {CR : Addr} {H H' : Hp} (f : Fix CR H H') {v : V} {r : Cells} (h : RowV H v r) : RowV H' v r := let ⟨a, e, z⟩ := h; ⟨a, e, f a _ z trivial⟩
theorem RowV.upd {H : Hp} {D : Addr} {xs : List V} {o : HO} (h : H D = some (.lst xs)) {v : V} {r : Cells} (z : RowV H v r) : RowV (upd H D o) v r := by
  obtain ⟨a, e, z⟩ := z
  exact ⟨a, e, by rw [upd_ne fun q => by rw [q, h] at z; cases z]; exact z⟩
def cellD : Option Int → PyData
  | none => .none
  | some i => .int i
def rowD (r : Cells) : PyData := .tuple (r.map cellD)
theorem dp_cells {K : PySem.W.Frag} {H : Hp} : ∀ r : Cells, DpAll K H (cellVs r) (r.map cellD)
  | [] => .nil
  | none :: r => .cons .non (dp_cells r)
  | some i :: r => .cons (.int i) (dp_cells r)
theorem RowV.dp {K : PySem.W.Frag} {H : Hp} {v : V} {r : Cells} (h : RowV H v r) : Dp K H v (rowD r) := by
  obtain ⟨q, rfl, e⟩ := h
  exact .tup (SqT.of e) (dp_cells r)
theorem lay_cells : ∀ r : Cells, PyData.canLayAll0 (r.map cellD) = true ∧ PyData.depthAll (r.map cellD) = 0
  | [] => ⟨by simp [PyData.canLayAll0], by simp [PyData.depthAll]⟩
  | x :: r => by
    obtain ⟨h1, h2⟩ := lay_cells r
    cases x <;> exact ⟨by simp [PyData.canLayAll0, PyData.canLay0, cellD, h1], by simp [PyData.depthAll, PyData.depth, cellD, h2]⟩
theorem lay_row (r : Cells) : (rowD r).canLay0 = true ∧ (rowD r).depth = 1 := by
  obtain ⟨h1, h2⟩ := lay_cells r
  exact ⟨by simp [rowD, PyData.canLay0, h1], by simp [rowD, PyData.depth, h2]⟩
theorem lay_rows : ∀ rs : List Cells, PyData.canLayAll0 (rs.map rowD) = true
  | [] => by simp [PyData.canLayAll0]
  | r :: rs => by simp [PyData.canLayAll0, (lay_row r).1, lay_rows rs]
theorem eqv_cell (x y : Option Int) : PyData.eqv (cellD x) (cellD y) = decide (x = y) := by
  cases x with
  | none =>
    cases y with
    | none => rfl
    | some j => exact (decide_eq_false (fun h => nomatch h)).symm
  | some i =>
    cases y with
    | none => exact (decide_eq_false (fun h => nomatch h)).symm
    | some j =>
      show (i == j) = _
      rw [Bool.eq_iff_iff, beq_iff_eq, decide_eq_true_iff]
      exact ⟨fun h => by rw [h], fun h => Option.some.inj h⟩
theorem eqv_cells : ∀ a b : Cells, PyData.eqvAll (a.map cellD) (b.map cellD) = decide (a = b)
  | [], [] => rfl
  | [], _ :: _ => rfl
  | _ :: _, [] => rfl
  | x :: a, y :: b => by
    show (PyData.eqv (cellD x) (cellD y) && PyData.eqvAll (a.map cellD) (b.map cellD)) = _
    rw [eqv_cells a b, eqv_cell, Bool.eq_iff_iff, Bool.and_eq_true, decide_eq_true_iff, decide_eq_true_iff, decide_eq_true_iff, List.cons.injEq]
theorem eqv_row (a b : Cells) : PyData.eqv (rowD a) (rowD b) = decide (a = b) := eqv_cells a b
theorem any_row (r : Cells) : ∀ rs : List Cells, ((rs.map rowD).any fun z => PyData.eqv z (rowD r)) = decide (r ∈ rs)
  | [] => rfl
  | x :: rs => by
    rw [List.map_cons, List.any_cons, eqv_row, any_row r rs, Bool.eq_iff_iff, Bool.or_eq_true, decide_eq_true_iff, decide_eq_true_iff, decide_eq_true_iff, List.mem_cons]
    exact ⟨fun h => h.imp Eq.symm id, fun h => h.imp Eq.symm id⟩
theorem dp_rows {K : PySem.W.Frag} {H : Hp} : ∀ {vs : List V} {rs : List Cells}, Each (RowV H) vs rs → DpAll K H vs (rs.map rowD) := fun {vs rs} h => dpAll_of (fun _ _ z => RowV.dp z) h
/-- a list of rows at l -/
def RwsAt (H : Hp) (l : Addr) (rows : List Cells) : Prop := ∃ vs, H l = some (.lst vs) ∧ Each (RowV H) vs rows
theorem RwsAt.keep {H H' : Hp} {l : Addr} {rows : List Cells} (b : But [] H H') (h : RwsAt H l rows) : RwsAt H' l rows := let ⟨vs, e, z⟩ := h; ⟨vs, b.at e, z.mono fun _ _ q => q.fix (CR := 0) b.fix0⟩
/-- a database: a dict from names to lists of rows, each list its own -/
structure DbR (H : Hp) (d : Addr) (es : List (T × Addr × List Cells)) : Prop where
  at_ : H d = some (.dK (es.map fun e => (.inr (S e.1), .ref e.2.1)))
  rows : ∀ e ∈ es, RwsAt H e.2.1 e.2.2
  apart : (es.map (·.2.1)).Nodup
theorem DbR.keep {H H' : Hp} {d : Addr} {es : List (T × Addr × List Cells)} (b : But [] H H') (h : DbR H d es) : DbR H' d es := ⟨b.at h.at_, fun e he => (h.rows e he).keep b, h.apart⟩
theorem RwsAt.keepL {H H' : Hp} {l a : Addr} {ys : List V} {rows : List Cells} (b : But [a] H H') (ha : H a = some (.lst ys)) (n : l ≠ a) (h : RwsAt H l rows) : RwsAt H' l rows := let ⟨vs, e, z⟩ := h
  ⟨vs, b.at1 e n, z.mono fun _ _ q => q.fix (CR := 0) (b.fix fun x m o e i => by rw [List.mem_singleton.mp m, ha] at e; cases e; exact i)⟩
theorem DbR.keepL {H H' : Hp} {d a : Addr} {ys : List V} {es : List (T × Addr × List Cells)} (b : But [a] H H') (ha : H a = some (.lst ys)) (n : ∀ e ∈ es, e.2.1 ≠ a) (h : DbR H d es) : DbR H' d es :=
  ⟨b.at1 h.at_ (fun z => by have := h.at_; rw [z, ha] at this; cases this), fun e he => (h.rows e he).keepL b ha (n e he), h.apart⟩
theorem RwsAt.keepD {H H' : Hp} {l a : Addr} {ys : List (Key × V)} {rows : List Cells} (b : But [a] H H') (ha : H a = some (.dK ys)) (h : RwsAt H l rows) : RwsAt H' l rows := let ⟨vs, e, z⟩ := h
  ⟨vs, b.at1 e (fun q => by rw [q, ha] at e; cases e), z.mono fun _ _ q => q.fix (CR := 0) (b.fix fun x m o e i => by rw [List.mem_singleton.mp m, ha] at e; cases e; exact i)⟩
theorem valV_es {n : T} : ∀ {es : List (T × Addr × List Cells)}, n ∉ es.map (·.1) → valV (es.map fun e => ((.inr (S e.1) : Key), V.ref e.2.1)) (.inr (S n)) = none
  | [], _ => rfl
  | e :: es, h => by
    rw [List.map_cons, List.mem_cons, not_or] at h
    rw [List.map_cons, valV_neg (fun q => h.1 (S_inj (Sum.inr.inj q)).symm)]
    exact valV_es h.2
theorem valV_at {n : T} : ∀ {es : List (T × Addr × List Cells)} {e : T × Addr × List Cells}, (es.map (·.1)).Nodup → e ∈ es → valV (es.map fun e => ((.inr (S e.1) : Key), V.ref e.2.1)) (.inr (S e.1)) = some (.ref e.2.1)
  | x :: es, e, nd, h => by
    rw [List.map_cons] at nd ⊢
    rcases List.mem_cons.mp h with rfl | z
    · exact valV_pos rfl
    · rw [valV_neg (fun q => (List.nodup_cons.mp nd).1 (by rw [S_inj (Sum.inr.inj q)]; exact List.mem_map.mpr ⟨e, z, rfl⟩))]
      exact valV_at (n := n) (List.nodup_cons.mp nd).2 z
end Cn
set_option Elab.async false
set_option linter.all false
set_option maxRecDepth 100000
set_option maxHeartbeats 2000000
/-! types of data; what is a cell, a row, a list of rows -/
namespace Cn
open PySem L2
def dty : PyData → String
  | .none => "NoneType"
  | .bool _ => "bool"
  | .int _ => "int"
  | .str _ => "str"
  | .list _ => "list"
  | .tuple _ => "tuple"
  | .dict _ => "dict"
def subTy (t c : String) : Bool := t == c || (t == "bool" && c == "int")
theorem kit_ty {K : PySem.W.Frag} (d : PyData) {c : String} (hc : c ∈ ["int", "bool", "tuple", "list", "dict"]) : PySem.W.kitOne K (.type (dty d)) (.type c) = some (subTy (dty d) c) := by
  simp only [List.mem_cons, List.not_mem_nil, or_false] at hc
  cases d <;> rcases hc with rfl | rfl | rfl | rfl | rfl <;> (unfold dty; kernel_rfl)
theorem Dp.ty {K : PySem.W.Frag} {H : Hp} {v : V} {d : PyData} (h : Dp K H v d) : TyX K H v (.type (dty d)) := by
  cases h with
  | non => exact .base .non
  | bl b => exact .base (.bl b)
  | int i => exact .base (.int i)
  | str x => exact .base (.str x)
  | lst hs _ =>
    rcases hs with (e | ⟨o, e⟩) | ⟨o, its, n, e, c, _⟩
    · exact .base (.lst e)
    · exact .base (.frz e)
    · exact .kList e c
  | tup hs _ =>
    rcases hs with (e | ⟨o, e⟩) | ⟨o, its, n, e, c, _⟩
    · exact .base (.tup e)
    · exact .fTuple e
    · exact .kTuple e c
mutual
theorem dp_later {K : PySem.W.Frag} {H H' : Hp} (b : But [] H H') : ∀ {v : V} {d : PyData}, Dp K H v d → Dp K H' v d
  | _, _, .non => .non
  | _, _, .bl x => .bl x
  | _, _, .int i => .int i
  | _, _, .str x => .str x
  | _, _, .lst h hs => .lst (sql_keep b h) (dps_later b hs)
  | _, _, .tup h hs => .tup (sqt_keep b h) (dps_later b hs)
theorem dps_later {K : PySem.W.Frag} {H H' : Hp} (b : But [] H H') : ∀ {vs : List V} {ds : List PyData}, DpAll K H vs ds → DpAll K H' vs ds
  | _, _, .nil => .nil
  | _, _, .cons h hs => .cons (dp_later b h) (dps_later b hs)
end
theorem dps_len {K : PySem.W.Frag} {H : Hp} : ∀ {vs : List V} {ds : List PyData}, DpAll K H vs ds → vs.length = ds.length
  | _, _, .nil => rfl
  | _, _, .cons _ h => by rw [List.length_cons, List.length_cons, dps_len h]
theorem dps_at {K : PySem.W.Frag} {H : Hp} : ∀ {vs : List V} {ds : List PyData}, DpAll K H vs ds → ∀ {i : Nat} {v : V}, vs[i]? = some v → ∃ d, ds[i]? = some d ∧ Dp K H v d
  | _, _, .nil, i, v, e => by simp at e
  | _, _, .cons h hs, i, v, e => by
    cases i with
    | zero => cases e; exact ⟨_, rfl, h⟩
    | succ i => exact dps_at hs (i := i) (by simpa using e)
/-- data, or a new empty dict -/
def RowA (K : PySem.W.Frag) (H : Hp) (v : V) (d : PyData) : Prop := Dp K H v d ∨ (∃ a, v = .ref a ∧ H a = some (.dK [])) ∧ d = .dict []
/-- that, or a list of such -/
def RowsA (K : PySem.W.Frag) (H : Hp) (v : V) (d : PyData) : Prop := RowA K H v d ∨ ∃ a xs ds, v = .ref a ∧ H a = some (.lst xs) ∧ Each (RowA K H) xs ds ∧ d = .list ds
theorem RowA.later {K : PySem.W.Frag} {H H' : Hp} {v : V} {d : PyData} (b : But [] H H') (h : RowA K H v d) : RowA K H' v d := h.imp (dp_later b) fun ⟨⟨a, e, z⟩, q⟩ => ⟨⟨a, e, b.at z⟩, q⟩
theorem RowsA.later {K : PySem.W.Frag} {H H' : Hp} {v : V} {d : PyData} (b : But [] H H') (h : RowsA K H v d) : RowsA K H' v d := h.imp (RowA.later b) fun ⟨a, xs, ds, e, z, ez, q⟩ => ⟨a, xs, ds, e, b.at z, ez.mono fun _ _ => RowA.later b, q⟩
theorem RowA.ty {K : PySem.W.Frag} {H : Hp} {v : V} {d : PyData} (h : RowA K H v d) : TyX K H v (.type (dty d)) := by
  rcases h with h | ⟨⟨a, rfl, e⟩, rfl⟩
  · exact Dp.ty h
  · exact .base (.dK e)
theorem RowsA.ty {K : PySem.W.Frag} {H : Hp} {v : V} {d : PyData} (h : RowsA K H v d) : TyX K H v (.type (dty d)) := by
  rcases h with h | ⟨a, xs, ds, rfl, e, _, rfl⟩
  · exact h.ty
  · exact .base (.lst e)
theorem isi {K : PySem.W.Frag} {H : Hp} {v : V} {d : PyData} {c : String} {Q : VK} (h : TyX K H v (.type (dty d))) (hc : c ∈ ["int", "bool", "tuple", "list", "dict"]) (q : Q (.bl (subTy (dty d) c)) H) : rIsi K [v, .ty c] H Q :=
  ⟨v, .ty c, _, _, _, rfl, .ty c, h, kit_ty d hc, q⟩
def cellB : PyData → Bool
  | .none => true
  | .int i => decide (0 ≤ i) && decide (i ≤ 1000000000)
  | _ => false
def toCell : PyData → Option Int
  | .int i => some i
  | _ => none
def toCells : PyData → Cells
  | .tuple ds => ds.map toCell
  | _ => []
def rowB (n : Nat) : PyData → Bool
  | .tuple ds => (ds.length == n) && ds.all cellB
  | _ => false
def rowsB (n : Nat) : PyData → Bool
  | .list ds => ds.all (rowB n) && decide ((ds.map toCells).Nodup)
  | _ => false
theorem cells_of {K : PySem.W.Frag} {H : Hp} : ∀ {vs : List V} {ds : List PyData}, DpAll K H vs ds → ds.all cellB = true → vs = cellVs (ds.map toCell) ∧ (ds.map toCell).map cellD = ds ∧ ∀ x ∈ ds.map toCell, CellOk x
  | _, _, .nil, _ => ⟨rfl, rfl, by simp⟩
  | _, _, .cons (v := v) (d := d) h hs, hb => by
    rw [List.all_cons, Bool.and_eq_true] at hb
    obtain ⟨h1, h2, h3⟩ := cells_of hs hb.2
    have hc : v = cellV (toCell d) ∧ cellD (toCell d) = d ∧ CellOk (toCell d) := by
      have hb := hb.1
      cases h with
      | non => exact ⟨rfl, rfl, trivial⟩
      | int i =>
        unfold cellB at hb
        rw [Bool.and_eq_true, decide_eq_true_eq, decide_eq_true_eq] at hb
        exact ⟨rfl, rfl, hb⟩
      | bl b => cases hb
      | str x => cases hb
      | lst _ _ => cases hb
      | tup _ _ => cases hb
    refine ⟨by rw [List.map_cons]; unfold cellVs; rw [List.map_cons, hc.1, h1]; rfl, by rw [List.map_cons, List.map_cons, hc.2.1, h2], fun x hx => ?_⟩
    rw [List.map_cons] at hx
    rcases List.mem_cons.mp hx with rfl | z
    · exact hc.2.2
    · exact h3 x z
/-- a row that is one: a tuple of cells -/
theorem rowA_of {K : PySem.W.Frag} {H : Hp} {n : Nat} {v : V} {d : PyData} (h : RowA K H v d) (hb : rowB n d = true) : ∃ a, v = .ref a ∧ SqT K H a (cellVs (toCells d)) ∧ d = rowD (toCells d) ∧ (toCells d).length = n ∧ ∀ x ∈ toCells d, CellOk x := by
  rcases h with h | ⟨_, rfl⟩
  · cases h with
    | tup hs hd =>
      unfold rowB at hb
      rw [Bool.and_eq_true, beq_iff_eq] at hb
      obtain ⟨h1, h2, h3⟩ := cells_of hd hb.2
      subst h1
      exact ⟨_, rfl, hs, by unfold toCells rowD; rw [h2], by unfold toCells; rw [List.length_map]; exact hb.1, h3⟩
    | _ => cases hb
  · cases hb
theorem RowsA.list {K : PySem.W.Frag} {H : Hp} {v : V} {ds : List PyData} (h : RowsA K H v (.list ds)) : ∃ a xs, v = .ref a ∧ SqL K H a xs ∧ xs.length = ds.length ∧ ∀ (i : Nat) u, xs[i]? = some u → ∃ d, ds[i]? = some d ∧ RowA K H u d := by
  rcases h with (h | ⟨_, h⟩) | ⟨a, xs, ds', rfl, e, he, hd⟩
  · cases h with
    | lst hs hds => exact ⟨_, _, rfl, hs, dps_len hds, fun i u hu => let ⟨d, h1, h2⟩ := dps_at hds hu; ⟨d, h1, .inl h2⟩⟩
  · cases h
  · cases hd
    exact ⟨a, xs, rfl, SqL.of e, he.1, fun i u hu => he.at hu⟩
theorem rows_ks {K : PySem.W.Frag} {H : Hp} {n : Nat} : ∀ {xs : List V} {ds : List PyData}, xs.length = ds.length → (∀ (i : Nat) u, xs[i]? = some u → ∃ d, ds[i]? = some d ∧ RowA K H u d) → ds.all (rowB n) = true → ∃ ks : RowL, xs = ks.map (fun p => V.ref p.1) ∧ ks.map (·.2) = ds.map toCells ∧ ∀ p ∈ ks, SqT K H p.1 (cellVs p.2)
  | [], [], _, _, _ => ⟨[], rfl, rfl, by simp⟩
  | [], _ :: _, h, _, _ => by simp at h
  | _ :: _, [], h, _, _ => by simp at h
  | x :: xs, d :: ds, hl, h, hb => by
    rw [List.all_cons, Bool.and_eq_true] at hb
    obtain ⟨d', e, hr⟩ := h 0 x rfl
    cases e
    obtain ⟨a, rfl, hs, _⟩ := rowA_of hr hb.1
    obtain ⟨ks, h1, h2, h3⟩ := rows_ks (xs := xs) (ds := ds) (by simpa using hl) (fun i u hu => h (i + 1) u (by simpa using hu)) hb.2
    refine ⟨(a, toCells d) :: ks, by rw [h1]; rfl, by rw [List.map_cons, List.map_cons, h2], fun p hp => ?_⟩
    rcases List.mem_cons.mp hp with rfl | z
    · exact hs
    · exact h3 p z
end Cn
set_option Elab.async false
set_option linter.all false
set_option maxRecDepth 100000
set_option maxHeartbeats 2000000
/-! dicts whose keys are texts, ints, None and tuples of such: finding -/
namespace Cn
open PySem PySem.Spec PyProof.Rows L2
abbrev NK := NestedKey
def entN (w : World) (x : NK × Value × Value) : DictEntry := { hash := x.1.hash w, key := x.2.1, val := x.2.2 }
def DictN (w : World) (h : Heap) (d : Addr) (xs : List (NK × Value × Value)) : Prop := ∃ o es ep, h.get? d = some o ∧ o.ExactDict ∧ o.data = .dict es ep ∧ es.toList = xs.map (entN w)
def KeysN (h : Heap) (xs : List (NK × Value × Value)) : Prop := (∀ x ∈ xs, NestedIs h x.1 x.2.1 ∧ x.1.depth ≤ 8) ∧ (xs.map (·.1)).Nodup
section
variable {P : Program} {w : World} {A : Around} {E : Value → Shared → Prop} {s : Shared}
theorem hash_N {k : NK} {v : Value} {Q : Int → Shared → Prop} (hA : A.units + 8 < cLine) (hk : NestedIs s.heap k v) (h8 : k.depth ≤ 8) (q : ∀ tk, Q (k.hash w) { heap := s.heap, gens := s.gens, drawn := s.drawn, toks := tk, os := s.os }) : wpAny (model P w) A (pyHash v) Q E s :=
  pyHash_key k v A s Q hk (by omega) (q _)
theorem eq_N {x y : NK} {u v : Value} {Q : Bool → Shared → Prop} (hA : A.units + 8 < cLine) (hx : NestedIs s.heap x u) (hy : NestedIs s.heap y v) (h8 : x.depth ≤ 8) (q : Q (decide (x = y)) s) : wpAny (model P w) A (eqBool u v) Q E s :=
  eqAt_key x y A s _ _ hx hy (by omega) _ _ _ _ (by rw [← NestedKey.decide_eq]; exact q)
theorem quiet_N {k : NK} {v : Value} {Q : Bool → Shared → Prop} (hk : NestedIs s.heap k v) (h8 : k.depth ≤ 8) (q : Q true s) : wpAny (model P w) A (eqIsQuiet 8 v) Q E s := quiet_key k v 8 s hk h8 A E Q q
theorem tells_N {xs : List (NK × Value)} {k : NK} {v : Value} {Q : Bool → Shared → Prop} (hk : NestedIs s.heap k v) (h8 : k.depth ≤ 8) (hx : ∀ x ∈ xs, NestedIs s.heap x.1 x.2 ∧ x.1.depth ≤ 8) (q : Q false s) : wpAny (model P w) A (tableMayTell v (xs.map (·.2))) Q E s := by
  unfold tableMayTell
  by_cases h0 : (xs.map (·.2)).isEmpty = true
  · rw [if_pos h0]; exact wpAny_pure q
  · rw [if_neg h0]
    refine wpAny_bind (quiet_N hk h8 ?_)
    rw [if_neg (by decide)]
    refine wpAny_bind (wpAny_forIn_list _ (fun rest b s' => s' = s ∧ b.1 = none ∧ ∀ u ∈ rest, ∃ k', NestedIs s.heap k' u ∧ k'.depth ≤ 8) _ (fun u rest b s' ⟨e, hb, hr⟩ => ?_) (fun b s' ⟨e, hb, _⟩ => ?_) _ _ ⟨rfl, rfl, fun u hu => ?_⟩)
    · obtain ⟨x, hx2, rfl⟩ := List.mem_map.mp hu
      exact ⟨x.1, hx x hx2⟩
    · subst e
      obtain ⟨k', hk', h8'⟩ := hr u List.mem_cons_self
      refine wpAny_bind (quiet_N hk' h8' ?_)
      rw [if_neg (by decide)]
      exact wpAny_pure ⟨rfl, rfl, fun u2 hu2 => hr u2 (List.mem_cons_of_mem _ hu2)⟩
    · subst e
      dsimp only
      rw [hb]
      exact wpAny_pure q
theorem stored_N {es : Array DictEntry} {xs : List (NK × Value × Value)} (he : es.toList = xs.map (entN w)) (hx : ∀ x ∈ xs, NestedIs s.heap x.1 x.2.1 ∧ x.1.depth ≤ 8) (pl : List Nat) : ∃ ys : List (NK × Value), pl.filterMap (fun i => Option.map (fun x => x.key) es[i]?) = ys.map (·.2) ∧ ∀ y ∈ ys, NestedIs s.heap y.1 y.2 ∧ y.1.depth ≤ 8 := by
  induction pl with
  | nil => exact ⟨[], rfl, fun y h => nomatch h⟩
  | cons i r ih =>
    obtain ⟨ys, e, h⟩ := ih
    rw [List.filterMap_cons]
    cases q : es[i]? with
    | none => exact ⟨ys, e, h⟩
    | some en =>
      rw [← Array.getElem?_toList, he, List.getElem?_map, Option.map_eq_some_iff] at q
      obtain ⟨x, h1, rfl⟩ := q
      refine ⟨(x.1, x.2.1) :: ys, ?_, fun y hy => ?_⟩
      · show _ :: _ = _
        rw [e]; rfl
      · rcases List.mem_cons.mp hy with rfl | z
        · exact hx x (List.mem_of_getElem? h1)
        · exact h y z
/-- looking a key up; some other key is no text, or it is none itself -/
theorem find_N {d : Addr} {o : Obj} {es : Array DictEntry} {ep : Nat} {xs : List (NK × Value × Value)} {k : NK} {v : Value} {Q : Option Nat → Shared → Prop} (hA : A.units + 8 < cLine) (hk : NestedIs s.heap k v) (h8 : k.depth ≤ 8) (ho : s.heap.get? d = some o) (hd : o.data = .dict es ep) (he : es.toList = xs.map (entN w)) (hx : ∀ x ∈ xs, NestedIs s.heap x.1 x.2.1 ∧ x.1.depth ≤ 8)
    (nd : (xs.map (·.1)).Nodup) (odd : (∃ x ∈ xs, ∀ z, x.1 ≠ .text z) ∨ ∀ z, k ≠ .text z) (hn : (∀ (j : Nat) p, xs[j]? ≠ some (k, p)) → Q none s) (hs : ∀ (j : Nat) p, xs[j]? = some (k, p) → Q (some j) s) : wpAny (model P w) A (dictFind d v (k.hash w)) Q E s := by
  have hat : ∀ (i : Nat) (e : DictEntry), es[i]? = some e → ∃ x, xs[i]? = some x ∧ e = entN w x := fun i e h => by
    rw [← Array.getElem?_toList, he, List.getElem?_map, Option.map_eq_some_iff] at h
    obtain ⟨x, h1, h2⟩ := h
    exact ⟨x, h1, h2.symm⟩
  unfold dictFind
  refine wpAny_holding (wpAny_bind (wpAny_dictEntries ho hd ?_))
  generalize hp : placesWithHash es.size (fun i => Option.map (fun x => x.hash) es[i]?) (k.hash w) = places
  have mp : ∀ i, i ∈ places ↔ ∃ e, es[i]? = some e ∧ e.hash = k.hash w := fun i => by rw [← hp]; exact mem_places
  have ndp : places.Nodup := by rw [← hp]; exact List.nodup_range.sublist List.filter_sublist
  have good : ∀ (j : Nat) p, xs[j]? = some (k, p) → j ∈ places := fun j p h => (mp j).mpr ⟨entN w (k, p), by rw [← Array.getElem?_toList, he, List.getElem?_map, h]; rfl, rfl⟩
  obtain ⟨ys, ey, hy⟩ := stored_N he hx places
  have one : ∀ (i : Nat), i ∈ places → ∃ x, es[i]? = some (entN w x) ∧ xs[i]? = some x ∧ (entN w x).hash = k.hash w := fun i hi => by
    obtain ⟨e, h1, h2⟩ := (mp i).mp hi
    obtain ⟨x, h3, rfl⟩ := hat i e h1
    exact ⟨x, h1, h3, h2⟩
  have uniq : ∀ (i j : Nat) (p q : Value × Value), xs[i]? = some (k, p) → xs[j]? = some (k, q) → i = j := fun i j p q h1 h2 => by
    have e1 : (xs.map (·.1))[i]? = some k := by rw [List.getElem?_map, h1]; rfl
    have e2 : (xs.map (·.1))[j]? = some k := by rw [List.getElem?_map, h2]; rfl
    obtain ⟨a1, b1⟩ := List.getElem?_eq_some_iff.mp e1
    obtain ⟨a2, b2⟩ := List.getElem?_eq_some_iff.mp e2
    exact (List.getElem_inj nd).mp (b1.trans b2.symm)
  have plain : wpAny (model P w) A (dictWalkPlain d v (k.hash w) es places) Q E s := by
    unfold dictWalkPlain
    refine wpAny_bind (wpAny_forIn_list _ (fun rest b s' => s' = s ∧ b.1 = none ∧ (∀ i ∈ rest, i ∈ places) ∧ ∀ (j : Nat) p, xs[j]? = some (k, p) → j ∈ rest) _ ?step ?done _ _ ⟨rfl, rfl, fun i h => h, good⟩)
    case step =>
      rintro i rest b s' ⟨rfl, hb, hr, hg⟩
      obtain ⟨x, h1, h2, h3⟩ := one i (hr i List.mem_cons_self)
      dsimp only
      rw [h1]
      dsimp only
      rw [if_pos (by rw [h3]; exact beq_self_eq_true _)]
      refine wpAny_bind (wpAny_dictEpoch ho hd (wpAny_bind (eq_N hA (hx x (List.mem_of_getElem? h2)).1 hk (hx x (List.mem_of_getElem? h2)).2 (wpAny_bind (wpAny_dictEpoch ho hd ?_)))))
      rw [if_neg (by simp)]
      by_cases e : x.1 = k
      · rw [decide_eq_true e, if_pos rfl]
        refine wpAny_bind (wpAny_rule (wpAny_pure ?_))
        obtain ⟨x1, x2⟩ := x
        cases e
        exact wpAny_pure (hs i x2 h2)
      · rw [decide_eq_false e, if_neg (by decide)]
        refine wpAny_bind (wpAny_rule (wpAny_pure ⟨rfl, rfl, fun j h => hr j (List.mem_cons_of_mem _ h), fun j p h => ?_⟩))
        rcases List.mem_cons.mp (hg j p h) with rfl | z
        · rw [h2] at h
          cases h
          exact absurd rfl e
        · exact z
    case done =>
      rintro b s' ⟨rfl, hb, _, hg⟩
      dsimp only
      rw [hb]
      exact wpAny_pure (hn fun j p h => by have := hg j p h; cases this)
  have nany : ¬ (es.any fun e => e.key == v && e.hash != k.hash w) = true := fun h => by
    rw [Array.any_eq_true] at h
    obtain ⟨i, hi, h1⟩ := h
    rw [Bool.and_eq_true] at h1
    obtain ⟨x, h2, h3⟩ := hat i es[i] (Array.getElem?_eq_getElem hi)
    rw [h3] at h1
    have e1 : x.2.1 = v := eq_of_beq h1.1
    have e2 := NestedIs.inj _ _ _ (hx x (List.mem_of_getElem? h2)).1 (e1.symm ▸ hk)
    have h4 : (x.1.hash w != k.hash w) = true := h1.2
    rw [e2, bne_self_eq_false] at h4
    cases h4
  have nall : (∀ z, k ≠ .text z) ∨ ¬ (es.all fun e => isExactStrKey e.key) = true := by
    rcases odd with ⟨x, hxm, hxo⟩ | h
    · refine .inr fun h => ?_
      rw [Array.all_eq_true] at h
      obtain ⟨j, hj⟩ := List.mem_iff_getElem?.mp hxm
      have e1 : es[j]? = some (entN w x) := by rw [← Array.getElem?_toList, he, List.getElem?_map, hj]; rfl
      obtain ⟨hj2, e2⟩ := Array.getElem?_eq_some_iff.mp e1
      have h2 := h j hj2
      rw [e2] at h2
      have h3 := (hx x hxm).1
      obtain ⟨x1, x2, x3⟩ := x
      have h2 : isExactStrKey x2 = true := h2
      cases h3 with
      | text z t => exact hxo z rfl
      | none => cases h2
      | bool _ => cases h2
      | int _ _ => cases h2
      | tup _ _ _ _ => cases h2
    · exact .inl h
  have shape : (v = .none ∨ (∃ b, v = .bool b) ∨ (∃ i t, v = .int i t) ∨ ∃ x t, v = .str x t ∧ k = .text x) ∨ ∃ a, v = .ref a := by
    cases hk with
    | none => exact .inl (.inl rfl)
    | bool _ => exact .inl (.inr (.inl ⟨_, rfl⟩))
    | int i t => exact .inl (.inr (.inr (.inl ⟨i, t, rfl⟩)))
    | text x t => exact .inl (.inr (.inr (.inr ⟨x, t, rfl, rfl⟩)))
    | tup _ _ _ _ => exact .inr ⟨_, rfl⟩
  have nf : ∀ {c : Bool}, ¬ (false && c) = true := fun h => by rw [Bool.false_and] at h; cases h
  rcases shape with (rfl | ⟨b, rfl⟩ | ⟨i0, t0, rfl⟩ | ⟨x0, t0, rfl, e0⟩) | ⟨a0, rfl⟩
  rotate_left 3
  · dsimp only
    rw [if_neg (nall.elim (fun h => absurd e0 (h x0)) id)]
    refine wp_ite (fun _ => plain) (fun _ => ?_)
    rw [ey]
    refine wp_ite (fun _ => wpAny_bind (wpAny_pure ?_)) (fun _ => wpAny_bind (tells_N hk h8 hy ?_))
    all_goals
      rw [if_neg nf]
      refine wpAny_bind (wpAny_forIn_list _ (fun (rest : List Nat) (b : Option (Option Nat) × Option Nat) (s' : Shared) => s' = s ∧ b.1 = none ∧ rest.Nodup ∧ (∀ i ∈ rest, i ∈ places) ∧ (∀ (j : Nat), b.2 = some j → (∃ p : Value × Value, xs[j]? = some (k, p)) ∧ j ∉ rest) ∧ (b.2 = none → ∀ (j : Nat) p, xs[j]? = some (k, p) → j ∈ rest)) _ ?step ?done _ _ ⟨rfl, rfl, ndp, fun i h => h, (fun j h => nomatch h), fun _ => good⟩)
      case step =>
        rintro i rest ⟨b1, b2⟩ s' ⟨rfl, hb, hnd, hr, hs1, hs2⟩
        obtain ⟨x, h1, h2, h3⟩ := one i (hr i List.mem_cons_self)
        have hb : b1 = none := hb
        subst hb
        rw [List.nodup_cons] at hnd
        dsimp only at hs1 hs2 ⊢
        rw [h1]
        dsimp only
        rw [if_pos (by rw [h3]; exact beq_self_eq_true _)]
        refine wpAny_bind (wpAny_dictEpoch ho hd (wpAny_bind (eq_N hA (hx x (List.mem_of_getElem? h2)).1 hk (hx x (List.mem_of_getElem? h2)).2 (wpAny_bind (wpAny_dictEpoch ho hd ?_)))))
        rw [if_neg (by rw [bne_self_eq_false]; exact Bool.false_ne_true)]
        by_cases e : x.1 = k
        · rw [decide_eq_true e, if_pos rfl]
          obtain ⟨x1, x2⟩ := x
          have e : x1 = k := e
          subst e
          have hb2 : b2 = none := by
            cases b2 with
            | none => rfl
            | some j =>
              obtain ⟨⟨p, hp2⟩, hnj⟩ := hs1 j rfl
              exact absurd (by rw [uniq j i _ _ hp2 h2]; exact List.mem_cons_self) hnj
          subst hb2
          rw [if_neg (by decide)]
          refine wpAny_bind (wpAny_rule (wp_ite (fun _ => wpAny_pure (wpAny_pure (hs i x2 h2))) (fun _ => wpAny_pure ⟨rfl, rfl, hnd.2, fun j h => hr j (List.mem_cons_of_mem _ h), fun j h => ?_, fun h => nomatch h⟩)))
          cases h
          exact ⟨⟨x2, h2⟩, hnd.1⟩
        · rw [decide_eq_false e, if_neg (by decide)]
          refine wpAny_bind (wpAny_rule ?_)
          rw [if_neg nf]
          refine wpAny_pure ⟨rfl, rfl, hnd.2, fun j h => hr j (List.mem_cons_of_mem _ h), fun j h => ⟨(hs1 j h).1, fun z => (hs1 j h).2 (List.mem_cons_of_mem _ z)⟩, fun h j p q => ?_⟩
          rcases List.mem_cons.mp (hs2 h j p q) with rfl | z
          · rw [h2] at q
            cases q
            exact absurd rfl e
          · exact z
      case done =>
        rintro ⟨b1, b2⟩ s' ⟨rfl, hb, _, _, hs1, hs2⟩
        have hb : b1 = none := hb
        subst hb
        dsimp only at hs1 hs2 ⊢
        refine wpAny_pure ?_
        cases b2 with
        | none => exact hn fun j p h => by have := hs2 rfl j p h; cases this
        | some j =>
          obtain ⟨⟨p, hp2⟩, _⟩ := hs1 j rfl
          exact hs j p hp2
  · dsimp only
    rw [if_neg nany]
    refine wp_ite (fun _ => plain) (fun _ => ?_)
    rw [ey]
    refine wp_ite (fun _ => wpAny_bind (wpAny_pure ?_)) (fun _ => wpAny_bind (tells_N hk h8 hy ?_))
    all_goals
      rw [if_neg nf]
      refine wpAny_bind (wpAny_forIn_list _ (fun (rest : List Nat) (b : Option (Option Nat) × Option Nat) (s' : Shared) => s' = s ∧ b.1 = none ∧ rest.Nodup ∧ (∀ i ∈ rest, i ∈ places) ∧ (∀ (j : Nat), b.2 = some j → (∃ p : Value × Value, xs[j]? = some (k, p)) ∧ j ∉ rest) ∧ (b.2 = none → ∀ (j : Nat) p, xs[j]? = some (k, p) → j ∈ rest)) _ ?step ?done _ _ ⟨rfl, rfl, ndp, fun i h => h, (fun j h => nomatch h), fun _ => good⟩)
      case step =>
        rintro i rest ⟨b1, b2⟩ s' ⟨rfl, hb, hnd, hr, hs1, hs2⟩
        obtain ⟨x, h1, h2, h3⟩ := one i (hr i List.mem_cons_self)
        have hb : b1 = none := hb
        subst hb
        rw [List.nodup_cons] at hnd
        dsimp only at hs1 hs2 ⊢
        rw [h1]
        dsimp only
        rw [if_pos (by rw [h3]; exact beq_self_eq_true _)]
        refine wpAny_bind (wpAny_dictEpoch ho hd (wpAny_bind (eq_N hA (hx x (List.mem_of_getElem? h2)).1 hk (hx x (List.mem_of_getElem? h2)).2 (wpAny_bind (wpAny_dictEpoch ho hd ?_)))))
        rw [if_neg (by rw [bne_self_eq_false]; exact Bool.false_ne_true)]
        by_cases e : x.1 = k
        · rw [decide_eq_true e, if_pos rfl]
          obtain ⟨x1, x2⟩ := x
          have e : x1 = k := e
          subst e
          have hb2 : b2 = none := by
            cases b2 with
            | none => rfl
            | some j =>
              obtain ⟨⟨p, hp2⟩, hnj⟩ := hs1 j rfl
              exact absurd (by rw [uniq j i _ _ hp2 h2]; exact List.mem_cons_self) hnj
          subst hb2
          rw [if_neg (by decide)]
          refine wpAny_bind (wpAny_rule (wp_ite (fun _ => wpAny_pure (wpAny_pure (hs i x2 h2))) (fun _ => wpAny_pure ⟨rfl, rfl, hnd.2, fun j h => hr j (List.mem_cons_of_mem _ h), fun j h => ?_, fun h => nomatch h⟩)))
          cases h
          exact ⟨⟨x2, h2⟩, hnd.1⟩
        · rw [decide_eq_false e, if_neg (by decide)]
          refine wpAny_bind (wpAny_rule ?_)
          rw [if_neg nf]
          refine wpAny_pure ⟨rfl, rfl, hnd.2, fun j h => hr j (List.mem_cons_of_mem _ h), fun j h => ⟨(hs1 j h).1, fun z => (hs1 j h).2 (List.mem_cons_of_mem _ z)⟩, fun h j p q => ?_⟩
          rcases List.mem_cons.mp (hs2 h j p q) with rfl | z
          · rw [h2] at q
            cases q
            exact absurd rfl e
          · exact z
      case done =>
        rintro ⟨b1, b2⟩ s' ⟨rfl, hb, _, _, hs1, hs2⟩
        have hb : b1 = none := hb
        subst hb
        dsimp only at hs1 hs2 ⊢
        refine wpAny_pure ?_
        cases b2 with
        | none => exact hn fun j p h => by have := hs2 rfl j p h; cases this
        | some j =>
          obtain ⟨⟨p, hp2⟩, _⟩ := hs1 j rfl
          exact hs j p hp2
  · dsimp only
    refine wp_ite (fun _ => plain) (fun _ => ?_)
    rw [ey]
    refine wp_ite (fun _ => wpAny_bind (wpAny_pure ?_)) (fun _ => wpAny_bind (tells_N hk h8 hy ?_))
    all_goals
      rw [if_neg nf]
      refine wpAny_bind (wpAny_forIn_list _ (fun (rest : List Nat) (b : Option (Option Nat) × Option Nat) (s' : Shared) => s' = s ∧ b.1 = none ∧ rest.Nodup ∧ (∀ i ∈ rest, i ∈ places) ∧ (∀ (j : Nat), b.2 = some j → (∃ p : Value × Value, xs[j]? = some (k, p)) ∧ j ∉ rest) ∧ (b.2 = none → ∀ (j : Nat) p, xs[j]? = some (k, p) → j ∈ rest)) _ ?step ?done _ _ ⟨rfl, rfl, ndp, fun i h => h, (fun j h => nomatch h), fun _ => good⟩)
      case step =>
        rintro i rest ⟨b1, b2⟩ s' ⟨rfl, hb, hnd, hr, hs1, hs2⟩
        obtain ⟨x, h1, h2, h3⟩ := one i (hr i List.mem_cons_self)
        have hb : b1 = none := hb
        subst hb
        rw [List.nodup_cons] at hnd
        dsimp only at hs1 hs2 ⊢
        rw [h1]
        dsimp only
        rw [if_pos (by rw [h3]; exact beq_self_eq_true _)]
        refine wpAny_bind (wpAny_dictEpoch ho hd (wpAny_bind (eq_N hA (hx x (List.mem_of_getElem? h2)).1 hk (hx x (List.mem_of_getElem? h2)).2 (wpAny_bind (wpAny_dictEpoch ho hd ?_)))))
        rw [if_neg (by rw [bne_self_eq_false]; exact Bool.false_ne_true)]
        by_cases e : x.1 = k
        · rw [decide_eq_true e, if_pos rfl]
          obtain ⟨x1, x2⟩ := x
          have e : x1 = k := e
          subst e
          have hb2 : b2 = none := by
            cases b2 with
            | none => rfl
            | some j =>
              obtain ⟨⟨p, hp2⟩, hnj⟩ := hs1 j rfl
              exact absurd (by rw [uniq j i _ _ hp2 h2]; exact List.mem_cons_self) hnj
          subst hb2
          rw [if_neg (by decide)]
          refine wpAny_bind (wpAny_rule (wp_ite (fun _ => wpAny_pure (wpAny_pure (hs i x2 h2))) (fun _ => wpAny_pure ⟨rfl, rfl, hnd.2, fun j h => hr j (List.mem_cons_of_mem _ h), fun j h => ?_, fun h => nomatch h⟩)))
          cases h
          exact ⟨⟨x2, h2⟩, hnd.1⟩
        · rw [decide_eq_false e, if_neg (by decide)]
          refine wpAny_bind (wpAny_rule ?_)
          rw [if_neg nf]
          refine wpAny_pure ⟨rfl, rfl, hnd.2, fun j h => hr j (List.mem_cons_of_mem _ h), fun j h => ⟨(hs1 j h).1, fun z => (hs1 j h).2 (List.mem_cons_of_mem _ z)⟩, fun h j p q => ?_⟩
          rcases List.mem_cons.mp (hs2 h j p q) with rfl | z
          · rw [h2] at q
            cases q
            exact absurd rfl e
          · exact z
      case done =>
        rintro ⟨b1, b2⟩ s' ⟨rfl, hb, _, _, hs1, hs2⟩
        have hb : b1 = none := hb
        subst hb
        dsimp only at hs1 hs2 ⊢
        refine wpAny_pure ?_
        cases b2 with
        | none => exact hn fun j p h => by have := hs2 rfl j p h; cases this
        | some j =>
          obtain ⟨⟨p, hp2⟩, _⟩ := hs1 j rfl
          exact hs j p hp2
  · dsimp only
    refine wp_ite (fun _ => plain) (fun _ => ?_)
    rw [ey]
    refine wp_ite (fun _ => wpAny_bind (wpAny_pure ?_)) (fun _ => wpAny_bind (tells_N hk h8 hy ?_))
    all_goals
      rw [if_neg nf]
      refine wpAny_bind (wpAny_forIn_list _ (fun (rest : List Nat) (b : Option (Option Nat) × Option Nat) (s' : Shared) => s' = s ∧ b.1 = none ∧ rest.Nodup ∧ (∀ i ∈ rest, i ∈ places) ∧ (∀ (j : Nat), b.2 = some j → (∃ p : Value × Value, xs[j]? = some (k, p)) ∧ j ∉ rest) ∧ (b.2 = none → ∀ (j : Nat) p, xs[j]? = some (k, p) → j ∈ rest)) _ ?step ?done _ _ ⟨rfl, rfl, ndp, fun i h => h, (fun j h => nomatch h), fun _ => good⟩)
      case step =>
        rintro i rest ⟨b1, b2⟩ s' ⟨rfl, hb, hnd, hr, hs1, hs2⟩
        obtain ⟨x, h1, h2, h3⟩ := one i (hr i List.mem_cons_self)
        have hb : b1 = none := hb
        subst hb
        rw [List.nodup_cons] at hnd
        dsimp only at hs1 hs2 ⊢
        rw [h1]
        dsimp only
        rw [if_pos (by rw [h3]; exact beq_self_eq_true _)]
        refine wpAny_bind (wpAny_dictEpoch ho hd (wpAny_bind (eq_N hA (hx x (List.mem_of_getElem? h2)).1 hk (hx x (List.mem_of_getElem? h2)).2 (wpAny_bind (wpAny_dictEpoch ho hd ?_)))))
        rw [if_neg (by rw [bne_self_eq_false]; exact Bool.false_ne_true)]
        by_cases e : x.1 = k
        · rw [decide_eq_true e, if_pos rfl]
          obtain ⟨x1, x2⟩ := x
          have e : x1 = k := e
          subst e
          have hb2 : b2 = none := by
            cases b2 with
            | none => rfl
            | some j =>
              obtain ⟨⟨p, hp2⟩, hnj⟩ := hs1 j rfl
              exact absurd (by rw [uniq j i _ _ hp2 h2]; exact List.mem_cons_self) hnj
          subst hb2
          rw [if_neg (by decide)]
          refine wpAny_bind (wpAny_rule (wp_ite (fun _ => wpAny_pure (wpAny_pure (hs i x2 h2))) (fun _ => wpAny_pure ⟨rfl, rfl, hnd.2, fun j h => hr j (List.mem_cons_of_mem _ h), fun j h => ?_, fun h => nomatch h⟩)))
          cases h
          exact ⟨⟨x2, h2⟩, hnd.1⟩
        · rw [decide_eq_false e, if_neg (by decide)]
          refine wpAny_bind (wpAny_rule ?_)
          rw [if_neg nf]
          refine wpAny_pure ⟨rfl, rfl, hnd.2, fun j h => hr j (List.mem_cons_of_mem _ h), fun j h => ⟨(hs1 j h).1, fun z => (hs1 j h).2 (List.mem_cons_of_mem _ z)⟩, fun h j p q => ?_⟩
          rcases List.mem_cons.mp (hs2 h j p q) with rfl | z
          · rw [h2] at q
            cases q
            exact absurd rfl e
          · exact z
      case done =>
        rintro ⟨b1, b2⟩ s' ⟨rfl, hb, _, _, hs1, hs2⟩
        have hb : b1 = none := hb
        subst hb
        dsimp only at hs1 hs2 ⊢
        refine wpAny_pure ?_
        cases b2 with
        | none => exact hn fun j p h => by have := hs2 rfl j p h; cases this
        | some j =>
          obtain ⟨⟨p, hp2⟩, _⟩ := hs1 j rfl
          exact hs j p hp2
  · dsimp only
    refine wp_ite (fun _ => plain) (fun _ => ?_)
    rw [ey]
    refine wp_ite (fun _ => wpAny_bind (wpAny_pure ?_)) (fun _ => wpAny_bind (tells_N hk h8 hy ?_))
    all_goals
      rw [if_neg nf]
      refine wpAny_bind (wpAny_forIn_list _ (fun (rest : List Nat) (b : Option (Option Nat) × Option Nat) (s' : Shared) => s' = s ∧ b.1 = none ∧ rest.Nodup ∧ (∀ i ∈ rest, i ∈ places) ∧ (∀ (j : Nat), b.2 = some j → (∃ p : Value × Value, xs[j]? = some (k, p)) ∧ j ∉ rest) ∧ (b.2 = none → ∀ (j : Nat) p, xs[j]? = some (k, p) → j ∈ rest)) _ ?step ?done _ _ ⟨rfl, rfl, ndp, fun i h => h, (fun j h => nomatch h), fun _ => good⟩)
      case step =>
        rintro i rest ⟨b1, b2⟩ s' ⟨rfl, hb, hnd, hr, hs1, hs2⟩
        obtain ⟨x, h1, h2, h3⟩ := one i (hr i List.mem_cons_self)
        have hb : b1 = none := hb
        subst hb
        rw [List.nodup_cons] at hnd
        dsimp only at hs1 hs2 ⊢
        rw [h1]
        dsimp only
        rw [if_pos (by rw [h3]; exact beq_self_eq_true _)]
        refine wpAny_bind (wpAny_dictEpoch ho hd (wpAny_bind (eq_N hA (hx x (List.mem_of_getElem? h2)).1 hk (hx x (List.mem_of_getElem? h2)).2 (wpAny_bind (wpAny_dictEpoch ho hd ?_)))))
        rw [if_neg (by rw [bne_self_eq_false]; exact Bool.false_ne_true)]
        by_cases e : x.1 = k
        · rw [decide_eq_true e, if_pos rfl]
          obtain ⟨x1, x2⟩ := x
          have e : x1 = k := e
          subst e
          have hb2 : b2 = none := by
            cases b2 with
            | none => rfl
            | some j =>
              obtain ⟨⟨p, hp2⟩, hnj⟩ := hs1 j rfl
              exact absurd (by rw [uniq j i _ _ hp2 h2]; exact List.mem_cons_self) hnj
          subst hb2
          rw [if_neg (by decide)]
          refine wpAny_bind (wpAny_rule (wp_ite (fun _ => wpAny_pure (wpAny_pure (hs i x2 h2))) (fun _ => wpAny_pure ⟨rfl, rfl, hnd.2, fun j h => hr j (List.mem_cons_of_mem _ h), fun j h => ?_, fun h => nomatch h⟩)))
          cases h
          exact ⟨⟨x2, h2⟩, hnd.1⟩
        · rw [decide_eq_false e, if_neg (by decide)]
          refine wpAny_bind (wpAny_rule ?_)
          rw [if_neg nf]
          refine wpAny_pure ⟨rfl, rfl, hnd.2, fun j h => hr j (List.mem_cons_of_mem _ h), fun j h => ⟨(hs1 j h).1, fun z => (hs1 j h).2 (List.mem_cons_of_mem _ z)⟩, fun h j p q => ?_⟩
          rcases List.mem_cons.mp (hs2 h j p q) with rfl | z
          · rw [h2] at q
            cases q
            exact absurd rfl e
          · exact z
      case done =>
        rintro ⟨b1, b2⟩ s' ⟨rfl, hb, _, _, hs1, hs2⟩
        have hb : b1 = none := hb
        subst hb
        dsimp only at hs1 hs2 ⊢
        refine wpAny_pure ?_
        cases b2 with
        | none => exact hn fun j p h => by have := hs2 rfl j p h; cases this
        | some j =>
          obtain ⟨⟨p, hp2⟩, _⟩ := hs1 j rfl
          exact hs j p hp2
end
end Cn
set_option Elab.async false
set_option linter.all false
set_option maxRecDepth 100000
set_option maxHeartbeats 2000000
/-! dicts with texts and one other key (None or a tuple): the rules -/
namespace Cn
open PySem PySem.Spec PyProof.Rows L2
section
variable {P : Program} {w : World} {A : Around} {E : Value → Shared → Prop} {s : Shared} {d : Addr} {xs : List (NK × Value × Value)} {k : NK} {kv : Value}
theorem DictN.typeIs (h : DictN w s.heap d xs) : s.TypeIs (.ref d) "dict" := let ⟨o, _, _, h1, h2, _⟩ := h; ⟨o, h1, h2.1⟩
def OddN (xs : List (NK × Value × Value)) : Prop := ∃ x ∈ xs, ∀ z, x.1 ≠ .text z
def valN {α β : Type} (xs : List (NK × α × β)) (k : NK) : Option β := (xs.find? fun x => decide (x.1 = k)).map (·.2.2)
theorem nat_uniq {α : Type} {xs : List (NK × α)} (nd : (xs.map (·.1)).Nodup) {i j : Nat} {p q : α} (h1 : xs[i]? = some (k, p)) (h2 : xs[j]? = some (k, q)) : i = j := by
  have e1 : (xs.map (·.1))[i]? = some k := by rw [List.getElem?_map, h1]; rfl
  have e2 : (xs.map (·.1))[j]? = some k := by rw [List.getElem?_map, h2]; rfl
  obtain ⟨a1, b1⟩ := List.getElem?_eq_some_iff.mp e1
  obtain ⟨a2, b2⟩ := List.getElem?_eq_some_iff.mp e2
  exact (List.getElem_inj nd).mp (b1.trans b2.symm)
theorem valN_at {α β : Type} {xs : List (NK × α × β)} (nd : (xs.map (·.1)).Nodup) {j : Nat} {p : α × β} (h : xs[j]? = some (k, p)) : valN xs k = some p.2 := by
  unfold valN
  induction xs generalizing j with
  | nil => simp at h
  | cons x r ih =>
    rw [List.map_cons, List.nodup_cons] at nd
    cases j with
    | zero =>
      cases h
      rw [List.find?_cons_of_pos (p := fun y : NK × α × β => decide (y.1 = k)) (by exact decide_eq_true rfl)]; rfl
    | succ j =>
      have h : r[j]? = some (k, p) := by simpa using h
      have n : ¬ decide (x.1 = k) = true := fun e => nd.1 (List.mem_map.mpr ⟨_, List.mem_of_getElem? h, (of_decide_eq_true e).symm⟩)
      rw [List.find?_cons_of_neg (p := fun y : NK × α × β => decide (y.1 = k)) n]
      exact ih nd.2 h
theorem valN_none {α β : Type} {xs : List (NK × α × β)} (h : ∀ (j : Nat) p, xs[j]? ≠ some (k, p)) : valN xs k = none := by
  unfold valN
  rw [List.find?_eq_none.mpr fun x hx e => ?_]
  · rfl
  obtain ⟨j, hj⟩ := List.mem_iff_getElem?.mp hx
  obtain ⟨x1, x2⟩ := x
  have e : x1 = k := of_decide_eq_true e
  exact h j x2 (by rw [← e]; exact hj)
theorem get_N {Q : Option Value → Shared → Prop} (hA : A.units + 8 < cLine) (hk : NestedIs s.heap k kv) (h8 : k.depth ≤ 8) (hd : DictN w s.heap d xs) (hx : KeysN s.heap xs) (odd : OddN xs) (q : ∀ tk, Q (valN xs k) { heap := s.heap, gens := s.gens, drawn := s.drawn, toks := tk, os := s.os }) : wpAny (model P w) A (dictGet d kv) Q E s := by
  obtain ⟨o, es, ep, h1, h2, h3, h4⟩ := hd
  unfold dictGet
  refine wpAny_holding (wpAny_bind (hash_N hA hk h8 fun tk => wpAny_bind (find_N (s := { heap := s.heap, gens := s.gens, drawn := s.drawn, toks := tk, os := s.os }) hA hk h8 h1 h3 h4 hx.1 hx.2 (.inl odd) (fun hn => ?_) fun i p' h => ?_)))
  · have := q tk
    rw [valN_none hn] at this
    exact wpAny_pure this
  · refine wpAny_bind (wpAny_dictEntries h1 h3 (wpAny_pure ?_))
    have e2 : es[i]? = some (entN w (k, p')) := by rw [← Array.getElem?_toList, h4, List.getElem?_map, h]; rfl
    rw [e2]
    have := q tk
    rw [valN_at hx.2 h] at this
    exact this
theorem getItem_N {v : Value} {Q : Value → Shared → Prop} (hA : A.units + 9 < cLine) (hk : NestedIs s.heap k kv) (h8 : k.depth ≤ 8) (hd : DictN w s.heap d xs) (hx : KeysN s.heap xs) (odd : OddN xs) (hv : valN xs k = some v) (q : ∀ tk, Q v { heap := s.heap, gens := s.gens, drawn := s.drawn, toks := tk, os := s.os }) : wpAny (model P w) A (getItem (.ref d) kv) Q E s := by
  unfold getItem
  refine wpAny_holding (wpAny_bind (wpAny_sequenceKey hd.typeIs rfl (wpAny_bind (wpAny_callSpecial?_slot hd.typeIs slot_dict_getitem (wpAny_call_entry slot_dict_getitem hd.typeIs entry_dict_getitem ?_ (args_dict_getitem _ _))))))
  unfold Builtin.«dict.__getitem__»
  refine wpAny_bind ?_
  show wpAny (model P w) A.in1 (pure (d, kv)) _ E s
  refine wpAny_pure ?_
  refine wpAny_bind (get_N (by show A.in1.units + 8 < cLine; show A.units + 1 + 8 < cLine; omega) hk h8 hd hx odd fun tk => ?_)
  rw [hv]
  exact wpAny_pure ⟨_, rfl, wpAny_pure (q tk)⟩
theorem has_N {Q : Bool → Shared → Prop} (hA : A.units + 9 < cLine) (hs : (d == sysModules) = false) (hk : NestedIs s.heap k kv) (h8 : k.depth ≤ 8) (hd : DictN w s.heap d xs) (hx : KeysN s.heap xs) (odd : OddN xs) (q : ∀ tk, Q (valN xs k).isSome { heap := s.heap, gens := s.gens, drawn := s.drawn, toks := tk, os := s.os }) : wpAny (model P w) A (contains (.ref d) kv) Q E s := by
  unfold contains
  try with_reducible refine wpAny_holding ?_
  refine wpAny_bind (wpAny_specialOf hd.typeIs slot_dict_contains.lookup ?_)
  show wpAny _ _ (if (some (Value.builtin "dict.__contains__") == some Value.none) = true then _ else _) _ E s
  rw [if_neg (by rw [beq_builtin_none]; exact Bool.false_ne_true)]
  refine wpAny_bind (wpAny_callSpecialUnlessNone?_slot (name := Str.ofString "__contains__") hd.typeIs slot_dict_contains
    (wpAny_call_entry slot_dict_contains hd.typeIs entry_dict_contains ?_ (args_dict_contains _ _)))
  show wpAny _ _ (dictGet d kv >>= _) _ _ s
  refine wpAny_bind (get_N (by show A.in1.units + 8 < cLine; show A.units + 1 + 8 < cLine; omega) hk h8 hd hx odd fun tk => ?_)
  have q' := q tk
  cases hf : valN xs k with
  | some p =>
    rw [hf] at q'
    show wpAny _ _ (ret (.bool true)) _ _ _
    exact wpAny_pure ⟨_, rfl, wpAny_truthy_bool q'⟩
  | none =>
    rw [hf] at q'
    show wpAny _ _ (Builtin.Dict.pendingKey? d kv >>= _) _ _ _
    exact wpAny_bind (wpAny_pendingKey_other hs (wpAny_pure ⟨_, rfl, wpAny_truthy_bool q'⟩))
theorem in_N {Q : Value → Shared → Prop} (hA : A.units + 9 < cLine) (hs : (d == sysModules) = false) (hk : NestedIs s.heap k kv) (h8 : k.depth ≤ 8) (hd : DictN w s.heap d xs) (hx : KeysN s.heap xs) (odd : OddN xs) (q : ∀ tk, Q (.bool (valN xs k).isSome) { heap := s.heap, gens := s.gens, drawn := s.drawn, toks := tk, os := s.os }) : wpAny (model P w) A (compareOp .In kv (.ref d)) Q E s := by
  show wpAny _ _ (do return .bool (← contains (.ref d) kv)) Q E s
  exact wpAny_bind (has_N hA hs hk h8 hd hx odd fun tk => wpAny_pure (q tk))
theorem notIn_N {Q : Value → Shared → Prop} (hA : A.units + 9 < cLine) (hs : (d == sysModules) = false) (hk : NestedIs s.heap k kv) (h8 : k.depth ≤ 8) (hd : DictN w s.heap d xs) (hx : KeysN s.heap xs) (odd : OddN xs) (q : ∀ tk, Q (.bool (!(valN xs k).isSome)) { heap := s.heap, gens := s.gens, drawn := s.drawn, toks := tk, os := s.os }) : wpAny (model P w) A (compareOp .NotIn kv (.ref d)) Q E s := by
  show wpAny _ _ (do return .bool (!(← contains (.ref d) kv))) Q E s
  exact wpAny_bind (has_N hA hs hk h8 hd hx odd fun tk => wpAny_pure (q tk))
theorem DictN.size {es : Array DictEntry} (h : es.toList = xs.map (entN w)) : es.size = xs.length := by rw [← Array.length_toList, h, List.length_map]
theorem meets_len_N (d : Addr) (hd : (d == sysModules) = false) : MeetsIn P w (Builtin.«dict.__len__» ⟨[.ref d], []⟩) (fun _ R s => ∃ xs, DictN w s.heap d xs ∧ R (.ok (.ret (.int xs.length s.toks))) { s with toks := s.toks + 1 }) :=
  .of_wp fun A R s ⟨xs, hm, h⟩ => by
    obtain ⟨o, es, ep, ho, hc, hdat, he⟩ := hm
    show wpAny _ _ (dictSize d >>= _) _ _ s
    unfold dictSize
    refine wpAny_bind (wpAny_bind (wpAny_dictEntries ho hdat (wpAny_pure ?_)))
    show wpAny _ _ (Builtin.Dict.pendingCount d >>= _) _ _ s
    refine wpAny_bind (wpAny_pendingCount_other hd ?_)
    refine wpAny_ret_mkInt ?_
    rw [Nat.add_zero, DictN.size he]; exact h
theorem len_N {Q : Value → Shared → Prop} (hs : (d == sysModules) = false) (hm : DictN w s.heap d xs) (hfit : (xs.length : Int) < 2 ^ 63) (h : Q (.int xs.length (s.toks + 1)) { s with toks := s.toks + 1 + 1 }) : wpAny (model P w) A (call (.builtin "len") [.ref d]) Q E s := by
  refine Calls.call_function_entry kind_len plain_len entry_len (args_len1 _) ?_
  unfold Builtin.«len»
  refine wpAny_bind (m := oneArg "len" _) (wpAny_pure ?_)
  refine wpAny_bind (m := callSpecial? (.ref d) (Str.ofString "__len__")) (wpAny_callSpecial?_slot (name := Str.ofString "__len__") hm.typeIs F.slot_dict_len
    (call_meetsIn F.slot_dict_len hm.typeIs F.entry_dict_len (F.args_dict_len_1 _) (meets_len_N d hs) ⟨xs, hm, ?_⟩))
  show wpAny _ _ _ _ _ { s with toks := s.toks + 1 }
  refine wpAny_bind (wpAny_holding (wpAny_pure ?_))
  refine wpAny_bind (wpAny_letGo ?_)
  show wpAny _ _ (if ((xs.length : Nat) : Int) < 0 then _ else _) _ _ _
  rw [if_neg (by omega)]
  show wpAny _ _ (if ((xs.length : Nat) : Int) ≥ 2 ^ 63 then _ else _) _ _ _
  rw [if_neg (by omega)]
  exact wpAny_bind (wpAny_mkInt (wpAny_pure ⟨_, rfl, h⟩))
/-- a new key at the end -/
theorem set_N {v : Value} {Q : Unit → Shared → Prop} (hA : A.units + 8 < cLine) (hk : NestedIs s.heap k kv) (h8 : k.depth ≤ 8) (hd : DictN w s.heap d xs) (hx : KeysN s.heap xs) (odd : ∀ z, k ≠ .text z) (hn : ∀ x ∈ xs, x.1 ≠ k) (hz : xs.length ≤ sizeLine) (q : ∀ h' tk, DictN w h' d (xs ++ [(k, kv, v)]) → Heap.SameBut d s.heap h' → Q () { heap := h', gens := s.gens, drawn := s.drawn, toks := tk, os := s.os }) : wpAny (model P w) A (dictSet d kv v) Q E s := by
  obtain ⟨o, es, ep, h1, h2, h3, h4⟩ := hd
  have hsz : es.size = xs.length := DictN.size h4
  obtain ⟨c1, c2, c3⟩ := h2
  unfold dictSet dictSetHashed
  refine wpAny_holding (wpAny_bind (hash_N hA hk h8 fun tk => wpAny_holding (wpAny_bind (find_N (s := { heap := s.heap, gens := s.gens, drawn := s.drawn, toks := tk, os := s.os }) hA hk h8 h1 h3 h4 hx.1 hx.2 (.inr odd) (fun _ => ?_) fun i p' h => absurd rfl (hn _ (List.mem_of_getElem? h))))))
  refine wpAny_bind (wpAny_rule (wpAny_updateDictKeys h1 h3 ?_ (by rw [hsz]; exact hz) (by rw [Array.size_push]; exact Nat.le_refl _)))
  obtain ⟨oc, od, odt, osl⟩ := o
  have h3 : odt = .dict es ep := h3
  subst h3
  exact q _ tk ⟨_, es.push { hash := k.hash w, key := kv, val := v }, ep + 1, Heap.get?_update_self _ h1 rfl, ⟨c1, c2, c3⟩, rfl, by rw [Array.toList_push, h4, List.map_append]; rfl⟩ (Heap.SameBut.update _ _ _)
theorem setItem_N {v : Value} {Q : Unit → Shared → Prop} (hA : A.units + 9 < cLine) (hk : NestedIs s.heap k kv) (h8 : k.depth ≤ 8) (hd : DictN w s.heap d xs) (hx : KeysN s.heap xs) (odd : ∀ z, k ≠ .text z) (hn : ∀ x ∈ xs, x.1 ≠ k) (hz : xs.length ≤ sizeLine) (q : ∀ h' tk, DictN w h' d (xs ++ [(k, kv, v)]) → Heap.SameBut d s.heap h' → Q () { heap := h', gens := s.gens, drawn := s.drawn, toks := tk, os := s.os }) : wpAny (model P w) A (setItem (.ref d) kv v) Q E s := by
  unfold setItem
  refine wpAny_holding (wpAny_bind (wpAny_sequenceKey hd.typeIs rfl (wpAny_bind (wpAny_callSpecial?_slot hd.typeIs slot_dict_setitem (wpAny_call_entry slot_dict_setitem hd.typeIs entry_dict_setitem ?_ (args_dict_setitem _ _ _))))))
  unfold Builtin.«dict.__setitem__»
  refine wpAny_bind (wpAny_notOrdered_dict hd.typeIs ?_)
  refine wpAny_bind ?_
  show wpAny (model P w) A.in1 (pure (Value.ref d, [kv, v])) _ E s
  refine wpAny_pure (wpAny_bind ?_)
  show wpAny (model P w) A.in1 (pure d) _ E s
  refine wpAny_pure (wpAny_bind (set_N (by show A.in1.units + 8 < cLine; show A.units + 1 + 8 < cLine; omega) hk h8 hd hx odd hn hz fun h' tk h1 h2 => ?_))
  exact wpAny_pure ⟨_, rfl, wpAny_pure (q h' tk h1 h2)⟩
end
/-! ### the tracked dict -/
abbrev Ns := List (NK × V × V)
def RelN (ms : Ns) (xs : List (NK × Value × Value)) : Prop := Paired (fun m x => m.1 = x.1 ∧ RelV m.2.1 x.2.1 ∧ RelV m.2.2 x.2.2) ms xs
def NixO (w : World) (d : Addr) (ms : Ns) : HO := .ext fun h => (d == sysModules) = false ∧ ∃ xs, RelN ms xs ∧ DictN w h d xs
/-- the value of a key: a text, None, (text,) -/
inductive KeyVN (H : Hp) : NK → V → Prop
  | none : KeyVN H .none .non
  | int (i : Int) : KeyVN H (.num i) (.int i)
  | text (x : Str) : KeyVN H (.text x) (.str x)
  | one {b : Addr} {x : Str} : H b = some (.tup [.str x]) → KeyVN H (.tup [.text x]) (.ref b)
theorem KeyVN.low {H : Hp} {k : NK} {v : V} (h : KeyVN H k v) : k.depth ≤ 8 := by cases h <;> simp [NestedKey.depth, NestedKey.depthAll]
theorem KeyVN.to {H H' : Hp} {k : NK} {v : V} (h : KeyVN H k v) (f : ∀ b x, H b = some (.tup x) → H' b = some (.tup x)) : KeyVN H' k v := by
  cases h with
  | none => exact .none
  | int i => exact .int i
  | text x => exact .text x
  | one e => exact .one (f _ _ e)
structure NsOk (H : Hp) (ms : Ns) : Prop where
  nd : (ms.map (·.1)).Nodup
  ks : ∀ m ∈ ms, KeyVN H m.1 m.2.1
  sz : ms.length ≤ 100000
  odd : ∃ m ∈ ms, ∀ z, m.1 ≠ .text z
theorem NsOk.to {H H' : Hp} {ms : Ns} (h : NsOk H ms) (f : ∀ b x, H b = some (.tup x) → H' b = some (.tup x)) : NsOk H' ms := ⟨h.nd, fun m hm => (h.ks m hm).to f, h.sz, h.odd⟩
theorem RelN.keys {ms : Ns} {xs : List (NK × Value × Value)} (h : RelN ms xs) : ms.map (·.1) = xs.map (·.1) := by
  induction h with
  | nil => rfl
  | cons a _ ih => rw [List.map_cons, List.map_cons, ih, a.1]
theorem RelN.len {ms : Ns} {xs : List (NK × Value × Value)} (h : RelN ms xs) : ms.length = xs.length := by
  have := congrArg List.length h.keys
  rwa [List.length_map, List.length_map] at this
theorem RelN.back {ms : Ns} {xs : List (NK × Value × Value)} (h : RelN ms xs) : ∀ {j : Nat} {x : NK × Value × Value}, xs[j]? = some x → ∃ m, ms[j]? = some m ∧ m.1 = x.1 ∧ RelV m.2.1 x.2.1 ∧ RelV m.2.2 x.2.2 := by
  induction h with
  | nil => intro j m e; simp at e
  | cons a _ ih =>
    intro j m e
    cases j with
    | zero => cases e; exact ⟨_, rfl, a⟩
    | succ j => exact ih (j := j) (by simpa using e)
theorem RelN.val {ms : Ns} {xs : List (NK × Value × Value)} (h : RelN ms xs) (k : NK) : RelO (valN ms k) (valN xs k) := by
  induction h with
  | nil => exact True.intro
  | @cons m x ms xs a t ih =>
    unfold valN at ih ⊢
    by_cases e : x.1 = k
    · rw [List.find?_cons_of_pos (p := fun y : NK × V × V => decide (y.1 = k)) (by rw [a.1]; exact decide_eq_true e), List.find?_cons_of_pos (p := fun y : NK × Value × Value => decide (y.1 = k)) (decide_eq_true e)]
      exact a.2.2
    · rw [List.find?_cons_of_neg (p := fun y : NK × V × V => decide (y.1 = k)) (by rw [a.1, decide_eq_true_iff]; exact e), List.find?_cons_of_neg (p := fun y : NK × Value × Value => decide (y.1 = k)) (by rw [decide_eq_true_iff]; exact e)]
      exact ih
theorem RelN.snoc {ms : Ns} {xs : List (NK × Value × Value)} (h : RelN ms xs) {k : NK} {y v : V} {u z : Value} (r1 : RelV y u) (r2 : RelV v z) : RelN (ms ++ [(k, y, v)]) (xs ++ [(k, u, z)]) := by
  induction h with
  | nil => exact .cons ⟨rfl, r1, r2⟩ .nil
  | cons a _ ih => exact .cons a ih
section
variable {X : Cx} {pins : List (Addr × Obj)} {σ : L2.St} {H : Hp} {s : Shared}
theorem isN_of (I : L2.Inv X pins σ H s) {k : NK} {v : V} {u : Value} (h : KeyVN H k v) (r : RelV v u) : NestedIs s.heap k u := by
  cases h with
  | none => cases (show u = Value.none from r); exact .none
  | int i => obtain ⟨t, rfl⟩ := (show ∃ t, u = Value.int i t from r); exact .int i t
  | text x => obtain ⟨t, rfl⟩ := (show ∃ t, u = Value.str x t from r); exact .text x t
  | @one b x e =>
    cases (show u = Value.ref b from r)
    obtain ⟨_, its, rv, o, h1, h2, n, h3⟩ := (show ObjOk X.prog X.w H s.heap b (.tup [.str x]) from I.hok b _ e)
    obtain ⟨u, rfl, ru⟩ := vals1 rv
    obtain ⟨t, rfl⟩ := (show ∃ t, u = Value.str x t from ru)
    exact .tup h1 h2 h3 (.cons (.text x t) .nil)
theorem nix_of (I : L2.Inv X pins σ H s) {d : Addr} {ms : Ns} (h : H d = some (NixO X.w d ms)) (m : NsOk H ms) : (d == sysModules) = false ∧ ∃ xs, RelN ms xs ∧ DictN X.w s.heap d xs ∧ KeysN s.heap xs ∧ OddN xs := by
  have q := I.hok d _ h
  unfold NixO at q
  rw [L2.ObjOk.eq_13] at q
  obtain ⟨⟨q1, xs, q2, q3⟩, _⟩ := q
  refine ⟨q1, xs, q2, q3, ⟨fun x hx => ?_, by rw [← q2.keys]; exact m.nd⟩, ?_⟩
  · obtain ⟨j, hj⟩ := List.mem_iff_getElem?.mp hx
    obtain ⟨y, h1, h2, h3, _⟩ := q2.back hj
    have k1 := m.ks y (List.mem_of_getElem? h1)
    rw [← h2]
    exact ⟨isN_of I k1 h3, k1.low⟩
  · obtain ⟨y, hy, ho⟩ := m.odd
    have : y.1 ∈ xs.map (·.1) := by rw [← q2.keys]; exact List.mem_map.mpr ⟨y, hy, rfl⟩
    obtain ⟨x, hx, e⟩ := List.mem_map.mp this
    exact ⟨x, hx, fun z => by rw [e]; exact ho z⟩
theorem nix_obj {P : Program} {w : World} {H : Hp} {h : Heap} {d : Addr} {ms : Ns} {xs : List (NK × Value × Value)} (hs : (d == sysModules) = false) (r : RelN ms xs) (hd : DictN w h d xs) : ObjOk P w H h d (NixO w d ms) := by
  unfold NixO
  rw [L2.ObjOk.eq_13]
  have ⟨o, es, ep, h1, _⟩ := hd
  refine ⟨⟨hs, xs, r, hd⟩, ⟨o, h1⟩, fun h1 h2 ⟨a, xs, b, o, es, ep, e1, e2⟩ f => ⟨a, xs, b, o, es, ep, f _ e1, e2⟩⟩
end
end Cn
set_option Elab.async false
set_option linter.all false
set_option maxRecDepth 100000
set_option maxHeartbeats 2000000
/-! a dict with texts, perhaps one other key: what expressions read of it -/
namespace Cn
open PySem PySem.Spec PyProof.Rows L2
/-- the dict at d has n keys, and f at the texts -/
def DX (w : World) (H : Hp) (d : Addr) (n : Nat) (f : Str → Option V) : Prop :=
  (∃ kvs : List (Key × V), H d = some (.dK kvs) ∧ kvs.length = n ∧ ∀ z, f z = valV kvs (.inr z)) ∨ ∃ ms, H d = some (NixO w d ms) ∧ NsOk H ms ∧ ms.length = n ∧ ∀ z, f z = valN ms (.text z)
def nkOf : Key → NK
  | .inl i => .num i
  | .inr x => .text x
theorem nkOf_inj : ∀ {a b : Key}, nkOf a = nkOf b → a = b
  | .inl i, .inl j, h => by unfold nkOf at h; cases h; rfl
  | .inr i, .inr j, h => by unfold nkOf at h; cases h; rfl
  | .inl i, .inr j, h => nomatch h
  | .inr i, .inl j, h => nomatch h
def toN (kv : Key × V) : NK × V × V := (nkOf kv.1, kV kv.1, kv.2)
section
variable {X : Cx} {pins : List (Addr × Obj)} {σ : L2.St} {H : Hp} {s : Shared}
theorem DX.typeIs (I : L2.Inv X pins σ H s) {d : Addr} {n : Nat} {f : Str → Option V} (g : DX X.w H d n f) : s.TypeIs (.ref d) "dict" := by
  rcases g with ⟨kvs, e, _⟩ | ⟨ms, e, m, _⟩
  · obtain ⟨_, _, vs, _, dd⟩ := dk_of I.hok e
    exact dd.typeIs
  · obtain ⟨_, xs, _, h, _⟩ := nix_of I e m
    exact h.typeIs
theorem dx_get {A : Around} {E : Value → Shared → Prop} {Q : Value → Shared → Prop} {d : Addr} {n : Nat} {f : Str → Option V} {z : Str} {v : V} {u : Value} (hu : A.units + 9 < cLine) (I : L2.Inv X pins σ H s) (g : DX X.w H d n f) (ru : RelV (.str z) u) (hf : f z = some v)
    (q : ∀ w' s', L2.Inv X pins σ H s' → RelV v w' → Q w' s') : wpAny (model X.prog X.w) A (getItem (.ref d) u) Q E s := by
  rcases g with ⟨kvs, e, _, hz⟩ | ⟨ms, e, m, _, hz⟩
  · have hf : valV kvs (.inr z) = some v := by rw [← hz]; exact hf
    exact d_getItem (by omega) I (.inl ⟨kvs, .inr z, .inl e, rfl, hf.symm⟩) ru q
  · have hf : valN ms (.text z) = some v := by rw [← hz]; exact hf
    obtain ⟨_, xs, r, hd, hk, ho⟩ := nix_of I e m
    have := r.val (.text z)
    rw [hf] at this
    obtain ⟨w', h1, h2⟩ : ∃ w', valN xs (.text z) = some w' ∧ RelV v w' := by
      cases hx : valN xs (.text z) with
      | none => rw [hx] at this; exact this.elim
      | some w' => rw [hx] at this; exact ⟨w', rfl, this⟩
    exact getItem_N hu (isN_of I (.text z) ru) (KeyVN.low (H := H) (.text z)) hd hk ho h1 fun tk => q w' _ (I.tok tk) h2
theorem RelO.some {a : Option V} {b : Option Value} (h : RelO a b) : a.isSome = b.isSome := by
  cases a <;> cases b <;> first | rfl | exact h.elim
theorem dx_in {A : Around} {E : Value → Shared → Prop} {Q : Value → Shared → Prop} {d : Addr} {n : Nat} {f : Str → Option V} {z : Str} {u : Value} (hu : A.units + 9 < cLine) (I : L2.Inv X pins σ H s) (g : DX X.w H d n f) (ru : RelV (.str z) u)
    (q : ∀ s', L2.Inv X pins σ H s' → Q (.bool (f z).isSome) s') : wpAny (model X.prog X.w) A (compareOp .In u (.ref d)) Q E s := by
  rcases g with ⟨kvs, e, _, hz⟩ | ⟨ms, e, m, _, hz⟩
  · rw [hz] at q
    exact d_in (by omega) I (.inl ⟨kvs, .inr z, .inl e, rfl, rfl⟩) ru q
  · rw [hz] at q
    obtain ⟨h0, xs, r, hd, hk, ho⟩ := nix_of I e m
    refine in_N hu h0 (isN_of I (.text z) ru) (KeyVN.low (H := H) (.text z)) hd hk ho fun tk => ?_
    rw [← RelO.some (r.val (.text z))]
    exact q _ (I.tok tk)
theorem dx_notIn {A : Around} {E : Value → Shared → Prop} {Q : Value → Shared → Prop} {d : Addr} {n : Nat} {f : Str → Option V} {z : Str} {u : Value} (hu : A.units + 9 < cLine) (I : L2.Inv X pins σ H s) (g : DX X.w H d n f) (ru : RelV (.str z) u)
    (q : ∀ s', L2.Inv X pins σ H s' → Q (.bool (!(f z).isSome)) s') : wpAny (model X.prog X.w) A (compareOp .NotIn u (.ref d)) Q E s := by
  rcases g with ⟨kvs, e, _, hz⟩ | ⟨ms, e, m, _, hz⟩
  · rw [hz] at q
    exact d_notIn (by omega) I (.inl ⟨kvs, .inr z, .inl e, rfl, rfl⟩) ru q
  · rw [hz] at q
    obtain ⟨h0, xs, r, hd, hk, ho⟩ := nix_of I e m
    refine notIn_N hu h0 (isN_of I (.text z) ru) (KeyVN.low (H := H) (.text z)) hd hk ho fun tk => ?_
    rw [← RelO.some (r.val (.text z))]
    exact q _ (I.tok tk)
end
def tXGet (w : World) (td ty : TE) : TE := fun σ H Q => td σ H fun x H1 => ty σ H1 fun y H2 => ∃ d n f z v, x = .ref d ∧ y = .str z ∧ DX w H2 d n f ∧ f z = some v ∧ Q v H2
def tXIn (w : World) (ty td : TE) : TE := fun σ H Q => ty σ H fun y H1 => td σ H1 fun x H2 => ∃ d n f z, x = .ref d ∧ y = .str z ∧ DX w H2 d n f ∧ Q (.bl (f z).isSome) H2
def tXNotIn (w : World) (ty td : TE) : TE := fun σ H Q => ty σ H fun y H1 => td σ H1 fun x H2 => ∃ d n f z, x = .ref d ∧ y = .str z ∧ DX w H2 d n f ∧ Q (.bl (!(f z).isSome)) H2
section
variable {X : Cx} {o i e : Expr} {pos : Pos} {td ty : TE}
theorem pe_xget {w : World} (hw : X.w = w) (hu : X.A.units + 64 < cLine) (ho : PE X o td) (hi : PE X i ty) (hs : NoSl i) : PE X (.Subscript o i pos) (tXGet w td ty) := by
  subst hw
  refine ⟨fun pins s σ H Q I h => ?_⟩
  refine subD_of PySem.F.slot_dict_getitem.lookup hs (thn (ho.run pins s σ H _ I h) fun u s1 ⟨x, H1, I1, rx, q1⟩ => thn (hi.run pins s1 σ H1 _ I1 q1) fun iv s2 ⟨y, H2, I2, ry, d, n, f, z, v, ex, ey, g, hf, q2⟩ => ?_)
  subst ex
  subst ey
  obtain rfl : u = Value.ref d := rx
  exact ⟨g.typeIs I2, dx_get (by omega) I2 g ry hf fun w' s3 I3 rw' => ⟨v, H2, I3, rw', q2⟩⟩
theorem pc_xin {w : World} (hw : X.w = w) (hu : X.A.units + 64 < cLine) (hi : PE X i ty) (ho : PE X o td) : PC X .In i o (tXIn w ty td) := by
  subst hw
  refine ⟨fun pins s σ H Q I h => ?_⟩
  refine thn (hi.run pins s σ H _ I h) fun iv s1 ⟨y, H1, I1, ry, q1⟩ => thn (ho.run pins s1 σ H1 _ I1 q1) fun u s2 ⟨x, H2, I2, rx, d, n, f, z, ex, ey, g, q2⟩ => ?_
  subst ex
  subst ey
  obtain rfl : u = Value.ref d := rx
  exact dx_in (by omega) I2 g ry fun s3 I3 => ⟨.bl _, H2, I3, rfl, q2⟩
theorem pc_xnotin {w : World} (hw : X.w = w) (hu : X.A.units + 64 < cLine) (hi : PE X i ty) (ho : PE X o td) : PC X .NotIn i o (tXNotIn w ty td) := by
  subst hw
  refine ⟨fun pins s σ H Q I h => ?_⟩
  refine thn (hi.run pins s σ H _ I h) fun iv s1 ⟨y, H1, I1, ry, q1⟩ => thn (ho.run pins s1 σ H1 _ I1 q1) fun u s2 ⟨x, H2, I2, rx, d, n, f, z, ex, ey, g, q2⟩ => ?_
  subst ex
  subst ey
  obtain rfl : u = Value.ref d := rx
  exact dx_notIn (by omega) I2 g ry fun s3 I3 => ⟨.bl _, H2, I3, rfl, q2⟩
theorem call_lenX {w : World} (hw : X.w = w) : CallR X (.builtin "len") (fun xs H Q => ∃ d n f, xs = [V.ref d] ∧ DX w H d n f ∧ Q (.int (n : Nat)) H) := by
  subst hw
  intro pins s σ H xs us Q I r h
  obtain ⟨d, n, f, rfl, g, q⟩ := h
  obtain ⟨u, rfl, ru⟩ := vals1 r
  cases (show u = Value.ref d from ru)
  rcases g with ⟨kvs, e, hn, _⟩ | ⟨ms, e, m, hn, _⟩
  · subst hn
    exact d_len I (.inl e) fun t s' I' => ⟨.int kvs.length, H, I', ⟨t, rfl⟩, q⟩
  · subst hn
    obtain ⟨h0, xs, r, hd, hk, ho⟩ := nix_of I e m
    have z := m.sz
    refine len_N h0 hd (by rw [← r.len]; omega) ?_
    rw [← r.len]
    exact ⟨.int ((ms.length : Nat) : Int), H, I.tok _, ⟨_, rfl⟩, q⟩
/-- isinstance(x, dict) -/
def rIsiX (K : PySem.W.Frag) (w : World) : List V → Hp → VK → Prop := fun xs H Q => rIsi K xs H Q ∨ ∃ d ms, xs = [.ref d, .ty "dict"] ∧ H d = some (NixO w d ms) ∧ Q (.bl true) H
theorem call_isiX {K : PySem.W.Frag} {w : World} (hK : X.K = K) (hw : X.w = w) : CallR X (.builtin "isinstance") (rIsiX K w) := by
  subst hK
  subst hw
  intro pins s σ H xs us Q I r h
  rcases h with h | ⟨d, ms, rfl, e, q⟩
  · exact call_isi pins s σ H xs us Q I r h
  · obtain ⟨u1, u2, rfl, r1, r2⟩ := vals2 r
    cases (show u1 = Value.ref d from r1)
    cases (show u2 = Value.type "dict" from r2)
    have z := I.hok d _ e
    unfold NixO at z
    rw [L2.ObjOk.eq_13] at z
    obtain ⟨⟨_, xs, _, o, es, ep, h1, h2, _⟩, _⟩ := z
    exact PySem.W.kia_one PySem.W.kitx_dict I.kIn ⟨o, h1, h2.1⟩ (show PySem.W.kitOne X.K (.type (dty (.dict []))) (.type "dict") = some true from kit_ty (.dict []) (by simp)) (fun z => nomatch z) fun tk => ⟨.bl true, H, I.tok tk, rfl, q⟩
end
/-! ### storing -/
theorem pairs_N {P : Program} {w : World} {h : Heap} : ∀ {es : List DictEntry} {vs : List (Key × Value)} {kvs : List (Key × V)}, Pairs (mixKind P w) es vs → (∀ e ∈ es, ∃ k, (mixKind P w).is k e.key = true ∧ e.hash = (mixKind P w).hash k) → KV kvs vs → ∃ xs, es = xs.map (entN w) ∧ RelN (kvs.map toN) xs ∧ ∀ x ∈ xs, NestedIs h x.1 x.2.1 ∧ x.1.depth ≤ 8
  | [], [], [], _, _, _ => ⟨[], rfl, .nil, fun x h => nomatch h⟩
  | e :: es, v :: vs, q :: kvs, p, ko, r => by
    cases p with
    | cons hk hv p =>
      cases r with
      | cons r1 r =>
        obtain ⟨xs, h1, h2, h3⟩ := pairs_N (h := h) p (fun e' h => ko e' (List.mem_cons_of_mem _ h)) r
        obtain ⟨ek, rv⟩ := r1
        rw [← hv] at rv
        obtain ⟨k', hk', hh⟩ := ko e List.mem_cons_self
        have ke : k' = v.1 := (mixKind P w).inj _ _ _ hk' hk
        rw [ke] at hh
        have : ∃ x : NK × Value × Value, e = entN w x ∧ nkOf q.1 = x.1 ∧ RelV (kV q.1) x.2.1 ∧ RelV q.2 x.2.2 ∧ NestedIs h x.1 x.2.1 ∧ x.1.depth ≤ 8 := by
          rcases keyIs_shape hk with ⟨i, t, e1, e2⟩ | ⟨x, t, e1, e2⟩
          · refine ⟨(.num i, e.key, e.val), ?_, by rw [ek, e1]; rfl, by rw [ek, e1, e2]; exact ⟨t, rfl⟩, rv, by rw [e2]; exact .int i t, by simp [NestedKey.depth]⟩
            rw [e1] at hh
            show e = { hash := hashInt i, key := e.key, val := e.val }
            rw [← show e.hash = hashInt i from hh]
          · refine ⟨(.text x, e.key, e.val), ?_, by rw [ek, e1]; rfl, by rw [ek, e1, e2]; exact ⟨t, rfl⟩, rv, by rw [e2]; exact .text x t, by simp [NestedKey.depth]⟩
            rw [e1] at hh
            show e = { hash := hashStr w x, key := e.key, val := e.val }
            rw [← show e.hash = hashStr w x from hh]
        obtain ⟨x, c1, c2, c3, c4, c5⟩ := this
        refine ⟨x :: xs, by rw [List.map_cons, ← h1, ← c1], .cons ⟨c2, c3, c4⟩ h2, fun y hy => ?_⟩
        rcases List.mem_cons.mp hy with rfl | z
        · exact c5
        · exact h3 y z
/-- d[k] = v: a key as dicts have them, or None or (text,), new -/
def rSetX (w : World) : TSet := fun o i v H Q => (∃ d H', o = .ref d ∧ DPut H d i v H' ∧ Q H') ∨
  ∃ (d : Addr) (kvs : List (Key × V)) (k : NK), o = .ref d ∧ H d = some (.dK kvs) ∧ (kvs.map (·.1)).Nodup ∧ kvs.length < 1000 ∧ KeyVN H k i ∧ (∀ z, k ≠ .text z) ∧ (∀ z, k ≠ .num z) ∧ Q (upd H d (NixO w d (kvs.map toN ++ [(k, i, v)])))
theorem set_X {X : Cx} {w : World} (hw : X.w = w) (hu : X.A.units + 64 < cLine) : PSet X (rSetX w) := by
  subst hw
  intro pins s σ H o i v ov iv u Q I ro ri rv h
  rcases h with ⟨d, H', rfl, g, q⟩ | ⟨d, kvs, k, rfl, h1, nd, h2, h3, h4, h5, q⟩
  · cases (show ov = Value.ref d from ro)
    exact d_setItem (by omega) I g ri rv fun s4 I4 => ⟨_, I4, q⟩
  · cases (show ov = Value.ref d from ro)
    obtain ⟨_, hs, vs, rel, ob, es, ep, o1, o2, o3, o4, o5, o6⟩ := dk_of I.hok h1
    obtain ⟨xs, c1, c2, c3⟩ := pairs_N (h := s.heap) o5 (fun e he => o4 e (by rw [← Array.mem_toList_iff]; exact he)) rel
    have hk : xs.map (·.1) = kvs.map (fun kv => nkOf kv.1) := by
      rw [← c2.keys, List.map_map]; rfl
    have hl : xs.length = kvs.length := by
      have := congrArg List.length hk
      rwa [List.length_map, List.length_map] at this
    have hn : ∀ x ∈ xs, x.1 ≠ k := fun x hx e => by
      have : x.1 ∈ kvs.map (fun kv => nkOf kv.1) := by rw [← hk]; exact List.mem_map.mpr ⟨x, hx, rfl⟩
      obtain ⟨kv, _, e2⟩ := List.mem_map.mp this
      rw [e] at e2
      cases hq : kv.1 with
      | inl j => rw [hq] at e2; exact h5 j e2.symm
      | inr j => rw [hq] at e2; exact h4 j e2.symm
    have hnd : (xs.map (·.1)).Nodup := by
      rw [hk, show (fun kv : Key × V => nkOf kv.1) = nkOf ∘ (·.1) from rfl, ← List.map_map]
      exact (List.pairwise_map.mpr (List.Pairwise.imp (fun a e => a (nkOf_inj e)) nd))
    refine setItem_N (by omega) (isN_of I h3 ri) h3.low ⟨ob, es, ep, o1, o2, o3, c1⟩ ⟨c3, hnd⟩ h4 hn (by rw [hl]; have := sizeLine_eq; omega) fun h' tk d1 d2 => ⟨_, d_write I (by rw [h1]; exact True.intro) d2 (let ⟨o, _, _, z, _⟩ := d1; ⟨o, z⟩) (nix_obj hs (c2.snoc ri rv) d1), q⟩
end Cn
set_option Elab.async false
set_option linter.all false
set_option maxRecDepth 100000
set_option maxHeartbeats 2000000
/-! repr of a dict that holds lists of anything -/
namespace Cn
open PySem PySem.Spec PyProof.Rows L2
def nkD : NK → PyData
  | .none => .none
  | .num i => .int i
  | .text x => .str x
  | .tup [.text x] => .tuple [.str x]
  | .tup _ => .none
theorem nkD_of (k : Key) : nkD (nkOf k) = kyD k := by cases k <;> rfl
section
variable {P : Program} {w : World} {h : Heap}
/-- data that can be read and shown -/
def Good (P : Program) (w : World) (h : Heap) (u : Value) (d : PyData) : Prop := (∃ as, Reads h u d as) ∧ ∃ bs, ReadAtMost h d.depth bs ∧ ReprK P w bs h d.depth u d.shown
def GoodAll (P : Program) (w : World) (h : Heap) (us : List Value) (ds : List PyData) : Prop := (∃ as, ReadsAll h us ds as) ∧ ∃ bs, ReadAtMost h (PyData.depthAll ds) bs ∧ ReprAllK P w bs h (PyData.depthAll ds) us (PyData.shownAll ds)
theorem GoodAll.nil : GoodAll P w h [] [] := ⟨⟨_, .nil⟩, [], (fun _ h => nomatch h), by simp only [PyData.shownAll]; exact .nil⟩
theorem GoodAll.cons {u : Value} {d : PyData} {us : List Value} {ds : List PyData} (x : Good P w h u d) (y : GoodAll P w h us ds) : GoodAll P w h (u :: us) (d :: ds) := by
  obtain ⟨⟨a1, r1⟩, b1, hb1, k1⟩ := x
  obtain ⟨⟨a2, r2⟩, b2, hb2, k2⟩ := y
  refine ⟨⟨_, .cons r1 r2⟩, b1 ++ b2, ?_, ?_⟩
  · intro b hm
    simp only [PyData.depthAll]
    rcases List.mem_append.mp hm with hm | hm
    · obtain ⟨d', as', r', hd'⟩ := hb1 b hm
      exact ⟨d', as', r', Nat.le_trans hd' (Nat.le_max_left _ _)⟩
    · obtain ⟨d', as', r', hd'⟩ := hb2 b hm
      exact ⟨d', as', r', Nat.le_trans hd' (Nat.le_max_right _ _)⟩
  · simp only [PyData.depthAll, PyData.shownAll]
    exact .cons ((k1.more fun b hb => List.mem_append_left _ hb).level_le (Nat.le_max_left _ _)) (k2.more_le (fun b hb => List.mem_append_right _ hb) (Nat.le_max_right _ _))
theorem Good.list {a : Addr} {o : Obj} {us : List Value} {n : Nat} {ds : List PyData} (h1 : h.get? a = some o) (h2 : o.cls = .type "list") (h3 : o.data = .seq us.toArray n) (g : GoodAll P w h us ds) : Good P w h (.ref a) (.list ds) := by
  obtain ⟨⟨as, ra⟩, bs, hb, hk⟩ := g
  have r : Reads h (.ref a) (.list ds) _ := .list h1 h2 h3 (by simpa using ra)
  have hna : a ∉ bs := not_mem_of_deeper r (by simp only [PyData.depth]; omega) hb
  refine ⟨⟨_, r⟩, a :: bs, ReadAtMost.cons r (by simp only [PyData.depth]; omega) hb, ?_⟩
  simp only [PyData.depth, PyData.shown]
  cases us with
  | nil =>
    cases ra
    simp only [PyData.shownAll, listText_nil]
    exact ReprK.listEmpty h1 h2 h3
  | cons x l => exact ReprK.list h1 h2 h3 hna (by simpa using hk.length_eq) (fun i y e => hk.item i y (by simpa using e))
end
section
variable {X : Cx} {pins : List (Addr × Obj)} {σ : L2.St} {H : Hp} {s : Shared}
theorem dp_nodict {K : PySem.W.Frag} {H : Hp} : ∀ {d : PyData} {v : V}, Dp K H v d → d.hasDict = false
  | _, _, h => dp_nd h
where
  dp_nd : ∀ {d : PyData} {v : V}, Dp K H v d → d.hasDict = false
  | .none, _, _ => by simp [PyData.hasDict]
  | .bool _, _, _ => by simp [PyData.hasDict]
  | .int _, _, _ => by simp [PyData.hasDict]
  | .str _, _, _ => by simp [PyData.hasDict]
  | .list ds, _, .lst _ hs => by simp only [PyData.hasDict]; exact dps_nd hs
  | .tuple ds, _, .tup _ hs => by simp only [PyData.hasDict]; exact dps_nd hs
  dps_nd : ∀ {ds : List PyData} {vs : List V}, DpAll K H vs ds → PyData.hasDictAll ds = false
  | [], _, _ => by simp [PyData.hasDictAll]
  | d :: ds, _, .cons h hs => by simp only [PyData.hasDictAll, dp_nd h, dps_nd hs, Bool.or_self]
theorem good_dp (I : L2.Inv X pins σ H s) {v : V} {d : PyData} {u : Value} (g : Dp X.K H v d) (r : RelV v u) (hs : d.showable = true) (hz : d.shown.length ≤ sizeLine) : Good X.prog X.w s.heap u d := by
  obtain ⟨as, ra⟩ := Dp.reads I d v u g r
  exact ⟨⟨as, ra⟩, ReprK.of_reads ra hs (fun z => by rw [dp_nodict g] at z; cases z) hz⟩
theorem good_empty (I : L2.Inv X pins σ H s) {a : Addr} (e : H a = some (.dK [])) : Good X.prog X.w s.heap (.ref a) (.dict []) := by
  obtain ⟨_, hsys, vs, hkv, o, es, ep, h1, hcls, h3, _, hp, _⟩ := dk_of I.hok e
  cases hkv
  obtain ⟨el⟩ := es
  have hp : Pairs (mixKind X.prog X.w) el [] := hp
  cases hp
  have r : Reads s.heap (.ref a) (.dict []) _ := .dict h1 hcls.1 h3 .nil .nil
  refine ⟨⟨_, r⟩, [a], fun b hb => ?_, ?_⟩
  · rw [List.mem_singleton.mp hb]
    exact ⟨_, _, r, Nat.le_refl _⟩
  · have k := ReprK.dict (prog := X.prog) (w := X.w) (as := []) (d := 0) h1 hcls.1 h3 hsys (by simp) .nil
    have e1 : (PyData.dict []).depth = 0 + 1 := by simp [PyData.depth, PyData.depthKv]
    have e2 : (PyData.dict []).shown = dictText [] := by simp only [PyData.shown, PyData.shownKv]
    rw [e1, e2]
    exact k
theorem good_row (I : L2.Inv X pins σ H s) {v : V} {d : PyData} {u : Value} (g : RowA X.K H v d) (r : RelV v u) (hs : d.showable = true) (hz : d.shown.length ≤ sizeLine) : Good X.prog X.w s.heap u d := by
  rcases g with g | ⟨⟨a, rfl, e⟩, rfl⟩
  · exact good_dp I g r hs hz
  · cases (show u = Value.ref a from r)
    exact good_empty I e
theorem good_each {R : V → PyData → Prop} (one : ∀ v d u, R v d → RelV v u → d.showable = true → d.shown.length ≤ sizeLine → Good X.prog X.w s.heap u d) : ∀ {vs : List V} {ds : List PyData} {us : List Value}, Each R vs ds → Vals vs us → PyData.showableAll ds = true → (∀ t ∈ PyData.shownAll ds, t.length ≤ sizeLine) → GoodAll X.prog X.w s.heap us ds
  | [], [], [], _, _, _, _ => .nil
  | [], _ :: _, _, h, _, _, _ => by have := h.1; simp at this
  | _ :: _, [], _, h, _, _, _ => by have := h.1; simp at this
  | v :: vs, d :: ds, u :: us, h, r, hs, hz => by
    cases r with
    | cons r1 r2 =>
      have hs' : d.showable = true ∧ PyData.showableAll ds = true := by simpa [PyData.showableAll] using hs
      exact .cons (one _ _ _ (h.2 0 v d rfl rfl) r1 hs'.1 (hz _ (by simp only [PyData.shownAll]; exact List.mem_cons_self ..)))
        (good_each one ⟨by have := h.1; simpa using this, fun i a b p q => h.2 (i + 1) a b (by simpa using p) (by simpa using q)⟩ r2 hs'.2 (fun t ht => hz t (by simp only [PyData.shownAll]; exact List.mem_cons_of_mem _ ht)))
theorem good_rows (I : L2.Inv X pins σ H s) {v : V} {d : PyData} {u : Value} (g : RowsA X.K H v d) (r : RelV v u) (hs : d.showable = true) (hz : d.shown.length ≤ sizeLine) : Good X.prog X.w s.heap u d := by
  rcases g with g | ⟨a, xs, ds, rfl, e, he, rfl⟩
  · exact good_row I g r hs hz
  · cases (show u = Value.ref a from r)
    obtain ⟨_, its, n, rv, h1⟩ := (show ObjOk X.prog X.w H s.heap a (.lst xs) from I.hok a _ e)
    have hz' : (listText (PyData.shownAll ds)).length ≤ sizeLine := by simpa only [PyData.shown] using hz
    exact Good.list h1 rfl rfl (good_each (fun v d u g r => good_row I g r) he rv (by simpa [PyData.showable] using hs) (fun t ht => Nat.le_trans (listText_mem_le ht) hz'))
/-- what is shown: data, or a dict of lists -/
def OthD (K : PySem.W.Frag) (w : World) (H : Hp) (v : V) (dd : PyData) : Prop :=
  Dp K H v dd ∨ (∃ (a : Addr) (kvs : List (Key × V)) (ds : List PyData), v = .ref a ∧ H a = some (.dK kvs) ∧ Each (RowsA K H) (kvs.map (·.2)) ds ∧ dd = .dict ((kvs.map fun p => nkD (nkOf p.1)).zip ds)) ∨
  ∃ (a : Addr) (ms : Ns) (ds : List PyData), v = .ref a ∧ H a = some (NixO w a ms) ∧ NsOk H ms ∧ Each (RowsA K H) (ms.map (·.2.2)) ds ∧ dd = .dict ((ms.map fun p => nkD p.1).zip ds)
structure GX (d : PyData) : Prop where
  sh : d.showable = true
  ls : d.leavesShort 13 = true
  dp : d.depth ≤ 20
  wt : d.weight ≤ 1000000
theorem show_dict {A : Around} {E : Value → Shared → Prop} {Q : Value → Shared → Prop} {a : Addr} {o : Obj} {es : Array DictEntry} {ep : Nat} {ks ds : List PyData} (I : L2.Inv X pins σ H s) (hg : A.guards = some []) (hu : A.units + 64 < cLine)
    (h1 : s.heap.get? a = some o) (hc : o.cls = .type "dict") (h3 : o.data = .dict es ep) (hsys : (a == sysModules) = false) {as : List Addr} (h4 : ReadsAll s.heap (es.toList.map (·.key)) ks as) (nk : PyData.hasDictAll ks = false)
    (g : ∀ t, t = ds → PyData.showableAll ds = true → (∀ t ∈ PyData.shownAll ds, t.length ≤ sizeLine) → GoodAll X.prog X.w s.heap (es.toList.map (·.val)) ds) (hl : ks.length = ds.length) (gx : GX (.dict (ks.zip ds)))
    (q : ∀ u s', L2.Inv X pins σ H s' → Q (.str (PyData.dict (ks.zip ds)).shown u) s') : wpAny (model X.prog X.w) A (call (.builtin "repr") [.ref a]) Q E s := by
  obtain ⟨z1, z2⟩ := zip_fst hl
  have hsz : (PyData.dict (ks.zip ds)).shown.length ≤ sizeLine := PyData.shown_fits (B := 13) (by decide) (by decide) gx.ls (Nat.le_trans gx.wt (by decide))
  have gsh := gx.sh
  have hdp := gx.dp
  generalize hkd : ks.zip ds = kd at *
  have hz' : (dictText (PyData.shownKv kd)).length ≤ sizeLine := by simpa only [PyData.shown] using hsz
  obtain ⟨hs1, hs2⟩ := PyData.showableKv_split kd (by simpa [PyData.showable] using gsh)
  have h4' : ReadsAll s.heap (es.toList.map (·.key)) (kd.map (·.1)) as := by rw [z1]; exact h4
  obtain ⟨b1, hb1, k1⟩ := ReprAllK.of_readsAll (prog := X.prog) (w := X.w) h4' hs1 (fun z => by rw [z1, nk] at z; cases z) (fun t ht => let ⟨p, hp, hl⟩ := PyData.shownKv_key_le kd t ht; Nat.le_trans hl (Nat.le_trans (dictText_mem_le hp) hz'))
  have g2 := g _ rfl (by rw [← z2]; exact hs2) (fun t ht => let ⟨p, hp, hl⟩ := PyData.shownKv_val_le kd t (by rw [z2]; exact ht); Nat.le_trans hl (Nat.le_trans (dictText_mem_le hp) hz'))
  rw [← z2] at g2
  obtain ⟨⟨bs₁, h5'⟩, b2, hb2, k2⟩ := g2
  have hb : ReadAtMost s.heap (PyData.depthKv kd) (b1 ++ b2) := (hb1.mono (PyData.depthAll_keys_le kd)).append (hb2.mono (PyData.depthAll_vals_le kd))
  have hna : a ∉ b1 ++ b2 := not_mem_of_deeper (.dict h1 hc h3 h4' h5') (by simp only [PyData.depth]; omega) hb
  simp only [PyData.depth] at hdp
  refine call_repr_slot (by omega) ⟨o, h1, hc⟩ F.slot_dict_repr ?_
  refine call_dict_reprK h1 hc h3 hsys hna (ReprEntriesK.of_two es.toList _ _ (k1.more_le (fun b hb => List.mem_append_left _ hb) (PyData.depthAll_keys_le kd)) (k2.more_le (fun b hb => List.mem_append_right _ hb) (PyData.depthAll_vals_le kd))) hg (fun b _ => Clear.nil b) (by show A.units + 1 + _ < cLine; omega) (fun b o e => e) (fun h' u tk hk => ?_) (by rw [← PyData.shownKv_eq]; exact hz')
  refine ⟨_, _, rfl, ?_⟩
  rw [← PyData.shownKv_eq]
  have := q u { s with heap := h', toks := tk } (I.kept hk)
  simp only [PyData.shown] at this
  exact this
theorem show_ref {A : Around} {E : Value → Shared → Prop} {Q : Value → Shared → Prop} {a : Addr} {dd : PyData} (I : L2.Inv X pins σ H s) (hg : A.guards = some []) (hu : A.units + 64 < cLine) (o : Dp X.K H (.ref a) dd) (gx : GX dd) (hsz : dd.shown.length ≤ sizeLine)
    (q : ∀ t s', L2.Inv X pins σ H s' → Q (.str dd.shown t) s') : wpAny (model X.prog X.w) A (call (.builtin "repr") [.ref a]) Q E s := by
  obtain ⟨as, ra⟩ := Dp.reads I dd (.ref a) _ o (show RelV (.ref a) (.ref a) from rfl)
  exact repr_of_reads' (prog := X.prog) (w := X.w) ra gx.sh (fun z => by rw [dp_nodict o] at z; cases z) hg (by have := gx.dp; omega) (fun b o e => e) (fun h' u tk hk => q u _ (I.kept hk)) hsz
theorem reads_keysD {P : Program} {w : World} {h : Heap} : ∀ {es : List DictEntry} {vs : List (Key × Value)} {kvs : List (Key × V)}, Pairs (mixKind P w) es vs → KV kvs vs → (∃ as, ReadsAll h (es.map (·.key)) (kvs.map fun p => nkD (nkOf p.1)) as) ∧ Vals (kvs.map (·.2)) (es.map (·.val))
  | [], [], [], _, _ => ⟨⟨[], by rw [List.map_nil, List.map_nil]; exact .nil⟩, by rw [List.map_nil, List.map_nil]; exact .nil⟩
  | e :: es, v :: vs, q :: kvs, p, k => by
    cases p with
    | cons hk hv p =>
      cases k with
      | cons k1 k =>
        obtain ⟨⟨as, h1⟩, h2⟩ := reads_keysD (h := h) p k
        obtain ⟨ek, rv⟩ := k1
        rw [← hv] at rv
        rw [← ek] at hk
        have r2 : ∃ as, Reads h e.key (nkD (nkOf q.1)) as := by
          rcases keyIs_shape hk with ⟨i, t, e1, e2⟩ | ⟨x, t, e1, e2⟩
          · rw [e1, e2]; exact ⟨_, .int i t⟩
          · rw [e1, e2]; exact ⟨_, .str x t⟩
        obtain ⟨a2, r2⟩ := r2
        exact ⟨⟨_, .cons r2 h1⟩, .cons rv h2⟩
theorem key_nodict : ∀ k : NK, (nkD k).hasDict = false
  | .none => by simp [nkD, PyData.hasDict]
  | .num _ => by simp [nkD, PyData.hasDict]
  | .text _ => by simp [nkD, PyData.hasDict]
  | .tup [] => by simp [nkD, PyData.hasDict]
  | .tup [.text _] => by simp [nkD, PyData.hasDict, PyData.hasDictAll]
  | .tup [.none] => by simp [nkD, PyData.hasDict]
  | .tup [.num _] => by simp [nkD, PyData.hasDict]
  | .tup [.tup _] => by simp [nkD, PyData.hasDict]
  | .tup (_ :: _ :: _) => by simp [nkD, PyData.hasDict]
theorem keys_nodict {α : Type} (f : α → NK) : ∀ l : List α, PyData.hasDictAll (l.map fun p => nkD (f p)) = false
  | [] => by simp [PyData.hasDictAll]
  | x :: l => by simp only [List.map_cons, PyData.hasDictAll, key_nodict, keys_nodict f l, Bool.or_self]
theorem reads_keysN (I : L2.Inv X pins σ H s) : ∀ {ms : Ns} {xs : List (NK × Value × Value)}, RelN ms xs → (∀ m ∈ ms, KeyVN H m.1 m.2.1) → (∃ as, ReadsAll s.heap (xs.map (·.2.1)) (ms.map fun p => nkD p.1) as) ∧ Vals (ms.map (·.2.2)) (xs.map (·.2.2))
  | [], [], _, _ => ⟨⟨_, .nil⟩, .nil⟩
  | m :: ms, x :: xs, r, hk => by
    cases r with
    | cons a r =>
      obtain ⟨⟨as, h1⟩, h2⟩ := reads_keysN I r fun m hm => hk m (List.mem_cons_of_mem _ hm)
      obtain ⟨ek, rk, rv⟩ := a
      have r2 : ∃ as, Reads s.heap x.2.1 (nkD m.1) as := by
        have z := hk m List.mem_cons_self
        generalize hm1 : m.1 = k at z
        generalize hm2 : m.2.1 = y at z rk
        cases z with
        | none => rw [show x.2.1 = Value.none from rk]; exact ⟨_, .none⟩
        | int i => obtain ⟨t, e⟩ := (show ∃ t, x.2.1 = Value.int i t from rk); rw [e]; exact ⟨_, .int i t⟩
        | text y => obtain ⟨t, e⟩ := (show ∃ t, x.2.1 = Value.str y t from rk); rw [e]; exact ⟨_, .str y t⟩
        | @one b y e =>
          rw [show x.2.1 = Value.ref b from rk]
          obtain ⟨_, its, rv, o, h1, h2, n, h3⟩ := (show ObjOk X.prog X.w H s.heap b (.tup [.str y]) from I.hok b _ e)
          obtain ⟨u, rfl, ru⟩ := vals1 rv
          obtain ⟨t, rfl⟩ := (show ∃ t, u = Value.str y t from ru)
          exact ⟨_, .tuple h1 h2 h3 (.cons (.str y t) .nil)⟩
      obtain ⟨a2, r2⟩ := r2
      exact ⟨⟨_, .cons r2 h1⟩, .cons rv h2⟩
end
def rReprX (K : PySem.W.Frag) (w : World) : List V → Hp → VK → Prop := fun xs H Q => ∃ v dd, xs = [v] ∧ OthD K w H v dd ∧ GX dd ∧ Q (.str dd.shown) H
theorem call_reprX {X : Cx} {K : PySem.W.Frag} {w : World} (hK : X.K = K) (hw : X.w = w) (hg : X.A.guards = some []) (hu : X.A.units + 64 < cLine) : CallR X (.builtin "repr") (rReprX K w) := by
  subst hK
  subst hw
  intro pins s σ H xs us Q I r h
  obtain ⟨v, dd, rfl, o, gx, q⟩ := h
  obtain ⟨u, rfl, ru⟩ := vals1 r
  have hsz : dd.shown.length ≤ sizeLine := PyData.shown_fits (B := 13) (by decide) (by decide) gx.ls (Nat.le_trans gx.wt (by decide))
  rcases o with o | ⟨a, kvs, ds, rfl, ha, he, rfl⟩ | ⟨a, ms, ds, rfl, ha, m, he, rfl⟩
  · have fin : ∀ t s', L2.Inv X pins σ H s' → ∃ v' H', L2.Inv X pins σ H' s' ∧ RelV v' (.str dd.shown t) ∧ Q v' H' := fun t s' I' => ⟨.str dd.shown, H, I', ⟨t, rfl⟩, q⟩
    have gsh := gx.sh
    cases o with
    | non =>
      cases (show u = Value.none from ru)
      simp only [PyData.shown] at fin hsz
      exact PySem.P.repr_of_none (fin _ _ (I.tok _))
    | bl b =>
      cases (show u = Value.bool b from ru)
      simp only [PyData.shown] at fin hsz
      exact PySem.P.repr_of_bool (fin _ _ (I.tok _))
    | int i =>
      obtain ⟨t, rfl⟩ := (show ∃ t, u = Value.int i t from ru)
      simp only [PyData.shown] at fin hsz
      exact PySem.P.repr_of_int (by simpa [PyData.showable] using gsh) (fin _ _ (I.tok _))
    | str x =>
      obtain ⟨t, rfl⟩ := (show ∃ t, u = Value.str x t from ru)
      simp only [PyData.shown] at fin hsz
      exact PySem.P.repr_of_str (fin _ _ (I.tok _)) hsz
    | @lst a xs ds h1 h2 =>
      cases (show u = Value.ref a from ru)
      exact show_ref I hg hu (.lst h1 h2) gx hsz fin
    | @tup a xs ds h1 h2 =>
      cases (show u = Value.ref a from ru)
      exact show_ref I hg hu (.tup h1 h2) gx hsz fin
  · cases (show u = Value.ref a from ru)
    obtain ⟨_, hsys, vs, hkv, ob, es, ep, h1, hcls, h3, _, hp, _⟩ := dk_of I.hok ha
    obtain ⟨⟨as, h4⟩, hv⟩ := reads_keysD (h := s.heap) hp hkv
    refine show_dict I hg hu h1 hcls.1 h3 hsys h4 (keys_nodict _ _) (fun _ _ hs hz => good_each (fun v d u g r => good_rows I g r) he hv hs hz) (by have := he.1; rw [List.length_map] at this ⊢; exact this) gx fun t s' I' => ⟨.str _, H, I', ⟨t, rfl⟩, q⟩
  · cases (show u = Value.ref a from ru)
    obtain ⟨hsys, xs, rel, ⟨ob, es, ep, h1, hcls, h3, hE⟩, _, _⟩ := nix_of I ha m
    obtain ⟨⟨as, h4⟩, hv⟩ := reads_keysN I rel m.ks
    have e1 : es.toList.map (·.key) = xs.map (·.2.1) := by rw [hE, List.map_map]; rfl
    have e2 : es.toList.map (·.val) = xs.map (·.2.2) := by rw [hE, List.map_map]; rfl
    refine show_dict I hg hu h1 hcls.1 h3 hsys (by rw [e1]; exact h4) (keys_nodict (fun p : NK × V × V => p.1) _) (fun _ _ hs hz => by rw [e2]; exact good_each (fun v d u g r => good_rows I g r) he hv hs hz) (by have := he.1; rw [List.length_map] at this ⊢; exact this) gx fun t s' I' => ⟨.str _, H, I', ⟨t, rfl⟩, q⟩
end Cn
set_option Elab.async false
set_option linter.all false
set_option maxRecDepth 100000
set_option maxHeartbeats 400000
/-! a value that may be a database -/
namespace Cn
open PySem PySem.Spec PyProof.Rows L2
inductive ODat
  | plain (d : PyData)
  | dict (es : List (NK × PyData))
def ODat.data : ODat → PyData
  | .plain d => d
  | .dict es => .dict ((es.map fun p => nkD p.1).zip (es.map (·.2)))
def MayR (K : PySem.W.Frag) (w : World) (H : Hp) (v : V) : ODat → Prop
  | .plain d => Dp K H v d
  | .dict es => ∃ a, v = .ref a ∧ ((∃ kvs : List (Key × V), H a = some (.dK kvs) ∧ kvs.map (fun p => nkOf p.1) = es.map (·.1) ∧ Each (RowsA K H) (kvs.map (·.2)) (es.map (·.2))) ∨
      ∃ ms, H a = some (NixO w a ms) ∧ NsOk H ms ∧ ms.map (·.1) = es.map (·.1) ∧ Each (RowsA K H) (ms.map (·.2.2)) (es.map (·.2)))
def valE (es : List (NK × PyData)) (k : NK) : Option PyData := (es.find? fun x => decide (x.1 = k)).map (·.2)
theorem MayR.show {K : PySem.W.Frag} {w : World} {H : Hp} {v : V} {o : ODat} (h : MayR K w H v o) : OthD K w H v o.data := by
  cases o with
  | plain d => exact .inl h
  | dict es =>
    obtain ⟨a, rfl, ⟨kvs, e, hk, he⟩ | ⟨ms, e, m, hk, he⟩⟩ := h
    · refine .inr (.inl ⟨a, kvs, _, rfl, e, he, ?_⟩)
      show PyData.dict _ = PyData.dict _
      rw [show (es.map fun p => nkD p.1) = (es.map (·.1)).map nkD from by rw [List.map_map]; rfl, ← hk, List.map_map]; rfl
    · refine .inr (.inr ⟨a, ms, _, rfl, e, m, he, ?_⟩)
      show PyData.dict _ = PyData.dict _
      rw [show (es.map fun p => nkD p.1) = (es.map (·.1)).map nkD from by rw [List.map_map]; rfl, ← hk, List.map_map]; rfl
theorem but_tup {H H' : Hp} (b : But [] H H') : ∀ (a : Addr) (x : List V), H a = some (.tup x) → H' a = some (.tup x) := fun a x e => b.at e
theorem MayR.later {K : PySem.W.Frag} {w : World} {H H' : Hp} {v : V} {o : ODat} (b : But [] H H') (h : MayR K w H v o) : MayR K w H' v o := by
  cases o with
  | plain d => exact dp_later b h
  | dict es =>
    obtain ⟨a, rfl, ⟨kvs, e, hk, he⟩ | ⟨ms, e, m, hk, he⟩⟩ := h
    · exact ⟨a, rfl, .inl ⟨kvs, b.at e, hk, he.mono fun _ _ => RowsA.later b⟩⟩
    · exact ⟨a, rfl, .inr ⟨ms, b.at e, m.to (but_tup b), hk, he.mono fun _ _ => RowsA.later b⟩⟩
def RelE (K : PySem.W.Frag) (H : Hp) : Option V → Option PyData → Prop
  | some v, some d => RowsA K H v d
  | none, none => True
  | _, _ => False
theorem RelE.some {K : PySem.W.Frag} {H : Hp} {a : Option V} {b : Option PyData} (h : RelE K H a b) : a.isSome = b.isSome := by
  cases a <;> cases b <;> first | rfl | exact h.elim
theorem find_k {K : PySem.W.Frag} {H : Hp} (z : Str) : ∀ {kvs : List (Key × V)} {es : List (NK × PyData)}, kvs.map (fun p => nkOf p.1) = es.map (·.1) → Each (RowsA K H) (kvs.map (·.2)) (es.map (·.2)) → RelE K H (valV kvs (.inr z)) (valE es (.text z))
  | [], [], _, _ => True.intro
  | [], _ :: _, h, _ => by simp at h
  | _ :: _, [], h, _ => by simp at h
  | q :: kvs, e :: es, h, he => by
    rw [List.map_cons, List.map_cons, List.cons.injEq] at h
    have ih := find_k z h.2 ⟨by have := he.1; simpa using this, fun i a b p q => he.2 (i + 1) a b (by simpa using p) (by simpa using q)⟩
    have h0 := he.2 0 q.2 e.2 rfl rfl
    unfold valV valE at ih ⊢
    by_cases c : e.1 = .text z
    · have c' : q.1 = .inr z := nkOf_inj (by rw [h.1, c]; rfl)
      rw [List.find?_cons_of_pos (p := fun x : NK × PyData => decide (x.1 = .text z)) (decide_eq_true c), List.find?_cons_of_pos (p := fun kv : Key × V => decide (kv.1 = .inr z)) (decide_eq_true c')]
      exact h0
    · have c' : ¬ q.1 = .inr z := fun x => c (by rw [← h.1, x]; rfl)
      rw [List.find?_cons_of_neg (p := fun x : NK × PyData => decide (x.1 = .text z)) (by rw [decide_eq_true_iff]; exact c), List.find?_cons_of_neg (p := fun kv : Key × V => decide (kv.1 = .inr z)) (by rw [decide_eq_true_iff]; exact c')]
      exact ih
theorem find_n {K : PySem.W.Frag} {H : Hp} (z : Str) : ∀ {ms : Ns} {es : List (NK × PyData)}, ms.map (·.1) = es.map (·.1) → Each (RowsA K H) (ms.map (·.2.2)) (es.map (·.2)) → RelE K H (valN ms (.text z)) (valE es (.text z))
  | [], [], _, _ => True.intro
  | [], _ :: _, h, _ => by simp at h
  | _ :: _, [], h, _ => by simp at h
  | q :: ms, e :: es, h, he => by
    rw [List.map_cons, List.map_cons, List.cons.injEq] at h
    have ih := find_n z h.2 ⟨by have := he.1; simpa using this, fun i a b p q => he.2 (i + 1) a b (by simpa using p) (by simpa using q)⟩
    have h0 := he.2 0 q.2.2 e.2 rfl rfl
    unfold valN valE at ih ⊢
    by_cases c : e.1 = .text z
    · rw [List.find?_cons_of_pos (p := fun x : NK × PyData => decide (x.1 = .text z)) (decide_eq_true c), List.find?_cons_of_pos (p := fun x : NK × V × V => decide (x.1 = .text z)) (by rw [decide_eq_true_iff, h.1]; exact c)]
      exact h0
    · rw [List.find?_cons_of_neg (p := fun x : NK × PyData => decide (x.1 = .text z)) (by rw [decide_eq_true_iff]; exact c), List.find?_cons_of_neg (p := fun x : NK × V × V => decide (x.1 = .text z)) (by rw [decide_eq_true_iff, h.1]; exact c)]
      exact ih
theorem MayR.dx {K : PySem.W.Frag} {w : World} {H : Hp} {v : V} {es : List (NK × PyData)} (h : MayR K w H v (.dict es)) : ∃ a f, v = .ref a ∧ DX w H a es.length f ∧ ∀ z, RelE K H (f z) (valE es (.text z)) := by
  obtain ⟨a, rfl, ⟨kvs, e, hk, he⟩ | ⟨ms, e, m, hk, he⟩⟩ := h
  · exact ⟨a, fun z => valV kvs (.inr z), rfl, .inl ⟨kvs, e, by have := congrArg List.length hk; rwa [List.length_map, List.length_map] at this, fun _ => rfl⟩, fun z => find_k z hk he⟩
  · exact ⟨a, fun z => valN ms (.text z), rfl, .inr ⟨ms, e, m, by have := congrArg List.length hk; rwa [List.length_map, List.length_map] at this, fun _ => rfl⟩, fun z => find_n z hk he⟩
theorem DX.later {w : World} {H H' : Hp} {a : Addr} {n : Nat} {f : Str → Option V} (b : But [] H H') (h : DX w H a n f) : DX w H' a n f := by
  rcases h with ⟨kvs, e, z⟩ | ⟨ms, e, m, z⟩
  · exact .inl ⟨kvs, b.at e, z⟩
  · exact .inr ⟨ms, b.at e, m.to (but_tup b), z⟩
theorem RelE.later {K : PySem.W.Frag} {H H' : Hp} {a : Option V} {b : Option PyData} (bb : But [] H H') (h : RelE K H a b) : RelE K H' a b := by
  cases a <;> cases b <;> first | exact h | exact RowsA.later bb h
def isDict : ODat → Bool
  | .plain _ => false
  | .dict _ => true
theorem MayR.isd {K : PySem.W.Frag} {w : World} {H : Hp} {v : V} {o : ODat} {Q : VK} (h : MayR K w H v o) (q : Q (.bl (isDict o)) H) : rIsiX K w [v, .ty "dict"] H Q := by
  cases o with
  | plain d =>
    refine .inl (isi (Dp.ty h) (by simp) ?_)
    have e : subTy (dty d) "dict" = false := by cases h <;> rfl
    rw [e]; exact q
  | dict es =>
    obtain ⟨a, rfl, ⟨kvs, e, _⟩ | ⟨ms, e, _⟩⟩ := h
    · exact .inl (isi (d := .dict []) (.base (.dK e)) (by simp) q)
    · exact .inr ⟨a, ms, rfl, e, q⟩
def dbB (n : Nat) (ts : List (Str × Nat)) : ODat → Bool
  | .plain _ => false
  | .dict es => (es.length == n) && ts.all fun t => match valE es (.text t.1) with
    | none => false
    | some e => rowsB t.2 e
/-- what is drawn is small -/
def BndD (d : PyData) : Prop := ∀ ds, d = .list ds → ds.length < 64 ∧ ∀ x ∈ ds, ∀ es, x = .tuple es → es.length ≤ 100 ∧ ∀ e ∈ es, e.canLay0 = true ∧ e.depth ≤ 8
def BndO : ODat → Prop
  | .plain _ => True
  | .dict es => ∀ p ∈ es, BndD p.2
theorem BndO.at {es : List (NK × PyData)} {k : NK} {e : PyData} (h : BndO (.dict es)) (q : valE es k = some e) : BndD e := by
  unfold valE at q
  obtain ⟨p, hp, rfl⟩ := Option.map_eq_some_iff.mp q
  exact h p (List.mem_of_find?_eq_some hp)
end Cn
set_option Elab.async false
set_option linter.all false
set_option maxRecDepth 100000
set_option maxHeartbeats 1000000
/-! tuple(d) of a dict; list(d) -/
namespace Cn
open PySem PySem.Spec PyProof.Rows L2
section
variable {prog : Program} {w : World} {A : Around} {E : Value → Shared → Prop} {s : Shared} {T : String} {r d : Addr} {n : Nat} {P : Nat → Value → Prop} {OK : Heap → Prop}
theorem collect_kdl {Q : List Value → Shared → Prop} (K : PySem.W.KdlSrc prog w T r d n P OK) (hh : A.handled = none) (hok : OK s.heap) (hn : n ≤ sizeLine)
    (hQ : ∀ (h' : Heap) (tk : Nat) (acc : Array Value), (∀ b o, s.heap.get? b = some o → h'.get? b = some o) → ItemsOf P acc n → Q acc.toList { s with heap := h', toks := tk }) :
    wpAny (model prog w) A (collect (.ref r)) Q E s := by
  unfold collect
  refine wpAny_bind (wpAny_runValue (codeAny_builtin F.entry_proto_collect ?_))
  rw [Around.under_plainId F.plain_proto_collect _]
  show wpAny _ A.in1 (newList [] >>= fun l => again (.builtin "list.__iadd__" ⟨[l, .ref r], []⟩)) _ _ s
  refine wpAny_bind (wpAny_newObj_type ?_)
  refine wpAny_pure ⟨plainId_quiet F.plain_list_iadd _, codeAny_builtin F.entry_list_iadd ?_⟩
  rw [Around.under_plainId F.plain_list_iadd _]
  show wpAny _ A.in1 (Builtin.List.listExtendWith (.ref s.heap.objs.size) (.ref r) (.ref s.heap.objs.size)) _ _ _
  have hS : (s.heap.push { cls := .type "list", data := .seq ([] : List Value).toArray }).get? s.heap.objs.size = some { cls := .type "list", data := .seq #[] 0 } := Heap.get?_push_size _ rfl
  have hlt := K.there _ hok
  refine wpAny_mono (PySem.W.kdl_extend (A := A) (R := fun rr s' => rr = .ok (.ret (.ref s.heap.objs.size)) ∧ ∃ (h' : Heap) (tk : Nat) (acc : Array Value) (c' : Nat), s' = { s with heap := h', toks := tk } ∧
      (∀ b o, s.heap.get? b = some o → h'.get? b = some o) ∧ h'.get? s.heap.objs.size = some { cls := .type "list", dict := none, data := .seq acc c', slots := #[] } ∧ ItemsOf P acc n)
    (s := { s with heap := s.heap.push { cls := .type "list", data := .seq ([] : List Value).toArray } }) K hh (K.keep _ _ hok fun b _ o e => Heap.get?_push_of_some _ e) s.heap.objs.size (Nat.ne_of_gt hlt.1) (Nat.ne_of_gt hlt.2) _ 0 hS
    (fun h' tk acc c' hk e hi => ⟨rfl, h', tk, acc, c', rfl, fun b o q => hk b o (Nat.ne_of_lt (Heap.lt_size q)) (Heap.get?_push_of_some _ q), e, hi⟩) hn) (fun fin s' h => ?_) (fun e s' h => ?_)
  · cases fin with
    | done f =>
      obtain ⟨e, h', tk, acc, c', rfl, hk, hS', hi⟩ := h
      cases e
      show wpAny _ A (load s.heap.objs.size >>= _) _ _ _
      exact wpAny_bind (wpAny_load hS' (wpAny_pure (hQ h' tk acc hk hi)))
    | again c' =>
      refine ⟨h.1, codeAny_mono h.2 fun rr s'' hr' => ?_⟩
      obtain ⟨rfl, h', tk, acc, c', rfl, hk, hS', hi⟩ := hr'
      show wpAny _ A (load s.heap.objs.size >>= _) _ _ _
      exact wpAny_bind (wpAny_load hS' (wpAny_pure (hQ h' tk acc hk hi)))
  · exact absurd h.1 (by simp)
theorem code_tuple_kdl {Q₁ : Value → Shared → Prop} (K : PySem.W.KdlSrc prog w "dict" r d n P OK) (hh : A.handled = none) (hok : OK s.heap) (hn : n ≤ sizeLine)
    (h : ∀ (h' : Heap) (tk : Nat) (acc : Array Value), (∀ b o, s.heap.get? b = some o → h'.get? b = some o) → ItemsOf P acc n →
      Q₁ (.ref h'.objs.size) { s with heap := h'.push { cls := .type "tuple", data := .seq acc }, toks := tk }) :
    codeAny (model prog w) A (.call (.builtin "tuple.__new__") ⟨[.type "tuple", .ref r], []⟩) (wants Q₁ E) s := by
  refine codeAny_of_tree ?_
  show wpAny _ A.in1 (do checkBuiltinCall "tuple.__new__" ⟨[.type "tuple", .ref r], []⟩; again (.builtin "tuple.__new__" ⟨[.type "tuple", .ref r], []⟩)) _ _ s
  refine wpAny_bind (wpAny_of_eq (F.newCall_tuple_1 _) (wpAny_pure ⟨plainId_quiet F.plain_tuple_new _, codeAny_builtin F.entry_tuple_new ?_⟩))
  rw [Around.under_plainId F.plain_tuple_new _]
  have hsub := sub_tuple_self
  have hinit := init_tuple_lookup
  have hmh := madeHere_tuple
  have hTI : s.TypeIs (.ref r) "dict" := K.type s hok
  have hh1 : A.in1.handled = none := hh
  wp_walk using wpAny_typeOf hTI, collect_kdl (A := A.in1) K hh1 hok hn
  intro h' tk acc hk hacc
  show wpAny _ _ (Builtin.Tuple.tupleExact acc.toList.toArray >>= fun v => ret v) _ _ _
  unfold Builtin.Tuple.tupleExact
  refine wpAny_bind (wpAny_newObj_type ?_ (by show acc.toList.toArray.size ≤ sizeLine; simp only [Array.toArray_toList]; rw [hacc.1]; exact hn))
  refine wpAny_pure ?_
  have e : acc.toList.toArray = acc := by simp
  rw [e]
  exact h h' tk acc hk hacc
theorem call_tuple_kdl {Q : Value → Shared → Prop} (K : PySem.W.KdlSrc prog w "dict" r d n P OK) (hh : A.handled = none) (hok : OK s.heap) (hn : n ≤ sizeLine)
    (hQ : ∀ (h' : Heap) (tk : Nat) (acc : Array Value), (∀ b o, s.heap.get? b = some o → h'.get? b = some o) → ItemsOf P acc n →
      Q (.ref h'.objs.size) { s with heap := h'.push { cls := .type "tuple", data := .seq acc }, toks := tk }) :
    wpAny (model prog w) A (call (.type "tuple") [.ref r]) Q E s := by
  refine callType_codes (Q₁ := fun obj s₁ => s₁.TypeIs obj "tuple" ∧ Q obj s₁) F.called_tuple (F.typeCall_tuple_1 _) F.entry_object_init
    (code_tuple_kdl (A := A.in1) K hh hok hn fun h' tk acc hk hacc => ⟨⟨_, Heap.get?_push_size _ rfl, rfl⟩, hQ h' tk acc hk hacc⟩) fun obj s₁ h₁ => ?_
  exact ⟨h₁.1, F.args_object_init_2 obj _, object_init_meets F.called_tuple.init.lookup F.called_tuple.made (by decide) prog w A.in1 _ s₁ ⟨h₁.1, rfl, h₁.2⟩⟩
end
theorem call_tuple_dK {X : Cx} (hc : X.calm = true) : CallR X (.type "tuple") (fun xs H Q => ∃ (p : Addr) (kvs : List (Key × V)), xs = [.ref p] ∧ H p = some (.dK kvs) ∧ ∀ q, H q = none → Q (.ref q) (upd H q (.tup (kvs.map fun kv => kV kv.1)))) := by
  intro pins s σ H xs us Q I r h
  obtain ⟨p, kvs, e, hk, q⟩ := h
  subst e
  obtain ⟨u, eu, rx⟩ := vals1 r
  subst eu
  obtain rfl : u = Value.ref p := rx
  obtain ⟨z, lo, vs, rk, hd⟩ := (show ObjOk X.prog X.w H s.heap p (.dK kvs) from I.hok p _ hk)
  obtain ⟨ep, hat⟩ := hd.dictAt
  have hl : kvs.length = vs.length := Paired.length rk
  refine call_tuple_kdl (PySem.W.kdl_dict (knd := mixKind X.prog X.w) (kvs := vs) (ep := ep) lo) (I.ok.hd hc) hat (by rw [← hl]; exact z) fun h' tk acc hkeep hacc => ?_
  have I2 : Inv X pins σ H { s with heap := h', toks := tk } := I.kept hkeep
  refine ⟨.ref h'.objs.size, upd H h'.objs.size (.tup (kvs.map fun kv => kV kv.1)), I2.laid (t' := tk) (fun c o e => Heap.get?_push_of_some _ e) (Nat.le_refl _) (show ObjOk X.prog X.w _ _ _ (.tup (kvs.map fun kv => kV kv.1)) from ⟨?_, acc.toList, ?_, ?_⟩), rfl, q _ (I2.hok.fresh (Nat.le_refl _))⟩
  · rw [List.length_map]; exact z
  · have el : acc.toList.length = acc.size := by simp
    refine vals_of_at (by rw [List.length_map, el, hacc.1, hl]) fun j x w h1 h2 => ?_
    obtain ⟨k, y, hky, hi⟩ := hacc.2 j w (by rw [← Array.getElem?_toList]; exact h2)
    have e1 : (kvs.map (·.1))[j]? = some k := by
      rw [KV.keys rk, List.getElem?_map, hky] <;> rfl
    have e2 : (kvs.map fun kv => kV kv.1)[j]? = some (kV k) := by
      have e3 : (kvs.map fun kv => kV kv.1) = (kvs.map (·.1)).map kV := by rw [List.map_map] <;> rfl
      rw [e3, List.getElem?_map, e1] <;> rfl
    rw [e2] at h1
    cases h1
    exact keyIs_rel hi
  · rw [Array.toArray_toList]; exact IsTup.new _ _
end Cn
set_option Elab.async false
set_option linter.all false
set_option maxRecDepth 100000
set_option maxHeartbeats 1000000
/-! how great drawn data are -/
namespace Cn
open PySem L2
structure GE (n m : Nat) (d : PyData) : Prop where
  sh : d.showable = true
  ls : d.leavesShort 13 = true
  dp : d.depth ≤ n
  wt : d.weight ≤ m
theorem GE.gx {n m : Nat} {d : PyData} (h : GE n m d) (a : n ≤ 20 := by omega) (b : m ≤ 1000000 := by omega) : GX d := ⟨h.sh, h.ls, Nat.le_trans h.dp a, Nat.le_trans h.wt b⟩
theorem GE.mono {n m n' m' : Nat} {d : PyData} (h : GE n m d) (a : n ≤ n' := by omega) (b : m ≤ m' := by omega) : GE n' m' d := ⟨h.sh, h.ls, Nat.le_trans h.dp a, Nat.le_trans h.wt b⟩
theorem GE.str {t : T} {m : Nat} (hs : ∀ c ∈ t, c < 256) (hl : t.length ≤ m) : GE 0 m (.str (S t)) := by
  refine ⟨by simp [PyData.showable], ?_, by simp [PyData.depth], ?_⟩
  · simp only [PyData.leavesShort, List.all_eq_true, decide_eq_true_eq]
    intro c hc
    have := hs c hc
    have e : (16 : Nat) ^ 8 = 4294967296 := by decide
    omega
  · simp only [PyData.weight]
    exact hl
theorem GE.bl {b : Bool} {m : Nat} : GE 0 m (.bool b) := ⟨by simp [PyData.showable], by simp [PyData.leavesShort], by simp [PyData.depth], by simp [PyData.weight]⟩
theorem GE.non {m : Nat} : GE 0 m .none := ⟨by simp [PyData.showable], by simp [PyData.leavesShort], by simp [PyData.depth], by simp [PyData.weight]⟩
theorem GE.int {i : Int} (h : i.natAbs < 1000000000000) : GE 0 41 (.int i) := by
  have hlog : i.natAbs ≠ 0 → i.natAbs.log2 < 40 := fun h0 => (Nat.log2_lt h0).mpr (Nat.lt_of_lt_of_le h (by decide))
  have hl2 : i.natAbs.log2 < 40 := by
    by_cases h0 : i.natAbs = 0
    · rw [h0]; decide
    · exact hlog h0
  refine ⟨?_, ?_, by simp [PyData.depth], ?_⟩
  · simp only [PyData.showable, decide_eq_true_eq]; omega
  · have h2 := int_text_length_le10 (a := i) (k := 12) (by decide) (Nat.lt_of_lt_of_le h (by decide))
    have h3 : (Str.ofString (toString i)).length ≤ 13 := by rw [ofString_length]; exact h2
    have h4 : (PyData.int i).shown.length ≤ 13 := by simpa only [PyData.shown] using h3
    unfold PyData.leavesShort
    exact decide_eq_true h4
  · simp only [PyData.weight]
    split <;> omega
theorem ge_all {n m : Nat} : ∀ {xs : List PyData}, (∀ x ∈ xs, GE n m x) → PyData.showableAll xs = true ∧ PyData.leavesShortAll 13 xs = true ∧ PyData.depthAll xs ≤ n ∧ PyData.weightAll xs ≤ xs.length * (m + 1)
  | [], _ => ⟨by simp [PyData.showableAll], by simp [PyData.leavesShortAll], by simp [PyData.depthAll], by simp [PyData.weightAll]⟩
  | x :: xs, h => by
    have a := h x List.mem_cons_self
    obtain ⟨b1, b3, b4, b5⟩ := ge_all fun y hy => h y (List.mem_cons_of_mem _ hy)
    refine ⟨by simp [PyData.showableAll, a.sh, b1], by simp [PyData.leavesShortAll, a.ls, b3], ?_, ?_⟩
    · have := a.dp
      simp only [PyData.depthAll]
      omega
    · have := a.wt
      simp only [PyData.weightAll, List.length_cons, Nat.add_mul]
      omega
theorem GE.tup {n m k : Nat} {xs : List PyData} (h : ∀ x ∈ xs, GE n m x) (hl : xs.length ≤ k) : GE (n + 1) (k * (m + 1)) (.tuple xs) := by
  obtain ⟨b1, b3, b4, b5⟩ := ge_all h
  have := Nat.mul_le_mul_right (m + 1) hl
  exact ⟨by simpa [PyData.showable] using b1, by simpa [PyData.leavesShort] using b3, by simp only [PyData.depth]; omega, by simp only [PyData.weight]; omega⟩
theorem GE.lst {n m k : Nat} {xs : List PyData} (h : ∀ x ∈ xs, GE n m x) (hl : xs.length ≤ k) : GE (n + 1) (k * (m + 1)) (.list xs) := by
  obtain ⟨b1, b3, b4, b5⟩ := ge_all h
  have := Nat.mul_le_mul_right (m + 1) hl
  exact ⟨by simpa [PyData.showable] using b1, by simpa [PyData.leavesShort] using b3, by simp only [PyData.depth]; omega, by simp only [PyData.weight]; omega⟩
theorem ge_kv {n m mk : Nat} : ∀ {ks ds : List PyData}, (∀ x ∈ ks, GE n mk x) → (∀ x ∈ ds, GE n m x) → PyData.showableKv (ks.zip ds) = true ∧ PyData.leavesShortKv 13 (ks.zip ds) = true ∧ PyData.depthKv (ks.zip ds) ≤ n ∧ PyData.weightKv (ks.zip ds) ≤ ds.length * (mk + m + 2)
  | [], ds, _, _ => ⟨by simp [PyData.showableKv], by simp [PyData.leavesShortKv], by simp [PyData.depthKv], by simp [PyData.weightKv]⟩
  | _ :: _, [], _, _ => ⟨by simp [PyData.showableKv], by simp [PyData.leavesShortKv], by simp [PyData.depthKv], by simp [PyData.weightKv]⟩
  | a :: ks, b :: ds, hk, hd => by
    obtain ⟨h1, h2, h3, h4⟩ := ge_kv (ks := ks) (ds := ds) (fun x h => hk x (List.mem_cons_of_mem _ h)) (fun x h => hd x (List.mem_cons_of_mem _ h))
    have ga := hk a List.mem_cons_self
    have gb := hd b List.mem_cons_self
    have q3 := ga.dp
    have q4 := gb.dp
    have q5 := ga.wt
    have q6 := gb.wt
    refine ⟨by simp [PyData.showableKv, ga.sh, gb.sh, h1], by simp [PyData.leavesShortKv, ga.ls, gb.ls, h2], ?_, ?_⟩
    · simp only [List.zip_cons_cons, PyData.depthKv]; omega
    · simp only [List.zip_cons_cons, PyData.weightKv, List.length_cons, Nat.add_mul]; omega
theorem GE.dict {n m mk k : Nat} {ks ds : List PyData} (hk : ∀ x ∈ ks, GE n mk x) (hd : ∀ x ∈ ds, GE n m x) (hl : ds.length ≤ k) : GE (n + 1) (k * (mk + m + 2)) (.dict (ks.zip ds)) := by
  obtain ⟨h1, h2, h3, h4⟩ := ge_kv hk hd
  have := Nat.mul_le_mul_right (mk + m + 2) hl
  exact ⟨by simpa [PyData.showable] using h1, by simpa [PyData.leavesShort] using h2, by simp only [PyData.depth]; omega, by simp only [PyData.weight]; omega⟩
theorem ge_empty {m : Nat} : GE 1 m (.dict []) := ⟨by simp [PyData.showable, PyData.showableKv], by simp [PyData.leavesShort, PyData.leavesShortKv], by simp [PyData.depth, PyData.depthKv], by simp [PyData.weight, PyData.weightKv]⟩
theorem ge_cell {x : Option Int} (h : CellOk x) : GE 0 41 (cellD x) := by
  cases x with
  | none => exact .non
  | some i =>
    have h : 0 ≤ i ∧ i ≤ 1000000000 := h
    exact .int (by omega)
/-- a row of at most nine cells -/
theorem ge_row {r : Cells} (h : ∀ x ∈ r, CellOk x) (hl : r.length ≤ 9) : GE 1 378 (rowD r) := GE.tup (n := 0) (m := 41) (k := 9) (fun x hx => by
  obtain ⟨c, hc, rfl⟩ := List.mem_map.mp hx
  exact ge_cell (h c hc)) (by rw [List.length_map]; exact hl)
theorem ge_rows {rs : List Cells} (h : ∀ r ∈ rs, r.length ≤ 9 ∧ ∀ x ∈ r, CellOk x) (hl : rs.length ≤ 9) : GE 2 3411 (.list (rs.map rowD)) := GE.lst (n := 1) (m := 378) (k := 9) (fun x hx => by
  obtain ⟨c, hc, rfl⟩ := List.mem_map.mp hx
  exact ge_row (h c hc).2 (h c hc).1) (by rw [List.length_map]; exact hl)
end Cn
set_option Elab.async false
set_option linter.all false
set_option maxRecDepth 100000
set_option maxHeartbeats 1000000
/-! dicts made of pairs: databases -/
namespace Cn
open PySem PySem.Spec PyProof.Rows L2
def kvE (e : T × Addr × List Cells) : Key × V := (.inr (S e.1), .ref e.2.1)
def PairV (H : Hp) (v : V) (e : T × Addr × List Cells) : Prop := ∃ q, v = .ref q ∧ H q = some (.tup [sv e.1, .ref e.2.1])
theorem PairV.keep {H H' : Hp} {v : V} {e : T × Addr × List Cells} (b : But [] H H') (h : PairV H v e) : PairV H' v e := let ⟨q, x, y⟩ := h; ⟨q, x, b.at y⟩
theorem PairV.upd {H : Hp} {D : Addr} {xs : List V} {o : HO} (h : H D = some (.lst xs)) {v : V} {e : T × Addr × List Cells} (z : PairV H v e) : PairV (upd H D o) v e := by
  obtain ⟨q, x, y⟩ := z
  exact ⟨q, x, by rw [upd_ne fun z => by rw [z, h] at y; cases y]; exact y⟩
theorem pairs_of {K : PySem.W.Frag} {H : Hp} : ∀ {vs : List V} {es : List (T × Addr × List Cells)}, Each (PairV H) vs es → ∃ ps : List Addr, vs = ps.map V.ref ∧ Paired (fun p kv => SqT K H p [kV kv.1, kv.2]) ps (es.map kvE)
  | [], [], _ => ⟨[], rfl, .nil⟩
  | [], _ :: _, h => by have := h.1; simp at this
  | _ :: _, [], h => by have := h.1; simp at this
  | v :: vs, e :: es, h => by
    obtain ⟨ps, h1, h2⟩ := pairs_of (K := K) (vs := vs) (es := es) ⟨by have := h.1; simpa using this, fun i a b p q => h.2 (i + 1) a b (by simpa using p) (by simpa using q)⟩
    obtain ⟨q, rfl, e2⟩ := h.2 0 v e rfl rfl
    exact ⟨q :: ps, by rw [h1]; rfl, .cons (SqT.of e2) h2⟩
theorem val_not {kvs : List (Key × V)} {k : Key} (h : k ∉ kvs.map (·.1)) : valV kvs k = none := by
  unfold valV
  rw [List.find?_eq_none.mpr fun x hx e => h (List.mem_map.mpr ⟨x, hx, of_decide_eq_true e⟩)]; rfl
theorem put_new {kvs : List (Key × V)} {k : Key} {v : V} (h : k ∉ kvs.map (·.1)) : putK kvs k v = kvs ++ [(k, v)] := by
  unfold putK
  rw [if_neg fun z => by
    obtain ⟨p, hp, e⟩ := List.any_eq_true.mp z
    exact h (List.mem_map.mpr ⟨p, hp, of_decide_eq_true e⟩)]
theorem merge_new : ∀ {more acc : List (Key × V)}, (more.map (·.1)).Nodup → (∀ k ∈ more.map (·.1), k ∉ acc.map (·.1)) → mergeK acc more = acc ++ more
  | [], acc, _, _ => by rw [List.append_nil]; rfl
  | p :: more, acc, nd, h => by
    rw [List.map_cons, List.nodup_cons] at nd
    show mergeK (putK acc p.1 p.2) more = _
    rw [put_new (h p.1 (by simp)), merge_new nd.2 (fun k hk z => by
      rw [List.map_append, List.mem_append] at z
      rcases z with z | z
      · exact h k (by rw [List.map_cons]; exact List.mem_cons_of_mem _ hk) z
      · have z : k = p.1 := by simpa using z
        exact nd.1 (z ▸ hk))]
    rw [List.append_assoc]; rfl
theorem merge_es {es : List (T × Addr × List Cells)} (nd : (es.map (·.1)).Nodup) : mergeK [] (es.map kvE) = es.map kvE := by
  rw [merge_new (by
    rw [List.map_map]
    have : ((·.1) ∘ kvE) = (fun x => (Sum.inr (S x) : Key)) ∘ (fun e : T × Addr × List Cells => e.1) := rfl
    rw [this, ← List.map_map]
    exact List.pairwise_map.mpr (List.Pairwise.imp (fun a e => a (S_inj (Sum.inr.inj e))) nd)) (by intro k _; simp), List.nil_append]
theorem unlock {H G : Hp} {d : Addr} {o x : HO} (h : H d = some o) (b : But [] (upd H d x) G) : But [] H (upd G d o) := fun a u n e => by
  by_cases z : a = d
  · rw [z] at e ⊢
    rw [upd_same]
    exact h.symm.trans e
  · rw [upd_ne z]
    exact b a u n (by rw [upd_ne z]; exact e)
theorem locked {H : Hp} {d a : Addr} {o x u : HO} (h : H d = some o) (e : H a = some u) (n : u ≠ o) : (upd H d x) a = some u := by
  rw [upd_ne fun z => n (by rw [z, h] at e; exact (Option.some.inj e).symm)]; exact e
theorem RwsAt.lock {H : Hp} {d l : Addr} {kvs : List (Key × V)} {x : HO} {rows : List Cells} (h : H d = some (.dK kvs)) (r : RwsAt H l rows) : RwsAt (upd H d x) l rows := by
  obtain ⟨vs, e, z⟩ := r
  refine ⟨vs, locked h e (fun q => nomatch q), z.mono fun _ _ ⟨q, e1, e2⟩ => ⟨q, e1, locked h e2 (fun q => nomatch q)⟩⟩
end Cn
set_option Elab.async false
set_option linter.all false
set_option maxRecDepth 100000
set_option maxHeartbeats 2000000
/-! Cn.B26: name = {k: v for ..} on one line, the name a local. -/
namespace Cn
open PySem L2 PySem.Spec PyProof.Rows
theorem sw_trueD {kx vx : Expr} {gs : List Comprehension} {scope : Scope} {pos py : Pos} {y : Str} {l : Nat} {env : Env} (hk : env.scope.kind = .function) (hy : env.scope.names.lookup y = some .local) (hl : (py.line == pos.line) = true)
    (ha : (scope.names.any fun (n, k) => n == y && (k == .local || k == .cell)) = false) : swapsWith (.DictComp kx vx gs scope pos) (some (.Name y py)) l env = pure true := by
  have ky : env.kindOf y = some .local := hy
  have hb : env.blockKind = .function := by unfold Env.blockKind; rw [hk]; rfl
  unfold swapsWith
  simp only [hb, ky, ha, Expr.pos, hl]
  rfl
section
variable {X : Cx}
theorem ps_setDc {i : Nat} {y : Str} {py : Pos} {kx vx tg iter : Expr} {ifs : List Expr} {scope : Scope} {own : List (Str × Nat)} {pos spos : Pos} {wi : TI} {g : TG} {tt : TT} {tk tv : TE} (hc : X.calm = true) (hN : X.N.Nodup) (hy : X.N[i]? = some y) (hyl : X.env.scope.names.lookup y = some .local)
    (hsw : swapsWith (.DictComp kx vx [⟨tg, iter, ifs, 0⟩] scope pos) (some (.Name y py)) spos.line X.env = pure true) (hi : PI X tg iter wi) (ok : BlkOk X.N X.env.scope scope own)
    (hg : ∀ (s : Shared) (H : Hp) (C : Addr) (cl : List (Str × Addr)) (fp : List Addr), PG (X.blk s H scope (compEnvC scope cl C X.env) fp) tg g) (ht : ∀ (s : Shared) (H : Hp) (C : Addr) (cl : List (Str × Addr)) (fp : List Addr), PTs (X.blk s H scope (compEnvC scope cl C X.env) fp) ifs tt)
    (hk : ∀ (s : Shared) (H : Hp) (C : Addr) (cl : List (Str × Addr)) (fp : List Addr), PE (X.blk s H scope (compEnvC scope cl C X.env) fp) kx tk)
    (he : ∀ (s : Shared) (H : Hp) (C : Addr) (cl : List (Str × Addr)) (fp : List Addr), PE (X.blk s H scope (compEnvC scope cl C X.env) fp) vx tv) (hs : ∀ x, foldedSetIterable iter X.env x = pure x := by intro _; rfl) :
    PS X (.Assign [.Name y py] (.DictComp kx vx [⟨tg, iter, ifs, 0⟩] scope pos) spos) (tAsg (tDc wi g tt tk tv (own.map (·.2))) (gName i)) := by
  refine ⟨fun pins s σ H D I h => ?_⟩
  rw [exec_Assign_Name_used _ _ _ _ hsw]
  refine wpAny_bind (wpAny_standAt (wpAny_bind ?_))
  show wpAny _ X.A (do let _ ← comprehension (.DictComp kx vx [⟨tg, iter, ifs, 0⟩] scope pos) scope X.env (firstIterPos [⟨tg, iter, ifs, 0⟩] pos) newDict false (eval iter X.env) (some (assign (.Name y py) X.env))) _ _ s
  have h : tDc wi g tt tk tv (own.map (·.2)) σ H (fun x H1 => gName i x σ H1 D.nx) := h
  refine wpAny_bind (thn (dc_core (Qf := fun _ s' => SP X pins D .next s') hc hN I hi ok hg ht hk he hs h fun L C s' m H' I' q hn f => ?_) fun _ s' hq => wpAny_pure (wpAny_pure hq))
  show wpAny _ _ (assign (.Name y py) X.env (.ref L)) _ _ _
  refine wpAny_assign_Name (store_ok2 (v := V.ref L) I' hN hy (.inl hyl) rfl (fun s2 I2 ⟨a, sb, ha⟩ => ?_) (.inr hyl))
  obtain ⟨f0, f1, f2, f3, f4, f5⟩ := f
  have haC : C ≠ a := by
    rcases ha with z | z
    · rw [z]; exact f1
    · exact fun e => f4 y a z e.symm
  refine ⟨m, hn.sameBut sb haC, fun h3 sb3 => ?_⟩
  exact ⟨_, H', I2.turned (t' := s2.toks) (fun b o hb e => (sb3.2 b hb).trans e) f0 f1 f3 f4 f5, q⟩
end
end Cn
set_option Elab.async false
set_option linter.all false
set_option maxRecDepth 100000
set_option maxHeartbeats 2000000
/-! Cn.B28: xs[::k] of a list, k being 1 or -1. -/
namespace Cn
open PySem PySem.Spec PyProof.Rows L2
def tStepL (K : PySem.W.Frag) (te ts : TE) : TE := fun σ H Q => te σ H fun x H1 => ∃ (a : Addr), x = .ref a ∧ tPart ts σ H1 fun o H2 => ∃ (b : Bool) (xs : List V), o = some (if b then 1 else -1) ∧ SqL K H2 a xs ∧ ∀ p, H2 p = none → Q (.ref p) (upd H2 p (.lst (if b then xs else xs.reverse)))
theorem pick_step (its : List Value) (b : Bool) : slicePick its.toArray none none (some (if b then 1 else -1)) = (if b then its else its.reverse).toArray := by
  cases b with
  | false => exact PySem.W.krv_pick its.toArray
  | true =>
    have e : slicePick its.toArray none none (some 1) = slicePick its.toArray none none none := rfl
    show slicePick its.toArray none none (some 1) = _
    rw [e, slicePick_cut]
    show ((its.drop 0).take (its.length - 0)).toArray = _
    rw [List.drop_zero, Nat.sub_zero, List.take_length]; rfl
theorem pe_stepL {X : Cx} (K : PySem.W.Frag) (hK : X.K = K) {e es : Expr} {te ts : TE} {p3 pos : Pos} (he : PE X e te) (hs : PE X es ts) (ho : ∀ a sl, subscripted (.Slice none none (some es) p3) false (.ref a) (.ref sl) = operate [.ref a, .ref sl] (getItem (.ref a) (.ref sl)) := by intro _ _; with_unfolding_all rfl) :
    PE X (.Subscript e (.Slice none none (some es) p3) pos) (tStepL K te ts) := by
  subst hK
  refine ⟨fun pins s σ H Q I h => ?_⟩
  refine Subscript_ (thn (he.run pins s σ H _ I h) fun v s1 ⟨x, H1, I1, r1, q1⟩ => ?_)
  obtain ⟨a, ex, q⟩ := q1
  subst ex
  cases r1
  have hst : PO X (some es) (tPart ts) := po_some hs
  refine wpAny_Slice (thn (po_none.run pins s1 σ H1 (fun o H2 => o = none ∧ H2 = H1) I1 ⟨rfl, rfl⟩) fun vl s2 ⟨l, H2, I2, pl, el, e2⟩ => ?_)
  subst el e2
  refine thn (po_none.run pins s2 σ H2 (fun o H3 => o = none ∧ H3 = H2) I2 ⟨rfl, rfl⟩) fun vu s3 ⟨u, H3, I3, pu, eu, e3⟩ => ?_
  subst eu e3
  refine thn (hst.run pins s3 σ H3 (fun o H4 => ∃ (b : Bool) (xs : List V), o = some (if b then 1 else -1) ∧ SqL X.K H4 a xs ∧ ∀ p, H4 p = none → Q (.ref p) (upd H4 p (.lst (if b then xs else xs.reverse)))) I3 q) fun vs s4 ⟨o, H4, I4, ps, b, xs, eo, hx, q4⟩ => ?_
  subst eo
  have I5 : Inv X pins σ H4 { s4 with heap := s4.heap.push { cls := .type "slice", data := .fields #[vl, vu, vs] } } := I4.kept (t' := s4.toks) fun b ob q => Heap.get?_push_of_some _ q
  obtain ⟨its, r, ht, hz⟩ := I5.list hx
  have hlen := r.length
  show wpAny (model X.prog X.w) X.A (subscriptTail e (.Slice none none (some es) p3) (.ref a) (.ref s4.heap.objs.size)) (EP X pins σ Q) X.xe { s4 with heap := s4.heap.push { cls := .type "slice", data := .fields #[vl, vu, vs] } }
  refine tail_any (ops := [.ref a, .ref s4.heap.objs.size]) ht.isList.typeIs (PySem.slot_list_getitem.lookup) ?_ (ho _ _)
  refine wpAny_getItem_list_slice ht.isList (Heap.IsSliceOf.new _ vl vu vs) pl pu ps (by cases b <;> decide) ?_ (by rw [List.size_toArray]; omega)
  rw [pick_step]
  refine ⟨.ref _, _, I5.laid (t' := s4.toks) (o := .lst (if b then xs else xs.reverse)) (fun b ob q => Heap.get?_push_of_some _ q) (Nat.le_refl _) ?_, rfl, q4 _ (I5.hok.fresh (Nat.le_refl _))⟩
  cases b with
  | true => exact ⟨hz, _, 0, r, Heap.get?_push_size _ rfl⟩
  | false => exact ⟨by rw [show (if false = true then xs else xs.reverse) = xs.reverse from rfl, List.length_reverse]; exact hz, _, 0, r.reverse, Heap.get?_push_size _ rfl⟩
end Cn
set_option Elab.async false
set_option linter.all false
set_option maxRecDepth 100000
set_option maxHeartbeats 2000000
/-! in over a list of nested data -/
namespace Cn
open PySem PySem.Spec PyProof.Rows L2
def rInL (K : PySem.W.Frag) : R2 := fun x y H Q => ∃ d ds, Dp K H x d ∧ Dp K H y (.list ds) ∧ d.canLay0 = true ∧ PyData.canLayAll0 ds = true ∧ min (PyData.depthAll ds) d.depth ≤ 8 ∧ Q (.bl (ds.any fun z => PyData.eqv z d)) H
theorem op_inDK {X : Cx} (K : PySem.W.Frag) (hK : X.K = K) (hu : X.A.units + 64 < cLine) : OpR X (compareOp .In) (rInL K) := by
  subst hK
  intro pins s σ H x y v u Q I rx ry h
  obtain ⟨d, ds, hd, he, sd, se, sm, q⟩ := h
  obtain ⟨as, r1⟩ := Dp.reads I d x v hd rx
  obtain ⟨bs, r2⟩ := Dp.reads I (.list ds) y u he ry
  exact SeqAt.in_list_reads r2 r1 se sd (by omega) ⟨.bl _, H, I, rfl, q⟩
end Cn
set_option Elab.async false
set_option linter.all false
set_option maxRecDepth 100000
set_option maxHeartbeats 1000000
/-! a dict by its entries -/
namespace Cn
open PySem PySem.Spec PyProof.Rows L2
abbrev Ent := Key × V × PyData
def ekv (x : Ent) : Key × V := (x.1, x.2.1)
def een (x : Ent) : NK × PyData := (nkOf x.1, x.2.2)
structure EntOk (K : PySem.W.Frag) (G : Hp) (x : Ent) : Prop where
  rows : RowsA K G x.2.1 x.2.2
  bnd : BndD x.2.2
  ge : GE 5 20000 x.2.2
  key : GE 0 41 (nkD (nkOf x.1))
theorem EntOk.later {K : PySem.W.Frag} {G G' : Hp} {x : Ent} (b : But [] G G') (h : EntOk K G x) : EntOk K G' x := ⟨h.rows.later b, h.bnd, h.ge, h.key⟩
def Done (K : PySem.W.Frag) (w : World) (G : Hp) (F : Addr) : Prop := ∃ o, MayR K w G (.ref F) o ∧ BndO o ∧ GX o.data
theorem Done.later {K : PySem.W.Frag} {w : World} {G G' : Hp} {F : Addr} (b : But [] G G') (h : Done K w G F) : Done K w G' F := let ⟨o, x, y⟩ := h; ⟨o, x.later b, y⟩
theorem each_map {α β γ : Type} {R : α → β → Prop} {f : γ → α} {g : γ → β} : ∀ {l : List γ}, (∀ x ∈ l, R (f x) (g x)) → (l.map f).length = (l.map g).length ∧ ∀ (i : Nat) a b, (l.map f)[i]? = some a → (l.map g)[i]? = some b → R a b := fun {l} h => by
  refine ⟨by rw [List.length_map, List.length_map], fun i a b p q => ?_⟩
  rw [List.getElem?_map, Option.map_eq_some_iff] at p q
  obtain ⟨x, hx, rfl⟩ := p
  obtain ⟨y, hy, rfl⟩ := q
  rw [hx] at hy
  cases hy
  exact h x (List.mem_of_getElem? hx)
theorem zip_map {α β γ : Type} (f : γ → α) (g : γ → β) (l : List γ) : (l.map f).length = (l.map g).length := by rw [List.length_map, List.length_map]
theorem done_gx {K : PySem.W.Frag} {G : Hp} {ls : List (NK × PyData)} (h : ∀ x ∈ ls, GE 5 20000 x.2 ∧ GE 5 42 (nkD x.1)) (hl : ls.length ≤ 6) : GX (ODat.dict ls).data :=
  GE.gx (GE.dict (n := 5) (m := 20000) (mk := 42) (k := 6) (fun x hx => by
    obtain ⟨y, hy, rfl⟩ := List.mem_map.mp hx
    exact (h y hy).2) (fun x hx => by
    obtain ⟨y, hy, rfl⟩ := List.mem_map.mp hx
    exact (h y hy).1) (by rw [List.length_map]; exact hl))
theorem done_of {K : PySem.W.Frag} {w : World} {G : Hp} {F : Addr} {ls : List Ent} (e : G F = some (.dK (ls.map ekv))) (h : ∀ x ∈ ls, EntOk K G x) (hl : ls.length ≤ 6) : Done K w G F := by
  refine ⟨.dict (ls.map een), ⟨F, rfl, .inl ⟨ls.map ekv, e, ?_, ?_⟩⟩, fun p hp => ?_, done_gx (K := K) (G := G) (fun x hx => ?_) (by rw [List.length_map]; exact hl)⟩
  · rw [List.map_map, List.map_map]; rfl
  · rw [List.map_map, List.map_map]
    exact each_map fun x hx => (h x hx).rows
  · obtain ⟨y, hy, rfl⟩ := List.mem_map.mp hp
    exact (h y hy).bnd
  · obtain ⟨y, hy, rfl⟩ := List.mem_map.mp hx
    exact ⟨(h y hy).ge, (h y hy).key.mono⟩
theorem put_ent (ls : List Ent) (k : Key) (v : V) (d : PyData) : ∃ ls' : List Ent, putK (ls.map ekv) k v = ls'.map ekv ∧ (∀ x ∈ ls', x ∈ ls ∨ x = (k, v, d)) ∧ (∀ x ∈ ls', x.1 = k → x = (k, v, d)) ∧ ls'.length ≤ ls.length + 1 := by
  unfold putK
  split
  · refine ⟨ls.map fun x => if x.1 = k then (k, v, d) else x, ?_, fun x hx => ?_, fun x hx hk => ?_, by rw [List.length_map]; omega⟩
    · rw [List.map_map, List.map_map]
      refine List.map_congr_left fun x _ => ?_
      show (if x.1 = k then (x.1, v) else (x.1, x.2.1)) = ekv (if x.1 = k then (k, v, d) else x)
      split
      · rename_i q; rw [q]; rfl
      · rfl
    · obtain ⟨y, hy, rfl⟩ := List.mem_map.mp hx
      split
      · exact .inr rfl
      · exact .inl hy
    · obtain ⟨y, hy, rfl⟩ := List.mem_map.mp hx
      split
      · rfl
      · rename_i q
        rw [if_neg q] at hk
        exact absurd hk q
  · rename_i hn
    refine ⟨ls ++ [(k, v, d)], by rw [List.map_append]; rfl, fun x hx => ?_, fun x hx hk => ?_, by rw [List.length_append]; exact Nat.le_refl _⟩
    · rcases List.mem_append.mp hx with z | z
      · exact .inl z
      · exact .inr (List.mem_singleton.mp z)
    · rcases List.mem_append.mp hx with z | z
      · exact absurd (List.any_eq_true.mpr ⟨ekv x, List.mem_map.mpr ⟨x, z, rfl⟩, decide_eq_true hk⟩) hn
      · exact List.mem_singleton.mp z
theorem drop_ent (ls : List Ent) (k : Key) : ∃ ls' : List Ent, dropK (ls.map ekv) k = ls'.map ekv ∧ (∀ x ∈ ls', x ∈ ls ∧ x.1 ≠ k) ∧ ls'.length ≤ ls.length ∧ ((ls.map (·.1)).Nodup → (ls'.map (·.1)).Nodup) := by
  refine ⟨ls.filter fun x => decide (x.1 ≠ k), ?_, fun x hx => ?_, List.length_filter_le _ _, fun h => h.sublist (List.Sublist.map _ List.filter_sublist)⟩
  · unfold dropK
    rw [List.filter_map]; rfl
  · have := List.mem_filter.mp hx
    exact ⟨this.1, of_decide_eq_true this.2⟩
/-- the entries of a database -/
def dbE (e : T × Addr × List Cells) : Ent := (.inr (S e.1), .ref e.2.1, .list (e.2.2.map rowD))
def RowsOk (rows : List Cells) : Prop := (∀ r ∈ rows, r.length ≤ 9 ∧ ∀ x ∈ r, CellOk x) ∧ rows.length ≤ 9
theorem lay_cell (x : Option Int) : (cellD x).canLay0 = true ∧ (cellD x).depth ≤ 8 := by cases x <;> simp [cellD, PyData.canLay0, PyData.depth]
theorem bnd_row {r : Cells} (h : r.length ≤ 9) : ∀ es, rowD r = .tuple es → es.length ≤ 100 ∧ ∀ e ∈ es, e.canLay0 = true ∧ e.depth ≤ 8 := fun es q => by
  unfold rowD at q
  cases q
  refine ⟨by rw [List.length_map]; omega, fun e he => ?_⟩
  obtain ⟨c, _, rfl⟩ := List.mem_map.mp he
  exact lay_cell c
theorem bnd_rows {rows : List Cells} (h : RowsOk rows) : BndD (.list (rows.map rowD)) := fun ds q => by
  cases q
  refine ⟨by rw [List.length_map]; have := h.2; omega, fun x hx => ?_⟩
  obtain ⟨r, hr, rfl⟩ := List.mem_map.mp hx
  exact bnd_row (h.1 r hr).1
theorem RwsAt.dp {K : PySem.W.Frag} {H : Hp} {l : Addr} {rows : List Cells} (h : RwsAt H l rows) : Dp K H (.ref l) (.list (rows.map rowD)) := let ⟨_, e, z⟩ := h; .lst (SqL.of e) (dp_rows z)
theorem key_small {n : T} (h : (∀ c ∈ n, c < 256) ∧ n.length ≤ 41) : GE 0 41 (nkD (nkOf (.inr (S n)))) := GE.str h.1 h.2
theorem dbE_ok {K : PySem.W.Frag} {G : Hp} {e : T × Addr × List Cells} (h : RwsAt G e.2.1 e.2.2) (r : RowsOk e.2.2) (n : (∀ c ∈ e.1, c < 256) ∧ e.1.length ≤ 41) : EntOk K G (dbE e) :=
  ⟨.inl (.inl h.dp), bnd_rows r, (ge_rows r.1 r.2).mono, key_small n⟩
theorem ekv_dbE (es : List (T × Addr × List Cells)) : (es.map dbE).map ekv = es.map fun e => ((.inr (S e.1) : Key), V.ref e.2.1) := by rw [List.map_map]; rfl
theorem bnd_none {d : PyData} (h : ∀ ds, d ≠ .list ds) : BndD d := fun ds q => absurd q (h ds)
end Cn
set_option Elab.async false
set_option linter.all false
set_option maxRecDepth 100000
set_option maxHeartbeats 1000000
/-! entries stay when the dict itself is written -/
namespace Cn
open PySem PySem.Spec PyProof.Rows L2
/-- all but dicts with keys stays -/
def KeepD (H H' : Hp) : Prop := (∀ a o, H a = some o → (∀ kvs, o ≠ .dK kvs) → H' a = some o) ∧ ∀ a, H a = some (.dK []) → H' a = some (.dK [])
theorem KeepD.upd {H : Hp} {F : Addr} {kvs : List (Key × V)} {o : HO} (h : H F = some (.dK kvs)) (ne : kvs ≠ []) : KeepD H (upd H F o) :=
  ⟨fun a u e n => by rw [upd_ne fun z => by rw [z, h] at e; exact n kvs (Option.some.inj e).symm]; exact e, fun a e => by
    rw [upd_ne fun z => by rw [z, h] at e; cases e; exact ne rfl]; exact e⟩
theorem sql_keepD {K : PySem.W.Frag} {H H' : Hp} (k : KeepD H H') {a : Addr} {xs : List V} (h : SqL K H a xs) : SqL K H' a xs := by
  rcases h with (e | ⟨o, e⟩) | z
  · exact .inl (.inl (k.1 _ _ e fun _ q => nomatch q))
  · exact .inl (.inr ⟨o, k.1 _ _ e fun _ q => nomatch q⟩)
  · exact .inr z
theorem sqt_keepD {K : PySem.W.Frag} {H H' : Hp} (k : KeepD H H') {a : Addr} {xs : List V} (h : SqT K H a xs) : SqT K H' a xs := by
  rcases h with (e | ⟨o, e⟩) | z
  · exact .inl (.inl (k.1 _ _ e fun _ q => nomatch q))
  · exact .inl (.inr ⟨o, k.1 _ _ e fun _ q => nomatch q⟩)
  · exact .inr z
mutual
theorem dp_keepD {K : PySem.W.Frag} {H H' : Hp} (k : KeepD H H') : ∀ {v : V} {d : PyData}, Dp K H v d → Dp K H' v d
  | _, _, .non => .non
  | _, _, .bl x => .bl x
  | _, _, .int i => .int i
  | _, _, .str x => .str x
  | _, _, .lst h hs => .lst (sql_keepD k h) (dps_keepD k hs)
  | _, _, .tup h hs => .tup (sqt_keepD k h) (dps_keepD k hs)
theorem dps_keepD {K : PySem.W.Frag} {H H' : Hp} (k : KeepD H H') : ∀ {vs : List V} {ds : List PyData}, DpAll K H vs ds → DpAll K H' vs ds
  | _, _, .nil => .nil
  | _, _, .cons h hs => .cons (dp_keepD k h) (dps_keepD k hs)
end
theorem RowA.keepD {K : PySem.W.Frag} {H H' : Hp} (k : KeepD H H') {v : V} {d : PyData} (h : RowA K H v d) : RowA K H' v d := h.imp (dp_keepD k) fun ⟨⟨a, e, z⟩, q⟩ => ⟨⟨a, e, k.2 a z⟩, q⟩
theorem RowsA.keepD {K : PySem.W.Frag} {H H' : Hp} (k : KeepD H H') {v : V} {d : PyData} (h : RowsA K H v d) : RowsA K H' v d := h.imp (RowA.keepD k) fun ⟨a, xs, ds, e, z, ez, q⟩ => ⟨a, xs, ds, e, k.1 a _ z (fun _ q => nomatch q), ez.mono fun _ _ => RowA.keepD k, q⟩
theorem EntOk.keepD {K : PySem.W.Frag} {H H' : Hp} (k : KeepD H H') {x : Ent} (h : EntOk K H x) : EntOk K H' x := ⟨h.rows.keepD k, h.bnd, h.ge, h.key⟩
theorem put_done {K : PySem.W.Frag} {w : World} {G : Hp} {F : Addr} {kvs : List (Key × V)} {ls : List Ent} (hF : G F = some (.dK kvs)) (ne : kvs ≠ []) (h : ∀ x ∈ ls, EntOk K G x) (hl : ls.length ≤ 6) : Done K w (upd G F (.dK (ls.map ekv))) F :=
  done_of upd_same (fun x hx => (h x hx).keepD (KeepD.upd hF ne)) hl
theorem done_nix {K : PySem.W.Frag} {w : World} {G : Hp} {F : Addr} {ls : List Ent} {k : NK} {i v : V} {d : PyData} (e : G F = some (NixO w F ((ls.map ekv).map toN ++ [(k, i, v)]))) (h : ∀ x ∈ ls, EntOk K G x) (hl : ls.length ≤ 5) (nd : (ls.map (·.1)).Nodup)
    (hk : KeyVN G k i) (n1 : ∀ z, k ≠ .text z) (n2 : ∀ z, k ≠ .num z) (r : RowsA K G v d) (bd : BndD d) (g : GE 5 20000 d) (gk : GE 5 42 (nkD k)) : Done K w G F := by
  have e1 : (ls.map ekv).map toN = ls.map fun x => (nkOf x.1, kV x.1, x.2.1) := by rw [List.map_map]; rfl
  rw [e1] at e
  have hnk : k ∉ ls.map fun x => nkOf x.1 := fun z => by
    obtain ⟨x, _, q⟩ := List.mem_map.mp z
    cases hx : x.1 with
    | inl j => rw [hx] at q; exact n2 j q.symm
    | inr j => rw [hx] at q; exact n1 j q.symm
  refine ⟨.dict (ls.map een ++ [(k, d)]), ⟨F, rfl, .inr ⟨_, e, ⟨?_, fun m hm => ?_, by rw [List.length_append, List.length_map]; simp; omega, ⟨(k, i, v), by simp, n1⟩⟩, ?_, ?_⟩⟩, fun p hp => ?_, done_gx (K := K) (G := G) (fun x hx => ?_) (by rw [List.length_append, List.length_map]; simp; omega)⟩
  · rw [List.map_append, List.map_map]
    refine List.nodup_append.mpr ⟨?_, by simp, fun p hp q hq z => ?_⟩
    · have : ((·.1) ∘ fun x : Ent => (nkOf x.1, kV x.1, x.2.1)) = nkOf ∘ fun x : Ent => x.1 := rfl
      rw [this, ← List.map_map]
      exact List.pairwise_map.mpr (List.Pairwise.imp (fun a e => a (nkOf_inj e)) nd)
    · have hq : q = k := by simpa using hq
      rw [z, hq] at hp
      exact hnk hp
  · rcases List.mem_append.mp hm with z | z
    · obtain ⟨x, _, rfl⟩ := List.mem_map.mp z
      show KeyVN G (nkOf x.1) (kV x.1)
      cases x.1 with
      | inl j => exact .int j
      | inr j => exact .text j
    · rw [List.mem_singleton.mp z]; exact hk
  · rw [List.map_append, List.map_append, List.map_map, List.map_map]; rfl
  · rw [List.map_append, List.map_append, List.map_map, List.map_map]
    exact Each.snoc (R := RowsA K G) (each_map fun x hx => (h x hx).rows) r
  · rcases List.mem_append.mp hp with z | z
    · obtain ⟨y, hy, rfl⟩ := List.mem_map.mp z
      exact (h y hy).bnd
    · rw [List.mem_singleton.mp z]; exact bd
  · rcases List.mem_append.mp hx with z | z
    · obtain ⟨y, hy, rfl⟩ := List.mem_map.mp z
      exact ⟨(h y hy).ge, (h y hy).key.mono⟩
    · rw [List.mem_singleton.mp z]; exact ⟨g, gk⟩
end Cn
set_option Elab.async false
set_option linter.all false
set_option maxRecDepth 100000
set_option maxHeartbeats 1000000
/-! a database one of whose lists was changed -/
namespace Cn
open PySem PySem.Spec PyProof.Rows L2
theorem list_done {K : PySem.W.Frag} {w : World} {G : Hp} {F : Addr} {es : List (T × Addr × List Cells)} {e0 : T × Addr × List Cells} {zs : List V} {ds : List PyData} (db : DbR G F es) (ok : ∀ e ∈ es, RowsOk e.2.2 ∧ ((∀ c ∈ e.1, c < 256) ∧ e.1.length ≤ 41)) (he : e0 ∈ es)
    (hz : Each (RowA K (upd G e0.2.1 (.lst zs))) zs ds) (bd : BndD (.list ds)) (ge : GE 5 20000 (.list ds)) (hl : es.length ≤ 4) : Done K w (upd G e0.2.1 (.lst zs)) F := by
  obtain ⟨ys, ey, _⟩ := db.rows e0 he
  have nF : F ≠ e0.2.1 := fun z => by have := db.at_; rw [z, ey] at this; cases this
  refine done_of (ls := es.map fun e => if e.2.1 = e0.2.1 then ((.inr (S e.1), .ref e.2.1, .list ds) : Ent) else dbE e) ?_ (fun x hx => ?_) (by rw [List.length_map]; omega)
  · rw [upd_ne nF, db.at_, List.map_map]
    refine congrArg some (congrArg HO.dK (List.map_congr_left fun e _ => ?_))
    show _ = ekv (if e.2.1 = e0.2.1 then _ else _)
    split <;> rfl
  · obtain ⟨e, h, rfl⟩ := List.mem_map.mp hx
    obtain ⟨o1, o2⟩ := ok e h
    split
    · rename_i q
      exact ⟨.inr ⟨e0.2.1, zs, ds, by rw [q], upd_same, hz, rfl⟩, bd, ge, key_small o2⟩
    · rename_i q
      exact dbE_ok (RwsAt.keepL (But.refl.put (by simp)) ey q (db.rows e h)) o1 o2
end Cn
set_option Elab.async false
set_option linter.all false
set_option maxRecDepth 100000
set_option maxHeartbeats 1000000
/-! a database with something put into a list; tuples put together -/
namespace Cn
open PySem PySem.Spec PyProof.Rows L2
theorem catA_go {K : PySem.W.Frag} {H : Hp} {Q : VK} {a b : Addr} {xs ys : List V} (ha : H a = some (.tup xs)) (hb : H b = some (.tup ys)) (hz : xs.length + ys.length ≤ sizeLine) (k : ∀ p H', But [] H H' → H' p = some (.tup (xs ++ ys)) → Q (.ref p) H') : rCatA K (.ref a) (.ref b) H Q := by
  refine ⟨a, b, xs, ys, rfl, rfl, SqT.of ha, SqT.of hb, hz, fun e => k b H But.refl (by rw [e]; exact hb), fun _ e => k a H But.refl (by rw [e, List.append_nil]; exact ha), fun _ _ p hp => k p _ (newB hp) upd_same⟩
theorem cut_drop (xs : List V) (k : Nat) : cutV xs (some ((k : Nat) : Int)) none = xs.drop k := by
  unfold cutV
  rw [HT.sIx_nat, HT.sIx_none]
  by_cases h : k ≤ xs.length
  · rw [Nat.min_eq_left h, List.take_of_length_le (by rw [List.length_drop]; omega)]
  · rw [Nat.min_eq_right (by omega), List.drop_eq_nil_of_le (Nat.le_refl _), List.drop_eq_nil_of_le (by omega), List.take_nil]
theorem dps_app {K : PySem.W.Frag} {H : Hp} : ∀ {vs ws : List V} {ds es : List PyData}, DpAll K H vs ds → DpAll K H ws es → DpAll K H (vs ++ ws) (ds ++ es)
  | _, _, _, _, .nil, h => h
  | _, _, _, _, .cons a as, h => .cons a (dps_app as h)
theorem each_ins {R : V → PyData → Prop} {xs : List V} {ds : List PyData} {x : V} {d : PyData} {i : Nat} (h : Each R xs ds) (hx : R x d) : Each R (xs.take i ++ [x] ++ xs.drop i) (ds.take i ++ [d] ++ ds.drop i) := by
  have app : ∀ {a b : List V} {c e : List PyData}, Each R a c → Each R b e → Each R (a ++ b) (c ++ e) := fun {a b c e} p q => by
    refine ⟨by rw [List.length_append, List.length_append, p.1, q.1], fun j u v hu hv => ?_⟩
    by_cases l : j < a.length
    · rw [List.getElem?_append_left l] at hu
      rw [List.getElem?_append_left (by rw [← p.1]; exact l)] at hv
      exact p.2 j u v hu hv
    · rw [List.getElem?_append_right (by omega)] at hu
      rw [List.getElem?_append_right (by rw [← p.1]; omega), ← p.1] at hv
      exact q.2 _ u v hu hv
  refine app (app ⟨by rw [List.length_take, List.length_take, h.1], fun j u v hu hv => ?_⟩ ⟨rfl, fun j u v hu hv => ?_⟩) ⟨by rw [List.length_drop, List.length_drop, h.1], fun j u v hu hv => ?_⟩
  · rw [List.getElem?_take] at hu hv
    split at hu
    · rename_i l
      rw [if_pos l] at hv
      exact h.2 j u v hu hv
    · cases hu
  · cases j with
    | zero => cases hu; cases hv; exact hx
    | succ j => simp at hu
  · rw [List.getElem?_drop] at hu hv
    exact h.2 _ u v hu hv
theorem may_of {K : PySem.W.Frag} {w : World} {G : Hp} {F : Addr} {ls : List Ent} (e : G F = some (.dK (ls.map ekv))) (h : ∀ x ∈ ls, EntOk K G x) : MayR K w G (.ref F) (.dict (ls.map een)) ∧ BndO (.dict (ls.map een)) := by
  refine ⟨⟨F, rfl, .inl ⟨ls.map ekv, e, ?_, ?_⟩⟩, fun p hp => ?_⟩
  · rw [List.map_map, List.map_map]; rfl
  · rw [List.map_map, List.map_map]
    exact each_map fun x hx => (h x hx).rows
  · obtain ⟨y, hy, rfl⟩ := List.mem_map.mp hp
    exact (h y hy).bnd
theorem valE_at {n : Str} : ∀ {ls : List Ent} {x : Ent}, (ls.map (·.1)).Nodup → x ∈ ls → x.1 = .inr n → valE (ls.map een) (.text n) = some x.2.2
  | y :: ls, x, nd, h, e => by
    rw [List.map_cons] at nd
    unfold valE
    rw [List.map_cons]
    rcases List.mem_cons.mp h with rfl | z
    · rw [List.find?_cons_of_pos (p := fun p : NK × PyData => decide (p.1 = .text n)) (by rw [decide_eq_true_iff]; show nkOf x.1 = _; rw [e]; rfl)]; rfl
    · rw [List.find?_cons_of_neg (p := fun p : NK × PyData => decide (p.1 = .text n)) (by
        rw [decide_eq_true_iff]
        intro q
        have q : nkOf y.1 = .text n := q
        have : y.1 = x.1 := nkOf_inj (by rw [q, e]; rfl)
        exact (List.nodup_cons.mp nd).1 (by rw [this]; exact List.mem_map.mpr ⟨x, z, rfl⟩))]
      exact valE_at (List.nodup_cons.mp nd).2 z e
theorem toCell_cellD (x : Option Int) : toCell (cellD x) = x := by cases x <;> rfl
theorem toCells_rowD (r : Cells) : toCells (rowD r) = r := by
  show (r.map cellD).map toCell = r
  rw [List.map_map]
  conv => rhs; rw [← List.map_id r]
  exact List.map_congr_left fun x _ => toCell_cellD x
theorem cellB_cellD {x : Option Int} (h : CellOk x) : cellB (cellD x) = true := by
  cases x with
  | none => rfl
  | some i =>
    have h : 0 ≤ i ∧ i ≤ 1000000000 := h
    show (decide (0 ≤ i) && decide (i ≤ 1000000000)) = true
    rw [decide_eq_true h.1, decide_eq_true h.2]; rfl
theorem rowB_rowD {r : Cells} {n : Nat} (h : r.length = n) (ok : ∀ x ∈ r, CellOk x) : rowB n (rowD r) = true := by
  show ((r.map cellD).length == n && (r.map cellD).all cellB) = true
  rw [List.length_map, h, beq_self_eq_true, Bool.true_and, List.all_eq_true]
  intro d hd
  obtain ⟨x, hx, rfl⟩ := List.mem_map.mp hd
  exact cellB_cellD (ok x hx)
theorem rowsB_rows {rows : List Cells} {n : Nat} (h : ∀ r ∈ rows, r.length = n ∧ ∀ x ∈ r, CellOk x) (nd : rows.Nodup) : rowsB n (.list (rows.map rowD)) = true := by
  show ((rows.map rowD).all (rowB n) && decide (((rows.map rowD).map toCells).Nodup)) = true
  have e : (rows.map rowD).map toCells = rows := by
    rw [List.map_map]
    conv => rhs; rw [← List.map_id rows]
    exact List.map_congr_left fun r _ => toCells_rowD r
  rw [e, decide_eq_true nd, Bool.and_true, List.all_eq_true]
  intro d hd
  obtain ⟨r, hr, rfl⟩ := List.mem_map.mp hd
  exact rowB_rowD (h r hr).1 (h r hr).2
/-- the entries, one list of them as `ds` -/
def chE (es : List (T × Addr × List Cells)) (l : Addr) (ds : List PyData) : List Ent := es.map fun e => if e.2.1 = l then ((.inr (S e.1), .ref e.2.1, .list ds) : Ent) else dbE e
structure RowK (d : PyData) : Prop where
  bd : ∀ es, d = .tuple es → es.length ≤ 100 ∧ ∀ e ∈ es, e.canLay0 = true ∧ e.depth ≤ 8
  ge : GE 4 2000 d
theorem RowK.row {r : Cells} (h : r.length ≤ 9) (ok : ∀ x ∈ r, CellOk x) : RowK (rowD r) := ⟨bnd_row h, (ge_row ok h).mono⟩
theorem RowK.plain {d : PyData} (g : GE 4 2000 d) (h : ∀ es, d ≠ .tuple es) : RowK d := ⟨fun es q => absurd q (h es), g⟩
theorem rows_k {rows : List Cells} (h : RowsOk rows) : ∀ d ∈ rows.map rowD, RowK d := fun d hd => by
  obtain ⟨r, hr, rfl⟩ := List.mem_map.mp hd
  exact RowK.row (h.1 r hr).1 (h.1 r hr).2
theorem bnd_ks {ds : List PyData} (h : ∀ d ∈ ds, RowK d) (hl : ds.length ≤ 9) : BndD (.list ds) := fun es q => by
  cases q
  exact ⟨by omega, fun x hx es e => (h x hx).bd es e⟩
theorem ge_ks {ds : List PyData} (h : ∀ d ∈ ds, RowK d) (hl : ds.length ≤ 9) : GE 5 20000 (.list ds) := (GE.lst (n := 4) (m := 2000) (k := 9) (fun d hd => (h d hd).ge) hl).mono
theorem mem_ins {α : Type} {xs : List α} {x y : α} {i : Nat} (h : y ∈ xs.take i ++ [x] ++ xs.drop i) : y ∈ xs ∨ y = x := by
  rcases List.mem_append.mp h with z | z
  · rcases List.mem_append.mp z with z | z
    · exact .inl (List.mem_of_mem_take z)
    · exact .inr (List.mem_singleton.mp z)
  · exact .inl (List.mem_of_mem_drop z)
theorem ch_ok {K : PySem.W.Frag} {G : Hp} {F : Addr} {es : List (T × Addr × List Cells)} {e0 : T × Addr × List Cells} {zs : List V} {ds : List PyData} (db : DbR G F es) (ok : ∀ e ∈ es, RowsOk e.2.2 ∧ ((∀ c ∈ e.1, c < 256) ∧ e.1.length ≤ 41)) (he : e0 ∈ es)
    (hz : Each (RowA K (upd G e0.2.1 (.lst zs))) zs ds) (hk : ∀ d ∈ ds, RowK d) (hl : ds.length ≤ 9) : (∀ x ∈ chE es e0.2.1 ds, EntOk K (upd G e0.2.1 (.lst zs)) x) ∧ upd G e0.2.1 (.lst zs) F = some (.dK ((chE es e0.2.1 ds).map ekv)) := by
  obtain ⟨ys, ey, _⟩ := db.rows e0 he
  have nF : F ≠ e0.2.1 := fun z => by have := db.at_; rw [z, ey] at this; cases this
  refine ⟨fun x hx => ?_, ?_⟩
  · obtain ⟨e, h, rfl⟩ := List.mem_map.mp hx
    obtain ⟨o1, o2⟩ := ok e h
    split
    · rename_i q
      exact ⟨.inr ⟨e0.2.1, zs, ds, by rw [q], upd_same, hz, rfl⟩, bnd_ks hk hl, ge_ks hk hl, key_small o2⟩
    · rename_i q
      exact dbE_ok (RwsAt.keepL (But.refl.put (by simp)) ey q (db.rows e h)) o1 o2
  · rw [upd_ne nF, db.at_]
    unfold chE
    rw [List.map_map]
    refine congrArg some (congrArg HO.dK (List.map_congr_left fun e _ => ?_))
    show _ = ekv (if e.2.1 = e0.2.1 then _ else _)
    split <;> rfl
theorem rows_each {K : PySem.W.Frag} {G : Hp} {l : Addr} {ys : List V} {rows : List Cells} {o : HO} (ey : G l = some (.lst ys)) (hy : Each (RowV G) ys rows) : Each (RowA K (upd G l o)) ys (rows.map rowD) :=
  ⟨by rw [List.length_map]; exact hy.1, fun i u d hu hd => by
    rw [List.getElem?_map, Option.map_eq_some_iff] at hd
    obtain ⟨r, hr, rfl⟩ := hd
    exact .inl ((hy.2 i u r hu hr).upd ey).dp⟩
theorem ins_done {K : PySem.W.Frag} {w : World} {G : Hp} {F : Addr} {es : List (T × Addr × List Cells)} {e0 : T × Addr × List Cells} {ys : List V} {x : V} {d : PyData} {i : Nat} (db : DbR G F es) (ok : ∀ e ∈ es, RowsOk e.2.2 ∧ ((∀ c ∈ e.1, c < 256) ∧ e.1.length ≤ 41)) (he : e0 ∈ es)
    (ey : G e0.2.1 = some (.lst ys)) (hy : Each (RowV G) ys e0.2.2) (hx : RowA K (upd G e0.2.1 (.lst (ys.take i ++ [x] ++ ys.drop i))) x d) (hk : RowK d) (h3 : e0.2.2.length ≤ 3) (hl : es.length ≤ 4) : Done K w (upd G e0.2.1 (.lst (ys.take i ++ [x] ++ ys.drop i))) F := by
  obtain ⟨c1, c2⟩ := ch_ok (K := K) db ok he (each_ins (i := i) (rows_each (K := K) ey hy) hx) (fun q hq => (mem_ins hq).elim (rows_k (ok e0 he).1 q) (fun z => by rw [z]; exact hk)) (by simp only [List.length_append, List.length_take, List.length_drop, List.length_map, List.length_cons, List.length_nil]; omega)
  exact done_of c2 c1 (by unfold chE; rw [List.length_map]; omega)
end Cn
set_option Elab.async false
set_option linter.all false
set_option maxRecDepth 100000
set_option maxHeartbeats 1000000
/-! drawn names of the laws of databases -/
namespace Cn
def sgn (first step k : Nat) : Nat := 97 + (first + step * k) % 26
def nameL (a b f s : Nat) : T := List.replicate a f ++ [s] ++ List.replicate b f
/-- a name, cut at seven, with r of its own signs behind -/
def wrdL (a b f s r : Nat) : T := (nameL a b f s).take 7 ++ ((nameL a b f s).take 7).take r
theorem sgn_inj {first step j k : Nat} (hs : step ∈ [1, 3, 5, 7, 9, 11]) (hj : j < 10) (hk : k < 10) (h : sgn first step j = sgn first step k) : j = k := by
  unfold sgn at h
  simp only [List.mem_cons, List.not_mem_nil, or_false] at hs
  rcases hs with rfl | rfl | rfl | rfl | rfl | rfl <;> omega
theorem nameL_at {a b f s : Nat} : (nameL a b f s)[a]? = some s := by
  unfold nameL
  rw [List.append_assoc, List.getElem?_append_right (by simp)]
  simp
theorem wrdL_at {a b f s r : Nat} (ha : a ≤ 3) : (wrdL a b f s r)[a]? = some s := by
  unfold wrdL
  rw [List.getElem?_append_left (by simp [nameL]; omega), List.getElem?_take_of_lt (by omega)]
  exact nameL_at
theorem wrdL_inj {a b f s s' r r' : Nat} (ha : a ≤ 3) (h : wrdL a b f s r = wrdL a b f s' r') : s = s' := by
  have h1 := wrdL_at (b := b) (f := f) (s := s) (r := r) ha
  have h2 := wrdL_at (b := b) (f := f) (s := s') (r := r') ha
  rw [h, h2] at h1
  exact (Option.some.inj h1).symm
theorem wrdL_name {a b f s r : Nat} (hf : 97 ≤ f ∧ f ≤ 122) (hs : 97 ≤ s ∧ s ≤ 122) (hr : r ≤ 1) : isName (wrdL a b f s r) = true := by
  have m : ∀ c ∈ nameL a b f s, 97 ≤ c ∧ c ≤ 122 := fun c hc => by
    unfold nameL at hc
    rcases List.mem_append.mp hc with z | z
    · rcases List.mem_append.mp z with y | y
      · rw [(List.mem_replicate.mp y).2]; exact hf
      · rw [List.mem_singleton.mp y]; exact hs
    · rw [(List.mem_replicate.mp z).2]; exact hf
  have ne : nameL a b f s ≠ [] := by unfold nameL; simp
  unfold wrdL
  refine name_ok ?_ ?_ fun c hc => ?_
  · intro z
    have := (List.append_eq_nil_iff.mp z).1
    rw [List.take_eq_nil_iff] at this
    rcases this with z | z
    · cases z
    · exact ne z
  · rw [List.length_append, List.length_take, List.length_take]; omega
  · rcases List.mem_append.mp hc with z | z
    · exact m c (List.mem_of_mem_take z)
    · exact m c (List.mem_of_mem_take (List.mem_of_mem_take z))
/-- ten different names -/
structure Names10 (ws : List T) : Prop where
  len : ws.length = 10
  nd : ws.Nodup
  nm : ∀ w ∈ ws, isName w = true
theorem names10 {first step a b f : Nat} (hs : step ∈ [1, 3, 5, 7, 9, 11]) (ha : a ≤ 3) (hf : 97 ≤ f ∧ f ≤ 122) {g : Nat → Nat} (h1 : ∀ k, g k ≤ 1) :
    Names10 ((List.range 10).map fun k => wrdL a b f (sgn first step k) (g k)) := by
  have sg : ∀ k, 97 ≤ sgn first step k ∧ sgn first step k ≤ 122 := fun k => by unfold sgn; omega
  refine ⟨by simp, ?_, fun w hw => ?_⟩
  · unfold List.Nodup
    rw [List.pairwise_map]
    refine (List.nodup_range (n := 10)).imp_of_mem fun {i j} hi hj ne e => ?_
    exact ne (sgn_inj hs (List.mem_range.mp hi) (List.mem_range.mp hj) (wrdL_inj ha e))
  · obtain ⟨k, hk, rfl⟩ := List.mem_map.mp hw
    exact wrdL_name hf (sg k) (h1 k)
theorem nameL_len {a b f s : Nat} : (nameL a b f s).length = a + 1 + b := by unfold nameL; simp; omega
end Cn
set_option Elab.async false
set_option linter.all false
set_option maxRecDepth 100000
set_option maxHeartbeats 4000000
/-! draws, drawn names -/
namespace Cn
open PySem L2
structure LTx (K : PySem.W.Frag) (mg : Str → Option Value) (CR CT CS CI : Addr) : Prop extends Txt K mg CR CT CS where
  b_max : mg "max" = none
  b_min : mg "min" = none
  b_abs : mg "abs" = none
  b_range : mg "range" = none
  b_int : mg "int" = none
  b_dict : mg "dict" = none
  b_sorted : mg "sorted" = none
  b_sum : mg "sum" = none
  b_enumerate : mg "enumerate" = none
  b_repr : mg "repr" = none
  b_bool : mg "bool" = none
  g_HIGHEST : ∃ t, mg "HIGHEST" = some (.int 1000000000 t)
theorem cut_to (l : Cn.T) (k : Nat) : cutS (S l) none (some ((k : Nat) : Int)) = S (l.take k) := by
  refine TL.ext_tl ?_
  show ((l.drop (HT.sIx (S l).length 0 none)).take (HT.sIx (S l).length (S l).length (some (k : Int)) - HT.sIx (S l).length 0 none)) = l.take k
  rw [HT.sIx_nat, HT.sIx_none, S_len, List.drop_zero, Nat.sub_zero]
  by_cases h : k ≤ l.length
  · rw [Nat.min_eq_left h]
  · rw [Nat.min_eq_right (by omega), List.take_of_length_le (Nat.le_refl _), List.take_of_length_le (by omega)]
theorem MkL.lcR {K : PySem.W.Frag} {σ : L2.St} {H : Hp} {tn te : TE} {i n m : Nat} {f : Nat → Cn.T} (hn : ∀ (H' : Hp) (Q : VK), Q (.int (n : Int)) H' → tn σ H' Q) (hz : n ≤ 1000) (he : ∀ k, k < n → Pt te ((wipe σ [i]).set i (some (.int (0 + (k : Int))))) (f k) m) (hw : ∀ v, wipe ((wipe σ [i]).set i v) [i] = wipe σ [i]) :
    MkL (tLc (iRng1 (tCons tn tNil)) (gName i) tYes te [i]) σ H ((List.range n).map f) := fun Q q =>
  hn H _ ⟨_, rfl, by omega, by omega, fun D hD => turns (walk_range (lo := 0) (n := n)) (fun k H' => But [] H H' ∧ H' D = some (.lst (svs ((List.range k).map f)))) ⟨newB hD, upd_same⟩ (fun _ _ _ _ => trivial) (fun k x H1 H1' hk ⟨b, e⟩ y => by
    obtain ⟨rfl, rfl⟩ := y
    refine ⟨hw _, (he k hk).2 _ _ ⟨_, e, szt (by rw [svs_len, List.length_map, List.length_range]; omega), b.put0 hD, ?_⟩⟩
    rw [upd_same, List.range_succ, List.map_append, svs_app]; rfl) fun H' ⟨b, e⟩ => q H' D b hD e⟩
section
variable {P : Program} {w : World} {K : PySem.W.Frag} {mg : Str → Option Value} {base : Heap} {CR CT CS CI : Addr} {f : Addr} {fd : FuncData}
theorem sc__law_feed : FnScope ["script", "index", "cell", "great"] ["script", "index"] (defScope s__law_feed) := ⟨rfl, rfl, rfl, by decide +kernel, rfl, by decide +kernel, by decide +kernel⟩
theorem sc__law_take : FnScope ["feed", "size", "digit"] ["feed", "size"] (defScope s__law_take) := ⟨rfl, rfl, rfl, by decide +kernel, rfl, by decide +kernel, by decide +kernel⟩
theorem sc__law_pick : FnScope ["feed", "options"] ["feed", "options"] (defScope s__law_pick) := ⟨rfl, rfl, rfl, by decide +kernel, rfl, by decide +kernel, by decide +kernel⟩
theorem sc__law_names : FnScope ["feed", "size", "letters", "start", "step", "filler", "ahead", "behind", "signs", "lead", "k", "sign"] ["feed", "size"] (defScope s__law_names) := ⟨rfl, rfl, rfl, by decide +kernel, rfl, by decide +kernel, by decide +kernel⟩
theorem sc__law_words : FnScope ["feed", "size", "name", "one"] ["feed", "size"] (defScope s__law_words) := ⟨rfl, rfl, rfl, by decide +kernel, rfl, by decide +kernel, by decide +kernel⟩
def FeedR (H : Hp) (a : Addr) : Prop := ∃ d s : Int, H a = some (.lst [.int d, .int s])
theorem FeedR.keep {H H' : Hp} {a : Addr} (f : FeedR H a) (b : But [] H H') : FeedR H' a := let ⟨d, s, e⟩ := f; ⟨d, s, b.at e⟩
def sp_take : Sp := fun vs H Q _ => ∃ a many, vs = [.ref a, .int (many : Nat)] ∧ 1 ≤ many ∧ many ≤ 1000 ∧ FeedR H a ∧ ∀ H' (r : Nat), But [a] H H' → FeedR H' a → r < many → Q (.int (r : Nat)) H'
theorem ok_take (F : Fun K "_law_take" "_law_take" s__law_take f fd) (T : LTx K mg CR CT CS CI) : FnOk P w K mg base (L2.CX P w) 1 f fd ["feed", "size"] sp_take := by
  refine F.okX sc__law_take (fun vs H Q E h => ?_) (fun cdv A outer s H vs Q E hr h => ?_)
  · obtain ⟨a, many, rfl, _⟩ := h
    rfl
  · obtain ⟨a, many, rfl, h1, h2, ⟨d, s', ha⟩, k⟩ := h
    refine ⟨_, (pss_cons (ps_if (pt_cmpR op_gt (pe_ix (ix_listK K rfl) (pv 0) pe_int (fun _ _ => rfl)) pe_int (nomark _))
  (pss_cons (ps_set (i := 2) sc__law_take.nd rfl (Or.inl rfl) (pe_op op_mod (pe_ix (ix_listK K rfl) (pv 0) pe_int (fun _ _ => rfl)) (pv 1)))
  (pss_cons (ps_asg (pe_op op_fdiv (pe_ix (ix_listK K rfl) (pv 0) pe_int (fun _ _ => rfl)) (pv 1)) (pg_sub (pv 0) pe_int set_list))
  (pss_one (ps_ret (pv 2)))))
  pss_nil)
  (pss_cons (ps_asg (pe_op op_mod (pe_op op_add (pe_op op_mul (pe_ix (ix_listK K rfl) (pv 0) pe_int (fun _ _ => rfl)) pe_int) pe_int) pe_int) (pg_sub (pv 0) pe_int set_list))
  (pss_one (ps_ret (pe_op op_mod (pe_op op_fdiv (pe_ix (ix_listK K rfl) (pv 0) pe_int (fun _ _ => rfl)) pe_int) (pv 1)))))), ?_⟩
    have pos : (0 : Int) < (many : Nat) := by omega
    have lt : ((many : Nat) : Int) < 1073741824 := by omega
    have md : ∀ z : Int, ∃ r : Nat, r < many ∧ z % ((many : Nat) : Int) = (r : Nat) := fun z => by
      have h3 := Int.emod_nonneg z (b := ((many : Nat) : Int)) (by omega)
      have h4 := Int.emod_lt_of_pos z pos
      exact ⟨(z % ((many : Nat) : Int)).toNat, by omega, by omega⟩
    refine ⟨_, rfl, a, _, 0, _, rfl, rfl, SqL.of ha, rfl, _, _, rfl, rfl, _, rfl, ?_⟩
    refine ite2 (fun hd => ?_) (fun hd => ?_)
    · refine ⟨_, rfl, a, _, 0, _, rfl, rfl, SqL.of ha, rfl, _, rfl, _, _, rfl, rfl, pos, ?_⟩
      refine ⟨_, rfl, a, _, 0, _, rfl, rfl, SqL.of ha, rfl, _, rfl, _, _, rfl, rfl, ⟨pos, lt⟩, ?_⟩
      refine ⟨_, rfl, a, _, 0, 0, rfl, rfl, ha, rfl, ?_⟩
      obtain ⟨r, r1, r2⟩ := md d
      refine ⟨_, rfl, ?_⟩
      show Q (.int (d % ((many : Nat) : Int))) _
      rw [r2]
      exact k _ r (But.refl.put (by simp)) ⟨_, _, upd_same⟩ r1
    · refine ⟨_, rfl, a, _, 1, _, rfl, rfl, SqL.of ha, rfl, _, _, rfl, rfl, .inr (by constructor <;> decide), _, _, rfl, rfl, _, _, rfl, rfl, (by show (0 : Int) < 2305843009213693951; decide), ?_⟩
      refine ⟨_, rfl, a, _, 1, 1, rfl, rfl, ha, rfl, ?_⟩
      refine ⟨_, rfl, a, _, 1, _, rfl, rfl, SqL.of upd_same, rfl, _, _, rfl, rfl, by constructor <;> decide, _, rfl, _, _, rfl, rfl, pos, ?_⟩
      obtain ⟨r, r1, r2⟩ := md ((s' * 742938285 + 1013904223) % 2305843009213693951 / 16777216)
      show Q (.int ((s' * 742938285 + 1013904223) % 2305843009213693951 / 16777216 % ((many : Nat) : Int))) _
      rw [r2]
      exact k _ r (But.refl.put (by simp)) ⟨_, _, upd_same⟩ r1
def sp_feed (K : PySem.W.Frag) : Sp := fun vs H Q _ => ∃ (sc : Addr) (ns : List Int) (j : Nat), vs = [.ref sc, .int (j : Nat)] ∧ j ≤ 3 ∧ SqL K H sc (ns.map V.int) ∧ ∀ H' a, But [] H H' → H a = none → FeedR H' a → Q (.ref a) H'
theorem ok_feed (F : Fun K "_law_feed" "_law_feed" s__law_feed f fd) (T : LTx K mg CR CT CS CI) : FnOk P w K mg base (L2.CX P w) 1 f fd ["script", "index"] (sp_feed K) := by
  refine F.okX sc__law_feed (fun vs H Q E h => ?_) (fun cdv A outer s H vs Q E hr h => ?_)
  · obtain ⟨a, many, _, rfl, _⟩ := h
    rfl
  · obtain ⟨sc, ns, j, rfl, hj, hs, k⟩ := h
    refine ⟨_, (pss_cons (ps_set (i := 2) sc__law_feed.nd rfl (Or.inl rfl) (pe_ifExp (pt_cmpR op_lt (pv 1) (pe_callB (call_len_seqK K rfl) (by rfl) T.b_len (by decide +kernel) (pa_cons (pv 0) pa_nil)) (nomark _)) (pe_ix (ix_listK K rfl) (pv 0) (pv 1) (fun _ _ => rfl)) (pe_op op_add (pe_op op_mul pe_int (pv 1)) pe_int)))
  (pss_cons (ps_set (i := 3) sc__law_feed.nd rfl (Or.inl rfl) (pe_op op_sub (pe_callB call_abs (by rfl) T.b_abs (by decide +kernel) (pa_cons (pv 2) pa_nil)) (pe_op op_pow pe_int pe_int)))
  (pss_one (ps_ret (pe_lst (pa_cons (pe_callB (call_max2 (by rfl)) (by rfl) T.b_max (by decide +kernel) (pa_cons pe_int (pa_cons (pv 3) pa_nil))) (pa_cons (pe_op op_mod (pe_op op_add (pe_op op_mul (pv 2) pe_int) (pe_op op_mul pe_int (pe_op op_add (pv 1) pe_int))) pe_int) pa_nil))))))), ?_⟩
    have cell : ∀ (Q' : VK), (∀ z : Int, Q' (.int z) H) → tIf (tTest (tOp (rI0 fun i j => V.bl (decide (i < j))) (tVar 1) (tCB (fun xs H Q => ∃ p ys, xs = [V.ref p] ∧ (SqL K H p ys ∨ SqT K H p ys) ∧ Q (V.int ↑ys.length) H) (tCons (tVar 0) tNil))))
        (tOp (rIxL K) (tVar 0) (tVar 1)) (tOp (rI0 fun i j => V.int (i + j)) (tOp (rI CMul fun i j => V.int (i * j)) (tC (V.int 59)) (tVar 1)) (tC (V.int 23)))
        (L2.start [Str.ofString "script", Str.ofString "index", Str.ofString "cell", Str.ofString "great"] [V.ref sc, V.int ↑j]) H Q' := fun Q' q => by
      refine ⟨_, rfl, _, rfl, sc, _, rfl, .inl hs, _, _, rfl, rfl, _, rfl, ?_⟩
      refine ite2 (fun hd => ?_) (fun hd => ?_)
      · have hl : j < ns.length := by
          have := of_decide_eq_true hd
          rw [List.length_map] at this
          omega
        have e : (ns.map V.int)[j]? = some (V.int ns[j]) := by rw [List.getElem?_map, List.getElem?_eq_getElem hl]; rfl
        exact ⟨_, rfl, _, rfl, sc, _, j, _, rfl, rfl, hs, atI_nat e, q _⟩
      · exact ⟨_, rfl, _, _, rfl, rfl, .inl (by constructor <;> decide), _, _, rfl, rfl, q _⟩
    refine cell _ fun z => ?_
    refine ⟨_, rfl, _, rfl, _, _, rfl, rfl, by refine ⟨by decide, by decide, by decide⟩, _, _, rfl, rfl, _, rfl, ?_⟩
    refine ⟨_, _, rfl, _, rfl, _, _, rfl, rfl, .inr (by constructor <;> decide), _, rfl, _, _, rfl, rfl, _, _, rfl, rfl, .inl (by constructor <;> decide), _, _, rfl, rfl, _, _, rfl, rfl, (by show (0 : Int) < 2305843009213693951; decide), ?_⟩
    exact ⟨szl (by simp), fun a ha => k _ a (newB ha) ha ⟨_, _, upd_same⟩⟩
def sp_pick : Sp := fun vs H Q _ => ∃ (a : Addr) (l : Cn.T), vs = [.ref a, sv l] ∧ 1 ≤ l.length ∧ l.length ≤ 1000 ∧ FeedR H a ∧ ∀ H' c, But [a] H H' → FeedR H' a → c ∈ l → Q (sv [c]) H'
theorem ok_pick (F : Fun K "_law_pick" "_law_pick" s__law_pick f fd) (T : LTx K mg CR CT CS CI) (c__law_take : Cal P w K mg base 1 "_law_take" sp_take) : FnOk P w K mg base (L2.CX P w) 2 f fd ["feed", "options"] sp_pick := by
  refine F.okX sc__law_pick (fun vs H Q E h => ?_) (fun cdv A outer s H vs Q E hr h => ?_)
  · obtain ⟨a, l, rfl, _⟩ := h
    rfl
  · obtain ⟨a, l, rfl, h1, h2, hf, k⟩ := h
    refine ⟨_, (pss_one (ps_ret (pe_ix ix_str (pv 1) (p_call E c__law_take hr (by decide) (by rfl) (passX rfl rfl rfl (takes_of rfl rfl rfl rfl)) (pa_cons (pv 0) (pa_cons (pe_callB call_len_str (by rfl) T.b_len (by decide +kernel) (pa_cons (pv 1) pa_nil)) pa_nil))) (fun _ _ => rfl)))), ?_⟩
    refine ⟨_, rfl, _, rfl, _, rfl, S l, rfl, szl (by rw [S_len]; omega), ?_⟩
    refine ⟨a, l.length, by rw [S_len]; rfl, h1, h2, hf, fun H' r b fr hr' => ?_⟩
    have e : l[r]? = some (l[r]'hr') := List.getElem?_eq_getElem hr'
    exact ⟨S l, r, _, rfl, rfl, szl (by rw [S_len]; omega), atI_nat e, k H' _ b fr (List.getElem_mem hr')⟩
def azT : Cn.T := [97, 98, 99, 100, 101, 102, 103, 104, 105, 106, 107, 108, 109, 110, 111, 112, 113, 114, 115, 116, 117, 118, 119, 120, 121, 122]
theorem az_at : ∀ j, j < 26 → azT[j]? = some (97 + j) := by decide
/-- an element of a list -/
def sp_pickL : Sp := fun vs H Q _ => ∃ (a b : Addr) (xs : List V), vs = [.ref a, .ref b] ∧ 1 ≤ xs.length ∧ xs.length ≤ 1000 ∧ FeedR H a ∧ b ≠ a ∧ H b = some (.lst xs) ∧ ∀ H' x, But [a] H H' → FeedR H' a → x ∈ xs → Q x H'
theorem ok_pickL (F : Fun K "_law_pick" "_law_pick" s__law_pick f fd) (T : LTx K mg CR CT CS CI) (c__law_take : Cal P w K mg base 1 "_law_take" sp_take) : FnOk P w K mg base (L2.CX P w) 2 f fd ["feed", "options"] sp_pickL := by
  refine F.okX sc__law_pick (fun vs H Q E h => ?_) (fun cdv A outer s H vs Q E hr h => ?_)
  · obtain ⟨a, b, xs, rfl, _⟩ := h
    rfl
  · obtain ⟨a, b, xs, rfl, h1, h2, hf, nba, hb, k⟩ := h
    refine ⟨_, (pss_one (ps_ret (pe_ix (ix_listK K rfl) (pv 1) (p_call E c__law_take hr (by decide) (by rfl) (passX rfl rfl rfl (takes_of rfl rfl rfl rfl)) (pa_cons (pv 0) (pa_cons (pe_callB (call_len_seqK K rfl) (by rfl) T.b_len (by decide +kernel) (pa_cons (pv 1) pa_nil)) pa_nil))) (fun _ _ => rfl)))), ?_⟩
    refine ⟨_, rfl, _, rfl, _, rfl, b, _, rfl, .inl (SqL.of hb), ?_⟩
    refine ⟨a, xs.length, rfl, h1, by omega, hf, fun H' r b1 fr hr' => ?_⟩
    have e : xs[r]? = some (xs[r]'hr') := List.getElem?_eq_getElem hr'
    exact ⟨b, _, r, _, rfl, rfl, SqL.of (b1.at1 hb nba), atI_nat e, k H' _ b1 fr (List.getElem_mem hr')⟩
def sp_names : Sp := fun vs H Q _ => ∃ a, vs = [.ref a, .int (10 : Nat)] ∧ FeedR H a ∧ ∀ H' b first step ah bh fl, But [a] H H' → FeedR H' a → H b = none → step ∈ [1, 3, 5, 7, 9, 11] → ah ≤ 3 → bh ≤ 4 → (97 ≤ fl ∧ fl ≤ 122) → H' b = some (.lst (svs ((List.range 10).map fun k => nameL ah bh fl (sgn first step k)))) → Q (.ref b) H'
theorem ok_names (F : Fun K "_law_names" "_law_names" s__law_names f fd) (T : LTx K mg CR CT CS CI) (c__law_take : Cal P w K mg base 1 "_law_take" sp_take) (c__law_pick : Cal P w K mg base 2 "_law_pick" sp_pickL) : FnOk P w K mg base (L2.CX P w) 3 f fd ["feed", "size"] sp_names := by
  refine F.okX sc__law_names (fun vs H Q E h => ?_) (fun cdv A outer s H vs Q E hr h => ?_)
  · obtain ⟨a, rfl, _⟩ := h
    rfl
  · obtain ⟨a, rfl, hf, k⟩ := h
    refine ⟨_, (pss_cons (ps_set (i := 2) sc__law_names.nd rfl (Or.inr rfl) pe_str)
  (pss_cons (ps_asg (pe_tup (pa_cons (p_call E c__law_take hr (by decide) (by rfl) (passX rfl rfl rfl (takes_of rfl rfl rfl rfl)) (pa_cons (pv 0) (pa_cons pe_int pa_nil))) (pa_cons (p_call E c__law_pick hr (by decide) (by rfl) (passX rfl rfl rfl (takes_of rfl rfl rfl rfl)) (pa_cons (pv 0) (pa_cons (pe_lst (pa_cons pe_int (pa_cons pe_int (pa_cons pe_int (pa_cons pe_int (pa_cons pe_int (pa_cons pe_int pa_nil))))))) pa_nil))) (pa_cons (pe_ix ix_str (pv 2) (p_call E c__law_take hr (by decide) (by rfl) (passX rfl rfl rfl (takes_of rfl rfl rfl rfl)) (pa_cons (pv 0) (pa_cons pe_int pa_nil))) (fun _ _ => rfl)) pa_nil)))) (pg_tup (by rfl) (pgs_cons (pg_name (i := 3) sc__law_names.nd rfl (Or.inr rfl)) (pgs_cons (pg_name (i := 4) sc__law_names.nd rfl (Or.inr rfl)) (pgs_cons (pg_name (i := 5) sc__law_names.nd rfl (Or.inr rfl)) pgs_nil)))))
  (pss_cons (ps_asg (pe_tup (pa_cons (p_call E c__law_take hr (by decide) (by rfl) (passX rfl rfl rfl (takes_of rfl rfl rfl rfl)) (pa_cons (pv 0) (pa_cons pe_int pa_nil))) (pa_cons (p_call E c__law_take hr (by decide) (by rfl) (passX rfl rfl rfl (takes_of rfl rfl rfl rfl)) (pa_cons (pv 0) (pa_cons pe_int pa_nil))) pa_nil))) (pg_tup (by rfl) (pgs_cons (pg_name (i := 6) sc__law_names.nd rfl (Or.inr rfl)) (pgs_cons (pg_name (i := 7) sc__law_names.nd rfl (Or.inr rfl)) pgs_nil))))
  (pss_cons (ps_setLc (i := 8) (own := [("k", 10)]) (g := gName 10) (tt := tYes) (by rfl) sc__law_names.nd rfl rfl (sw_true rfl rfl rfl (by decide +kernel)) (pi_range1 (by rfl) T.b_range (pa_cons (pv 1) pa_nil)) (blkOk_by (own := [("k", 10)]) (N := ["feed", "size", "letters", "start", "step", "filler", "ahead", "behind", "signs", "lead", "k", "sign"]) (sc := (defScope s__law_names)) (by decide +kernel)) (fun _ _ _ _ _ => (pg_name (i := 10) sc__law_names.nd rfl (Or.inl rfl))) (fun _ _ _ _ _ => pts_nil) (fun _ _ _ _ _ => (pe_ix ix_str (pv 2) (pe_op op_mod (pe_op op_add (pv 3) (pe_op op_mul (pv 4) (pv 10))) pe_int) (fun _ _ => rfl))))
  (pss_cons (ps_if (PW.pt (pw_and (pt_chain op_lt op_lt pe_int (pv 1) pe_int) (pw_and1 (pt_cmpR op_eq (p_call E c__law_take hr (by decide) (by rfl) (passX rfl rfl rfl (takes_of rfl rfl rfl rfl)) (pa_cons (pv 0) (pa_cons pe_int pa_nil))) pe_int (nomark _)))))
  (pss_cons (ps_set (i := 9) sc__law_names.nd rfl (Or.inl rfl) (pe_op op_mul (pe_ix (ix_listK K rfl) (pv 8) pe_int (fun _ _ => rfl)) (pe_op op_add pe_int (pv 6))))
  (pss_one (ps_ret (pe_slice (sl_listK K rfl) (pe_lst (pa_cons (pv 9) (pa_cons (pe_op op_add_str (pv 9) (pe_ix (ix_listK K rfl) (pv 8) pe_int (fun _ _ => rfl))) (pa_cons (pe_ix (ix_listK K rfl) (pv 8) pe_int (fun _ _ => rfl)) (pa_cons (pe_op op_add_str (pv 9) (pe_op op_mul (pe_ix (ix_listK K rfl) (pv 8) pe_int (fun _ _ => rfl)) pe_int)) pa_nil))))) po_none (po_some (pv 1))))))
  pss_nil)
  (pss_one (ps_ret (pe_lc (own := [("sign", 11)]) (g := gName 11) (tt := tYes) (by rfl) sc__law_names.nd (pi_listK K rfl (pv 8)) (blkOk_by (own := [("sign", 11)]) (N := ["feed", "size", "letters", "start", "step", "filler", "ahead", "behind", "signs", "lead", "k", "sign"]) (sc := (defScope s__law_names)) (by decide +kernel)) (fun _ _ _ _ _ => (pg_name (i := 11) sc__law_names.nd rfl (Or.inl rfl))) (fun _ _ _ _ _ => pts_nil) (fun _ _ _ _ _ => (pe_op op_add_str (pe_op op_add_str (pe_op op_repZ (pv 5) (pv 6)) (pv 11)) (pe_op op_repZ (pv 5) (pv 7)))))))))))), ?_⟩
    refine sq_txt (i := 2) (Pt.lit (l := azT) (n := 26)) ?_
    have naz : S azT ≠ S [] := by decide
    refine ⟨_, rfl, a, 26, rfl, by decide, by decide, hf, fun H1 first b1 f1 h1 => ?_⟩
    refine ⟨_, rfl, szl (by simp), fun l hl => ?_⟩
    have nal : a ≠ l := fun z => by obtain ⟨d, s, e⟩ := f1; rw [z, hl] at e; cases e
    refine ⟨a, l, _, rfl, by decide, by decide, f1.keep (newB hl), fun z => nal z.symm, upd_same, fun H2 vs b2 f2 hvs => ?_⟩
    obtain ⟨step, rfl, hstep⟩ : ∃ step : Nat, vs = .int (step : Nat) ∧ step ∈ [1, 3, 5, 7, 9, 11] := by
      simp only [List.mem_cons, List.not_mem_nil, or_false] at hvs
      rcases hvs with rfl | rfl | rfl | rfl | rfl | rfl
      · exact ⟨1, rfl, by simp⟩
      · exact ⟨3, rfl, by simp⟩
      · exact ⟨5, rfl, by simp⟩
      · exact ⟨7, rfl, by simp⟩
      · exact ⟨9, rfl, by simp⟩
      · exact ⟨11, rfl, by simp⟩
    refine ⟨_, rfl, _, rfl, a, 26, rfl, by decide, by decide, f2, fun H3 r3 b3 f3 h3 => ?_⟩
    refine ⟨S azT, r3, _, rfl, rfl, szl (by decide), atI_nat (az_at r3 h3), szl (by simp), fun p hp => ?_⟩
    refine ⟨p, _, rfl, SqT.of upd_same, rfl, _, _, rfl, _, _, rfl, _, _, rfl, rfl, ?_⟩
    have f4 : FeedR (upd H3 p (.tup [.int (first : Nat), .int (step : Nat), sv [97 + r3]])) a := f3.keep (newB hp)
    refine ⟨_, rfl, a, 4, rfl, by decide, by decide, f4, fun H5 ah b5 f5 h5 => ?_⟩
    refine ⟨_, rfl, a, 5, rfl, by decide, by decide, f5, fun H6 bh b6 f6 h6 => ?_⟩
    refine ⟨szl (by simp), fun p2 hp2 => ?_⟩
    refine ⟨p2, _, rfl, SqT.of upd_same, rfl, _, _, rfl, _, _, rfl, rfl, ?_⟩
    have f7 : FeedR (upd H6 p2 (.tup [.int (ah : Nat), .int (bh : Nat)])) a := f6.keep (newB hp2)
    have b7 : But [a] H (upd H6 p2 (.tup [.int (ah : Nat), .int (bh : Nat)])) := ((((((b1.new hl).trans b2).trans b3).new hp).trans b5).trans b6).new hp2
    generalize upd H6 p2 (.tup [.int (ah : Nat), .int (bh : Nat)]) = H7 at f7 b7 ⊢
    have h26 : step ≤ 11 := by
      simp only [List.mem_cons, List.not_mem_nil, or_false] at hstep
      omega
    dsimp only
    refine (show tSeq (tAsg _ _) _ _ _ H7 from ?_)
    have e97 : (V.str { cps := #[97 + r3] } : V) = sv [97 + r3] := rfl
    rw [e97]
    refine sq_mk (i := 8) (MkL.lcR (K := K) (σ := [some (.ref a), some (.int (10 : Nat)), some (sv azT), some (.int (first : Nat)), some (.int (step : Nat)), some (sv [97 + r3]), some (.int (ah : Nat)), some (.int (bh : Nat)), none, none, none, none]) (i := 10) (n := 10) (m := 1) (f := fun k => [sgn first step k]) (fun H' Q q => ⟨_, rfl, q⟩) (by decide) (fun k hk => ⟨by simp, fun H' Q q => ?_⟩) (fun _ => rfl)) fun H8 l8 b8 n8 e8 => ?_
    · have ez : ((first : Nat) + (step : Nat) * (0 + (k : Int))) % 26 = (((first + step * k) % 26 : Nat) : Int) := by
        rw [Int.zero_add, ← Int.natCast_mul, ← Int.natCast_add]; rfl
      have ea : atI azT (((first : Nat) + (step : Nat) * (0 + (k : Int))) % 26) = some (sgn first step k) := by
        rw [ez]
        exact atI_nat (az_at _ (Nat.mod_lt _ (by decide)))
      refine ⟨_, rfl, _, rfl, _, rfl, _, rfl, _, _, rfl, rfl, .inr (by constructor <;> omega), _, _, rfl, rfl, _, _, rfl, rfl, (by show (0 : Int) < 26; decide), ?_⟩
      exact ⟨S azT, _, _, rfl, rfl, szl (by decide), ea, q⟩
    · refine ⟨_, rfl, _, _, rfl, rfl, true, rfl, iteT ⟨_, _, rfl, rfl, false, rfl, iteF (iteF ?_)⟩⟩
      have rp : ∀ (n : Nat) (m : Nat), n ≤ 4 → n ≤ m → (repT n [97 + r3]).length ≤ m := fun n m h h2 => by rw [repT_len]; simp; omega
      refine (MkL.lc (K := K) (σ := [some (.ref a), some (.int (10 : Nat)), some (sv azT), some (.int (first : Nat)), some (.int (step : Nat)), some (sv [97 + r3]), some (.int (ah : Nat)), some (.int (bh : Nat)), some (.ref l8), none, none, none]) (i := 11) (xs := (List.range 10).map fun k => [sgn first step k]) (f := fun x => repT ah [97 + r3] ++ x ++ repT bh [97 + r3]) (n := 3 + 1 + 4) (GvL.var (i := 8) rfl e8) (fun x hx => ?_) (fun _ => rfl) (by simp)) _ fun H9 b b9 n9 e9 => ?_
      · have hx1 : x.length ≤ 1 := by
          obtain ⟨q, _, rfl⟩ := List.mem_map.mp hx
          simp
        exact Pt.add (Pt.add (l := repT ah [97 + r3]) ⟨rp ah 3 (by omega) (by omega), fun H' Q q => ⟨_, rfl, _, rfl, [97 + r3], ah, rfl, rfl, by omega, by simp, by simp, q⟩⟩ (Pt.var (i := 11) rfl hx1)) (l := repT ah [97 + r3] ++ x) ⟨rp bh 4 (by omega) (by omega), fun H' Q q => ⟨_, rfl, _, rfl, [97 + r3], bh, rfl, rfl, by omega, by simp, by simp, q⟩⟩
      · have er : ∀ n c, repT n [c] = List.replicate n c := fun n c => by
          unfold repT
          induction n with
          | zero => rfl
          | succ n ih => rw [List.replicate_succ, List.flatten_cons, ih]; rfl
        rw [er, er, List.map_map] at e9
        have b79 := (But.of b8 : But [a] H7 H8).trans (But.of b9)
        refine k H9 b first step ah bh (97 + r3) (b7.trans b79) ((f7.keep b8).keep b9) ?_ hstep (by omega) (by omega) (by omega) e9
        have n7 : H7 b = none := b8.free n9 (by simp)
        exact b7.free n7 (not1 fun z => by obtain ⟨d, s, e⟩ := f7; rw [z, e] at n7; cases n7)
def sp_wordsD : Sp := fun vs H Q _ => ∃ a, vs = [.ref a, .int (10 : Nat)] ∧ FeedR H a ∧ ∀ H' b ws, But [a] H H' → FeedR H' a → H b = none → H' b = some (.lst (svs ws)) → Names10 ws → Q (.ref b) H'
theorem ok_wordsD (F : Fun K "_law_words" "_law_words" s__law_words f fd) (T : LTx K mg CR CT CS CI) (c__law_take : Cal P w K mg base 1 "_law_take" sp_take) (c__law_names : Cal P w K mg base 3 "_law_names" sp_names) : FnOk P w K mg base (L2.CX P w) 4 f fd ["feed", "size"] sp_wordsD := by
  refine F.okX sc__law_words (fun vs H Q E h => ?_) (fun cdv A outer s H vs Q E hr h => ?_)
  · obtain ⟨a, rfl, _⟩ := h
    rfl
  · obtain ⟨a, rfl, hf, k⟩ := h
    refine ⟨_, (pss_one (ps_ret (pe_lc (own := [("name", 2)]) (g := gName 2) (tt := tYes) (by rfl) sc__law_words.nd (pi_listK K rfl (pe_lc (own := [("one", 3)]) (g := gName 3) (tt := tYes) (by rfl) sc__law_words.nd (pi_listK K rfl (p_call E c__law_names hr (by decide) (by rfl) (passX rfl rfl rfl (takes_of rfl rfl rfl rfl)) (pa_cons (pv 0) (pa_cons (pv 1) pa_nil)))) (blkOk_by (own := [("one", 3)]) (N := ["feed", "size", "name", "one"]) (sc := (defScope s__law_words)) (by decide +kernel)) (fun _ _ _ _ _ => (pg_name (i := 3) sc__law_words.nd rfl (Or.inl rfl))) (fun _ _ _ _ _ => pts_nil) (fun _ _ _ _ _ => (pe_slice sl_str (pv 3) po_none (po_some pe_int))))) (blkOk_by (own := [("name", 2)]) (N := ["feed", "size", "name", "one"]) (sc := (defScope s__law_words)) (by decide +kernel)) (fun _ _ _ _ _ => (pg_name (i := 2) sc__law_words.nd rfl (Or.inl rfl))) (fun _ _ _ _ _ => pts_nil) (fun _ _ _ _ _ => (pe_op op_add_str (pv 2) (pe_slice sl_str (pv 2) po_none (po_some (p_call E0 c__law_take hr (by decide) (by rfl) passL (pa_cons (pv 0) (pa_cons pe_int pa_nil)))))))))), ?_⟩
    refine ⟨_, rfl, _, rfl, a, rfl, hf, fun H1 b first step ah bh fl b1 f1 n1 hst ha hb hfl e1 => ⟨b, rfl, ⟨_, SqL.of e1⟩, fun D0 hD0 => ?_⟩⟩
    have nml : ∀ x ∈ (List.range 10).map (fun k => nameL ah bh fl (sgn first step k)), x.length ≤ 8 := fun x hx => by
      obtain ⟨q, _, rfl⟩ := List.mem_map.mp hx
      rw [nameL_len]; omega
    have n10 : ((List.range 10).map fun k => nameL ah bh fl (sgn first step k)).length = 10 := by simp
    generalize hnm : ((List.range 10).map fun k => nameL ah bh fl (sgn first step k)) = nm at e1 nml n10
    refine turns (walk_list (K := K) (a := b) (xs := svs nm)) (fun i H' => But [] H1 H' ∧ H' D0 = some (.lst (svs ((nm.take i).map fun x => x.take 7)))) ⟨newB hD0, upd_same⟩ (fun i H' _ e => SqL.of (e.1.at e1)) (fun i x H2 H2' hi ⟨b2, e2⟩ y => ?_) (fun H2 ⟨b2, e2⟩ => ?_)
    · obtain ⟨rfl, hx⟩ := y
      obtain ⟨x, hx2, rfl⟩ := svs_get hx
      have hl := nml x (List.mem_of_getElem? hx2)
      have hi2 : i < 10 := by rw [svs_len] at hi; omega
      refine ⟨rfl, _, rfl, _, rfl, S x, rfl, szl (by rw [S_len]; omega), ?_⟩
      rw [show ((7 : Int)) = ((7 : Nat) : Int) from rfl, cut_to]
      refine ⟨_, e2, szt (by rw [svs_len, List.length_map, List.length_take]; omega), b2.put0 hD0, ?_⟩
      have st : nm.take (i + 1) = nm.take i ++ [x] := by rw [List.take_add_one, hx2]; rfl
      rw [upd_same, st, List.map_append, svs_app]; rfl
    · have n2 := hD0
      rw [svs_len, List.take_length] at e2
      subst hnm
      rw [List.map_map] at e2
      refine ⟨D0, rfl, ⟨_, SqL.of e2⟩, fun D1 hD1 => ?_⟩
      have f2 := f1.keep b2
      have nD : D0 ≠ a := fun z => by obtain ⟨d, s, e⟩ := f1; rw [z, e] at n2; cases n2
      refine turns (walk_list (K := K) (a := D0) (xs := svs ((List.range 10).map ((fun x => x.take 7) ∘ fun k => nameL ah bh fl (sgn first step k))))) (fun i H' => ∃ g : Nat → Nat, (∀ k, g k ≤ 1) ∧ But [a] H2 H' ∧ FeedR H' a ∧ H' D1 = some (.lst (svs ((List.range i).map fun k => wrdL ah bh fl (sgn first step k) (g k))))) ⟨fun _ => 0, fun _ => Nat.zero_le _, But.refl.new hD1, f2.keep (newB hD1), upd_same⟩ (fun i H' _ ⟨_, _, b3, _⟩ => SqL.of (b3.at1 e2 nD)) (fun i x H3 H3' hi ⟨g, hg, b3, f3, e3⟩ y => ?_) (fun H3 ⟨g, hg, b3, f3, e3⟩ => ?_)
      · obtain ⟨rfl, hx⟩ := y
        obtain ⟨x, hx2, rfl⟩ := svs_get hx
        rw [List.getElem?_map, Option.map_eq_some_iff] at hx2
        obtain ⟨i', hi1, rfl⟩ := hx2
        have hi' : i' = i := by
          rw [List.getElem?_range (by simpa [svs_len] using hi)] at hi1
          exact (Option.some.inj hi1).symm
        subst hi'
        refine ⟨rfl, _, rfl, _, rfl, _, rfl, a, 2, rfl, by decide, by decide, f3, fun H4 r b4 f4 hr => ⟨_, rfl, _, rfl, szl (by rw [S_len]; simp; omega), ?_⟩⟩
        rw [cut_to]
        refine ⟨_, _, rfl, rfl, szl (by rw [S_len, S_len]; simp; omega), ?_⟩
        have nD1 : D1 ≠ a := fun z => by obtain ⟨d, s, e⟩ := f2; rw [z, e] at hD1; cases hD1
        have f5 : FeedR (upd H4 D1 (.lst (svs ((List.range i').map fun k => wrdL ah bh fl (sgn first step k) (g k)) ++ [V.str (S ((nameL ah bh fl (sgn first step i')).take 7) ++ S (((nameL ah bh fl (sgn first step i')).take 7).take r))]))) a := by
          obtain ⟨d, s, e⟩ := f4
          exact ⟨d, s, by rw [upd_ne nD1.symm]; exact e⟩
        refine ⟨_, b4.at1 e3 nD1, szt (by rw [svs_len, List.length_map, List.length_range]; rw [svs_len, List.length_map, List.length_range] at hi; omega), fun k => if k = i' then r else g k, fun k => ?_, (b3.trans b4).put0 hD1, f5, ?_⟩
        · show (if k = i' then r else g k) ≤ 1
          split
          · omega
          · exact hg k
        · rw [upd_same, List.range_succ, List.map_append, svs_app]
          have e7 : (List.range i').map (fun k => wrdL ah bh fl (sgn first step k) (if k = i' then r else g k)) = (List.range i').map fun k => wrdL ah bh fl (sgn first step k) (g k) := List.map_congr_left fun k hk => by
            rw [if_neg (Nat.ne_of_lt (List.mem_range.mp hk))]
          have e8 : (fun k => if k = i' then r else g k) i' = r := if_pos rfl
          rw [e7, List.map_singleton, e8, S_app]; rfl
      · have b02 : But [a] H H2 := b1.trans (But.of b2)
        refine k H3 D1 _ (b02.trans b3) f3 ?_ e3 (names10 hst ha hfl hg)
        have n3 : H2 D1 = none := hD1
        exact b02.free n3 (not1 fun z => by obtain ⟨d, s, e⟩ := f2; rw [z, e] at n3; cases n3)
end
end Cn
set_option Elab.async false
set_option linter.all false
set_option maxRecDepth 100000
set_option maxHeartbeats 4000000
/-! a drawn reference -/
namespace Cn
open PySem L2
theorem dpAll_svs {K : PySem.W.Frag} {H : Hp} : ∀ ls : List Cn.T, DpAll K H (svs ls) (ls.map fun l => .str (S l))
  | [] => .nil
  | a :: r => .cons (.str _) (dpAll_svs r)
theorem name_cps {w : Cn.T} (h : isName w = true) : PyData.strOk (S w) = true := by
  unfold isName at h
  simp only [Bool.and_eq_true, decide_eq_true_eq, List.all_eq_true] at h
  unfold PyData.strOk S
  simp only [List.all_toArray, List.all_eq_true, decide_eq_true_eq]
  intro c hc
  have := h.2.2 c hc
  omega
theorem lay_strs : ∀ xs : List Cn.T, (∀ w ∈ xs, isName w = true) → PyData.canLayAll0 (xs.map fun l => PyData.str (S l)) = true ∧ PyData.depthAll (xs.map fun l => PyData.str (S l)) ≤ 1
  | [], _ => ⟨by simp [PyData.canLayAll0], by simp [PyData.depthAll]⟩
  | a :: r, hn => by
    obtain ⟨h1, h2⟩ := lay_strs r fun w hw => hn w (List.mem_cons_of_mem _ hw)
    have h0 := name_cps (hn a List.mem_cons_self)
    rw [List.map_cons]
    refine ⟨by simp [PyData.canLayAll0, PyData.canLay0, h1, h0], ?_⟩
    simp only [PyData.depthAll, PyData.depth]
    omega
theorem shaped_strs (ls : List Cn.T) (hn : ∀ w ∈ ls, isName w = true) : SeqAt.shaped (.list (ls.map fun l => PyData.str (S l))) = true := by
  obtain ⟨h1, h2⟩ := lay_strs ls hn
  unfold SeqAt.shaped
  simp only [PyData.canLay0, PyData.depth, h1, Bool.true_and]
  exact decide_eq_true (by omega)
theorem fixL {x : Addr} {xs : List V} {H H' : Hp} (b : But [x] H H') (e : H x = some (.lst xs)) : Fix 0 H H' := b.fix fun a z o e' i => by
  rw [List.mem_singleton.mp z, e] at e'
  cases e'
  exact i
theorem fixO {H H' : Hp} (b : But [] H H') : Fix 0 H H' := b.fix0
theorem dpAll_keys {K : PySem.W.Frag} {H : Hp} : ∀ {vk : List V} {ks : List (List Cn.T)}, Each (KeyR H) vk ks → DpAll K H vk (ks.map fun k => .tuple (k.map fun l => .str (S l)))
  | [], [], _ => .nil
  | [], _ :: _, h => by have := h.1; simp at this
  | _ :: _, [], h => by have := h.1; simp at this
  | v :: vk, k :: ks, h => by
    obtain ⟨a, rfl, e⟩ := h.2 0 v k rfl rfl
    have ht : Each (KeyR H) vk ks := ⟨by have := h.1; simpa using this, fun i x y p q => h.2 (i + 1) x y (by simpa using p) (by simpa using q)⟩
    exact .cons (.tup (SqT.of e) (dpAll_svs k)) (dpAll_keys ht)
theorem lay_keys : ∀ ks : List (List Cn.T), (∀ k ∈ ks, ∀ w ∈ k, isName w = true) → PyData.canLayAll0 (ks.map fun k => PyData.tuple (k.map fun l => .str (S l))) = true ∧ PyData.depthAll (ks.map fun k => PyData.tuple (k.map fun l => .str (S l))) ≤ 2
  | [], _ => ⟨by simp [PyData.canLayAll0], by simp [PyData.depthAll]⟩
  | k :: r, hn => by
    obtain ⟨h1, h2⟩ := lay_keys r fun w hw => hn w (List.mem_cons_of_mem _ hw)
    obtain ⟨g1, g2⟩ := lay_strs k (hn k List.mem_cons_self)
    rw [List.map_cons]
    refine ⟨by simp [PyData.canLayAll0, PyData.canLay0, h1, g1], ?_⟩
    simp only [PyData.depthAll, PyData.depth]
    omega
theorem shaped_keys (ks : List (List Cn.T)) (hn : ∀ k ∈ ks, ∀ w ∈ k, isName w = true) : SeqAt.shaped (.list (ks.map fun k => PyData.tuple (k.map fun l => .str (S l)))) = true := by
  obtain ⟨h1, h2⟩ := lay_keys ks hn
  unfold SeqAt.shaped
  simp only [PyData.canLay0, PyData.depth, h1, Bool.true_and]
  exact decide_eq_true (by omega)
theorem blkOk_in {N M : List PySem.Str} {sc rc scope : Scope} {own : List (PySem.Str × Nat)} (h1 : M = N) (h2 : rc = sc) (h : blkC N sc scope own = true) : BlkOk M rc scope own := by
  subst h1; subst h2
  exact blkOk_by h
theorem KeyR.upd {H : Hp} {D : Addr} {xs : List V} {o : HO} (h : H D = some (.lst xs)) {v : V} {k : List Cn.T} (r : KeyR H v k) : KeyR (upd H D o) v k := by
  obtain ⟨a, e, z⟩ := r
  exact ⟨a, e, by rw [upd_ne fun q => by rw [q, h] at z; cases z]; exact z⟩
theorem none_of_any {α : Type} (p : α → Bool) : ∀ l : List α, (l.filter p).isEmpty = !l.any p
  | [] => rfl
  | x :: l => by
    rw [List.filter_cons, List.any_cons]
    cases e : p x with
    | true => rfl
    | false => rw [if_neg Bool.false_ne_true, none_of_any p l]; rfl
theorem nd_sub {l D : List Cn.T} (h : l.Nodup) (hs : ∀ x ∈ l, x ∈ D) : l.length ≤ D.length := nd_len l D h hs
theorem cut_from (ls : List Cn.T) (k : Nat) : cutV (svs ls) (some ((k : Nat) : Int)) none = svs (ls.drop k) := by
  unfold cutV
  rw [HT.sIx_nat, HT.sIx_none, svs_len]
  unfold svs
  by_cases h : k ≤ ls.length
  · rw [Nat.min_eq_left h, List.take_of_length_le (by rw [List.length_drop, List.length_map]; omega), ← List.map_drop]
  · rw [Nat.min_eq_right (by omega), List.drop_of_length_le (by rw [List.length_map]; omega), List.drop_of_length_le (by omega)]; simp
theorem cut_upto (ls : List Cn.T) (k : Nat) : cutV (svs ls) none (some ((k : Nat) : Int)) = svs (ls.take k) := by
  unfold cutV
  rw [HT.sIx_nat, HT.sIx_none, svs_len, List.drop_zero, Nat.sub_zero]
  unfold svs
  by_cases h : k ≤ ls.length
  · rw [Nat.min_eq_left h, ← List.map_take]
  · rw [Nat.min_eq_right (by omega), List.take_of_length_le (by rw [List.length_map]; omega), List.take_of_length_le (by omega)]
theorem each_consK {α : Type} {R : V → α → Prop} {x : V} {y : α} {xs : List V} {ys : List α} (h : R x y) (hs : Each R xs ys) : Each R (x :: xs) (y :: ys) := by
  refine ⟨by rw [List.length_cons, List.length_cons, hs.1], fun i v z a b => ?_⟩
  cases i with
  | zero => cases a; cases b; exact h
  | succ i => exact hs.2 i v z a b
theorem rot_nodup {α : Type} {l : List α} (h : l.Nodup) (n : Nat) : (l.drop n ++ l.take n).Nodup := by
  have p : (l.drop n ++ l.take n).Perm l := List.perm_append_comm.trans (by rw [List.take_append_drop])
  exact p.nodup_iff.mpr h
theorem rot_mem {α : Type} {l : List α} {n : Nat} {x : α} (h : x ∈ l.drop n ++ l.take n) : x ∈ l := by
  rcases List.mem_append.mp h with z | z
  · exact List.mem_of_mem_drop z
  · exact List.mem_of_mem_take z
section
variable {P : Program} {w : World} {K : PySem.W.Frag} {mg : Str → Option Value} {base : Heap} {CR CT CS CI : Addr} {f : Addr} {fd : FuncData}
theorem sc__law_refer : FnScope ["feed", "name", "keys", "other", "free", "needed", "outside", "some", "at", "column", "key"] ["feed", "name", "keys", "other", "free"] (defScope s__law_refer) := ⟨rfl, rfl, rfl, by decide +kernel, rfl, by decide +kernel, by decide +kernel⟩
/-- columns of no key -/
def outC (keys : List (List Cn.T)) (free : List Cn.T) : List Cn.T := free.filter fun c => !keys.any fun k => k.contains c
def sp_refer : Sp := fun vs H Q _ => ∃ (a u o fr : Addr) (nm tg : Cn.T) (n : Nat) (vk : List V) (keys : List (List Cn.T)) (free : List Cn.T), vs = [.ref a, sv nm, .ref u, .ref o, .ref fr] ∧ FeedR H a ∧ H u = some (.lst vk) ∧ Each (KeyR H) vk keys ∧ H o = some (.tup [sv tg, .int (n : Nat)]) ∧ H fr = some (.lst (svs free)) ∧
  keys.length ≤ 3 ∧ free.length ≤ 5 ∧ free.Nodup ∧ n ≤ 5 ∧ (∀ k ∈ keys, ∀ c ∈ k, isName c = true) ∧ (∀ k ∈ keys, k.length ≤ 3) ∧ (∀ c ∈ free, isName c = true) ∧ u ≠ a ∧ fr ≠ a ∧
  ∀ H' r vr rs, But [a] H H' → FeedR H' a → H r = none → H' r = some (.lst vr) → Each (RefR H') vr rs → (rs = [] ∨ ∃ part req, rs = [(part, tg, req)] ∧ part.length = n ∧ part.Nodup ∧ (∀ c ∈ part, c ∈ free) ∧ (req = true → tg ≠ nm) ∧ (req = false → ∀ c ∈ part, ∀ k ∈ keys, c ∉ k)) → Q (.ref r) H'
theorem ok_refer (F : Fun K "_law_refer" "_law_refer" s__law_refer f fd) (T : LTx K mg CR CT CS CI) (c__law_take : Cal P w K mg base 1 "_law_take" sp_take) : FnOk P w K mg base (L2.CX P w) 2 f fd ["feed", "name", "keys", "other", "free"] sp_refer := by
  refine F.okX sc__law_refer (fun vs H Q E h => ?_) (fun cdv A outer s H vs Q E hr h => ?_)
  · obtain ⟨a, u, o, fr, nm, _, _, _, _, _, rfl, _⟩ := h
    rfl
  · obtain ⟨a, u, o, fr, nm, tg, n, vk, keys, free, rfl, hf, hu, hk, ho, hfr, k3, f5, fnd, n5, kn, kl, fn, nua, nfa, k⟩ := h
    refine ⟨_, (pss_cons (ps_set (i := 5) sc__law_refer.nd rfl (Or.inl rfl) (pe_and (pe_cmpR op_ne (pe_ix (ix_tupK K rfl) (pv 3) pe_int (fun _ _ => rfl)) (pv 1) (nomark _)) (pe_one (pe_cmpR op_eq (p_call E c__law_take hr (by decide) (by rfl) (passX rfl rfl rfl (takes_of rfl rfl rfl rfl)) (pa_cons (pv 0) (pa_cons pe_int pa_nil))) pe_int (nomark _)))))
  (pss_cons (ps_setLc (i := 6) (own := [("column", 9)]) (g := gName 9) (by rfl) sc__law_refer.nd rfl rfl (sw_true rfl rfl rfl (by decide +kernel)) (pi_listK K rfl (pv 4)) (blkOk_by (own := [("column", 9)]) (N := ["feed", "name", "keys", "other", "free", "needed", "outside", "some", "at", "column", "key"]) (sc := (defScope s__law_refer)) (by decide +kernel)) (fun _ _ _ _ _ => (pg_name (i := 9) sc__law_refer.nd rfl (Or.inr rfl))) (fun _ _ _ _ _ => (pts_one (pt_cmpR (op_eqDK K rfl hr.units) (pe_lc (own := [("key", 10)]) (g := gName 10) (by rfl) sc__law_refer.nd (pi_listK K rfl (pv 2)) (blkOk_in (own := [("key", 10)]) (N := ["feed", "name", "keys", "other", "free", "needed", "outside", "some", "at", "column", "key"]) (sc := { kind := .function, names := [(".0", .local), ("column", .cell), ("keys", .cell)], isGenerator := false, isCoroutine := false }) (by rfl) (by rfl) (by decide +kernel)) (fun _ _ _ _ _ => (pg_name (i := 10) sc__law_refer.nd rfl (Or.inl rfl))) (fun _ _ _ _ _ => (pts_one (pt_cmpR (op_in_seqK K rfl) (pv 9) (pv 10) (by rfl)))) (fun _ _ _ _ _ => (pv 10))) (pe_lst pa_nil) (nomark _)))) (fun _ _ _ _ _ => (pv 9)))
  (pss_cons (ps_set (i := 7) sc__law_refer.nd rfl (Or.inl rfl) (pe_ifExp (pt_val (pv 5)) (pv 4) (pv 6)))
  (pss_cons (ps_set (i := 8) sc__law_refer.nd rfl (Or.inl rfl) (p_call E c__law_take hr (by decide) (by rfl) (passX rfl rfl rfl (takes_of rfl rfl rfl rfl)) (pa_cons (pv 0) (pa_cons (pe_op op_add (pe_callB (call_len_seqK K rfl) (by rfl) T.b_len (by decide +kernel) (pa_cons (pv 7) pa_nil)) pe_int) pa_nil))))
  (pss_cons (ps_set (i := 7) sc__law_refer.nd rfl (Or.inl rfl) (pe_op op_cat (pe_slice (sl_listK K rfl) (pv 7) (po_some (pv 8)) po_none) (pe_slice (sl_listK K rfl) (pv 7) po_none (po_some (pv 8)))))
  (pss_cons (ps_if (pt_cmpR op_lt (pe_callB (call_len_seqK K rfl) (by rfl) T.b_len (by decide +kernel) (pa_cons (pv 7) pa_nil)) (pe_ix (ix_tupK K rfl) (pv 3) pe_int (fun _ _ => rfl)) (nomark _))
  (pss_one (ps_ret (pe_lst pa_nil)))
  pss_nil)
  (pss_one (ps_ret (pe_lst (pa_cons (pe_tup (pa_cons (pe_callTy (call_tuple_ofK K rfl) (by rfl) T.b_tuple (by decide +kernel) (pa_cons (pe_slice (sl_listK K rfl) (pv 7) po_none (po_some (pe_ix (ix_tupK K rfl) (pv 3) pe_int (fun _ _ => rfl)))) pa_nil)) (pa_cons (pe_ix (ix_tupK K rfl) (pv 3) pe_int (fun _ _ => rfl)) (pa_cons (pv 5) pa_nil)))) pa_nil)))))))))), ?_⟩
    have b0 : But [] H H := But.refl
    obtain ⟨d0, s0, ha⟩ := id hf
    have noa : o ≠ a := ne_of ho ha (by intro z; cases z)
    have first : ∀ (Q' : VK), (∀ H' req, But [a] H H' → FeedR H' a → (req = true → tg ≠ nm) → Q' (.bl req) H') → tAndV (tOp rNe (tOp (rIxT K) (tVar 3) (tC (V.int 0))) (tVar 1)) (tOp rEq (tCall sp_take [] E (tCons (tVar 0) (tCons (tC (V.int 2)) tNil))) (tC (V.int 0)))
        (L2.start ["feed", "name", "keys", "other", "free", "needed", "outside", "some", "at", "column", "key"] [V.ref a, sv nm, V.ref u, V.ref o, V.ref fr]) H Q' := fun Q' q => by
      refine ⟨_, rfl, o, _, 0, _, rfl, rfl, SqT.of ho, rfl, _, rfl, rfl, !decide (sv tg = sv nm), rfl, ?_⟩
      by_cases e : tg = nm
      · subst e
        rw [decide_eq_true rfl, if_neg (by decide)]
        exact q H false (But.of But.refl) hf (fun z => nomatch z)
      · have e2 : decide (sv tg = sv nm) = false := by rw [sv_eq]; exact beq_eq_false_iff_ne.mpr e
        rw [e2, if_pos (by rfl)]
        exact ⟨_, rfl, a, 2, rfl, by decide, by decide, hf, fun H1 r b1 f1 _ => ⟨rfl, q H1 _ b1 f1 fun _ => e⟩⟩
    refine first _ fun H1 req b1 f1 hreq => ?_
    have eu1 := b1.at1 hu nua
    have ef1 := b1.at1 hfr nfa
    have eo1 := b1.at1 ho noa
    have hk1 : Each (KeyR H1) vk keys := hk.mono fun _ _ z => z.fix (fixL b1 ha)
    refine ⟨_, rfl, fr, rfl, ⟨_, SqL.of ef1⟩, fun D hD => ?_⟩
    refine turns (walk_list (K := K) (a := fr) (xs := svs free)) (fun i H' => But [] H1 H' ∧ H' D = some (.lst (svs (outC keys (free.take i))))) ⟨newB hD, by rw [upd_same]; rfl⟩ (fun i H' _ e => SqL.of (e.1.at ef1)) (fun i x H2 H2' hi ⟨b2, e2⟩ y => ?_) (fun H2 ⟨b2, e2⟩ => ?_)
    · obtain ⟨rfl, hx⟩ := y
      obtain ⟨c, hc, rfl⟩ := svs_get hx
      refine ⟨rfl, _, rfl, u, rfl, ⟨_, SqL.of (b2.at eu1)⟩, fun D2 hD2 => ?_⟩
      have hk2 : Each (KeyR H2') vk keys := hk1.mono fun _ _ z => z.fix (fixO b2)
      have eu2 := b2.at eu1
      refine turns (walk_list (K := K) (a := u) (xs := vk)) (fun j H' => But [] H2' H' ∧ ∃ vs, H' D2 = some (.lst vs) ∧ Each (KeyR H') vs ((keys.take j).filter fun k => k.contains c)) ⟨newB hD2, [], upd_same, Each.nil⟩ (fun j H' _ e => SqL.of (e.1.at eu2)) (fun j x H3 H3' hj ⟨b3, vs, e3, hv3⟩ y => ?_) (fun H3 ⟨b3, vs, e3, hv3⟩ => ?_)
      · obtain ⟨rfl, hx3⟩ := y
        obtain ⟨key, hkey, ka, rfl, eka⟩ := hk2.at hx3
        have st : keys.take (j + 1) = keys.take j ++ [key] := by rw [List.take_add_one, hkey]; rfl
        refine ⟨rfl, _, rfl, _, rfl, ka, _, rfl, .inr (SqT.of (b3.at eka)), rfl, flat_svs _, ?_⟩
        rw [if_neg (by decide), inV_svs]
        refine ⟨key.contains c, rfl, ?_⟩
        have sf : (keys.take (j + 1)).filter (fun k => k.contains c) = (keys.take j).filter (fun k => k.contains c) ++ if key.contains c = true then [key] else [] := by
          rw [st, List.filter_append, List.filter_cons]; rfl
        have lv : vs.length ≤ j := by
          rw [hv3.1]
          exact Nat.le_trans (List.length_filter_le _ _) (by rw [List.length_take]; omega)
        have jl : j < 3 := by have := (List.getElem?_eq_some_iff.mp hkey).1; omega
        cases hcc : key.contains c with
        | true =>
          dsimp only
          rw [if_pos rfl]
          refine ⟨_, rfl, _, e3, szt (by omega), b3.put0 hD2, _, upd_same, ?_⟩
          rw [sf, hcc, if_pos rfl]
          exact (hv3.mono fun _ _ z => z.upd e3).snoc (KeyR.upd e3 ⟨ka, rfl, b3.at eka⟩)
        | false =>
          dsimp only
          rw [if_neg Bool.false_ne_true]
          refine ⟨b3, vs, e3, ?_⟩
          rw [sf, hcc, if_neg Bool.false_ne_true, List.append_nil]
          exact hv3
      · have lk : vk.length = keys.length := hk.1
        rw [lk, List.take_length] at hv3
        refine ⟨szl (by simp), fun p hp => ?_⟩
        have bp : But [] H3 (upd H3 p (.lst [])) := newB hp
        have b23 : But [] H2' (upd H3 p (.lst [])) := b3.trans bp
        have kn2 : ∀ k ∈ keys.filter (fun k => k.contains c), ∀ w ∈ k, isName w = true := fun k hk => kn k (List.mem_filter.mp hk).1
        refine ⟨_, .list [], .lst (SqL.of (bp.at e3)) (dpAll_keys (hv3.mono fun _ _ z => z.fix (fixO bp))), .lst (SqL.of upd_same) .nil, shaped_keys _ kn2, rfl, _, rfl, ?_⟩
        have ee : PyData.eqv (.list ((keys.filter fun k => k.contains c).map fun k => PyData.tuple (k.map fun l => .str (S l)))) (.list []) = !keys.any fun k => k.contains c := by
          rw [← none_of_any]
          cases keys.filter fun k => k.contains c with
          | nil => rfl
          | cons _ _ => rfl
        rw [ee]
        have sf : outC keys (free.take (i + 1)) = outC keys (free.take i) ++ if (!keys.any fun k => k.contains c) = true then [c] else [] := by
          have st : free.take (i + 1) = free.take i ++ [c] := by rw [List.take_add_one, hc]; rfl
          unfold outC
          rw [st, List.filter_append, List.filter_cons]; rfl
        have e4 := b23.at e2
        generalize upd H3 p (.lst []) = H4 at b23 e4 ⊢
        have lo : (svs (outC keys (free.take i))).length ≤ 5 := by
          rw [svs_len]
          exact Nat.le_trans (List.length_filter_le _ _) (by rw [List.length_take]; omega)
        cases hcc : (!keys.any fun k => k.contains c) with
        | true =>
          dsimp only
          rw [if_pos rfl]
          refine ⟨_, rfl, _, e4, szt (by omega), (b2.trans b23).put0 hD, ?_⟩
          rw [upd_same, sf, hcc, if_pos rfl, svs_app]; rfl
        | false =>
          dsimp only
          rw [if_neg Bool.false_ne_true]
          refine ⟨b2.trans b23, ?_⟩
          rw [e4, sf, hcc, if_neg Bool.false_ne_true, List.append_nil]
    · rw [svs_len, List.take_length] at e2
      have b02 : But [a] H H2 := b1.trans (But.of b2)
      have f2 := f1.keep b2
      have nDa : D ≠ a := fun z => by obtain ⟨d, s, e⟩ := f1; rw [z, e] at hD; cases hD
      have pick : ∀ Q' : VK, (∀ sm ss, H2 sm = some (.lst (svs ss)) → ss.Nodup → (∀ c ∈ ss, c ∈ free) → (req = false → ∀ c ∈ ss, ∀ k ∈ keys, c ∉ k) → sm ≠ a → Q' (.ref sm) H2) →
          tIf (tB (tVar 5)) (tVar 4) (tVar 6) [some (.ref a), some (sv nm), some (.ref u), some (.ref o), some (.ref fr), some (.bl req), some (.ref D), none, none, none, none] H2 Q' := fun Q' q => by
        refine ⟨_, rfl, req, rfl, ?_⟩
        cases hreq2 : req with
        | true => exact iteT ⟨_, rfl, q fr free (b2.at ef1) fnd (fun _ h => h) (fun z => by rw [hreq2] at z; cases z) nfa⟩
        | false =>
          refine iteF ⟨_, rfl, q D (outC keys free) e2 (fnd.sublist List.filter_sublist) (fun c h => (List.mem_filter.mp h).1) (fun _ c h k hk hc => ?_) nDa⟩
          have := (List.mem_filter.mp h).2
          rw [Bool.not_eq_true', List.any_eq_false] at this
          exact this k hk (List.contains_iff_mem.mpr hc)
      refine pick _ fun sm ss esm snd sfree skeys nsa => ?_
      have s5 : ss.length ≤ 5 := Nat.le_trans (nd_sub snd sfree) f5
      refine ⟨_, rfl, _, rfl, sm, _, rfl, .inl (SqL.of esm), _, _, rfl, rfl, a, ss.length + 1, by rw [svs_len]; rfl, by omega, by omega, f2, fun H3 at_ b3 f3 hat => ?_⟩
      have esm3 := b3.at1 esm nsa
      refine ⟨_, rfl, _, rfl, _, rfl, sm, _, rfl, SqL.of esm3, fun p hp => ?_⟩
      refine ⟨_, rfl, _, rfl, _, rfl, sm, _, rfl, SqL.of ((newB hp).at esm3), fun p2 hp2 => ?_⟩
      have np : H3 p = none := hp
      have n2 : H3 p2 = none := (newB (o := .lst (cutV (svs ss) (some ((at_ : Nat) : Int)) none)) hp).free hp2 (by simp)
      have npp : p ≠ p2 := ne_of_none upd_same hp2
      have c1 : cutV (svs ss) (some ((at_ : Nat) : Int)) none = svs (ss.drop at_) := cut_from ss at_
      have c2 : cutV (svs ss) none (some ((at_ : Nat) : Int)) = svs (ss.take at_) := cut_upto ss at_
      rw [c1] at hp2
      rw [c1, c2]
      have bp : But [] H3 (upd (upd H3 p (.lst (svs (ss.drop at_)))) p2 (.lst (svs (ss.take at_)))) := (newB hp).put0 n2
      refine ⟨p, p2, _, _, rfl, rfl, by rw [upd_ne npp, upd_same], upd_same, szl (by rw [svs_len, svs_len, List.length_drop, List.length_take]; omega), fun p3 hp3 => ?_⟩
      have b4 := bp.new (o := .lst (svs (ss.drop at_) ++ svs (ss.take at_))) hp3
      have e4 : (upd (upd (upd H3 p (.lst (svs (ss.drop at_)))) p2 (.lst (svs (ss.take at_)))) p3 (.lst (svs (ss.drop at_) ++ svs (ss.take at_)))) p3 = some (.lst (svs (ss.drop at_ ++ ss.take at_))) := by rw [upd_same, svs_app]
      have n3 := bp.free hp3 (by simp)
      generalize upd (upd (upd H3 p (.lst (svs (ss.drop at_)))) p2 (.lst (svs (ss.take at_)))) p3 (.lst (svs (ss.drop at_) ++ svs (ss.take at_))) = H4 at b4 e4 ⊢
      have rnd := rot_nodup snd at_
      have rmem : ∀ c ∈ ss.drop at_ ++ ss.take at_, c ∈ ss := fun c h => rot_mem h
      have rlen : (ss.drop at_ ++ ss.take at_).length = ss.length := by rw [List.length_append, List.length_drop, List.length_take]; omega
      generalize ss.drop at_ ++ ss.take at_ = rs at e4 rnd rmem rlen
      have eo4 := b4.at (b3.at1 (b2.at eo1) noa)
      have b04 : But [a] H H4 := (b02.trans b3).trans (But.of b4)
      have f4 := f3.keep b4
      have fresh : ∀ {H' : Hp} {x : Addr}, But [a] H H' → FeedR H' a → H' x = none → H x = none := fun {H' x} b ⟨d, s, e⟩ h => b.free h (not1 fun z => by rw [z, e] at h; cases h)
      refine ⟨_, rfl, p3, _, rfl, .inl (SqL.of e4), _, rfl, o, _, 1, _, rfl, rfl, SqT.of eo4, rfl, _, _, rfl, rfl, _, rfl, ?_⟩
      rw [svs_len]
      refine ite2 (fun hlt => ?_) (fun hlt => ?_)
      · refine ⟨szl (by simp), fun r hr => k _ r [] [] (b04.trans (But.of (newB hr))) (f4.keep (newB hr)) (fresh b04 f4 hr) upd_same Each.nil (.inl rfl)⟩
      · have hge : n ≤ rs.length := by
          have z : ¬ ((rs.length : Int) < (n : Int)) := fun z => hlt (decide_eq_true z)
          omega
        refine ⟨_, rfl, _, rfl, o, _, 1, _, rfl, rfl, SqT.of eo4, rfl, _, rfl, p3, _, rfl, SqL.of e4, fun p4 hp4 => ?_⟩
        rw [cut_upto]
        refine ⟨p4, _, rfl, .inl ⟨SqL.of upd_same, fun q1 hq1 => ?_⟩⟩
        have b5 : But [] H4 (upd (upd H4 p4 (.lst (svs (rs.take n)))) q1 (.tup (svs (rs.take n)))) := (newB hp4).new hq1
        have e5 : (upd (upd H4 p4 (.lst (svs (rs.take n)))) q1 (.tup (svs (rs.take n)))) q1 = some (.tup (svs (rs.take n))) := upd_same
        generalize upd (upd H4 p4 (.lst (svs (rs.take n)))) q1 (.tup (svs (rs.take n))) = H5 at b5 e5 ⊢
        refine ⟨_, rfl, o, _, 0, _, rfl, rfl, SqT.of (b5.at eo4), rfl, _, rfl, szl (by simp), fun q2 hq2 => ⟨szl (by simp), fun r hr => ?_⟩⟩
        have b6 : But [] H4 (upd H5 q2 (.tup [.ref q1, sv tg, .bl req])) := b5.new hq2
        have b7 := b6.new (o := .lst [.ref q2]) hr
        have nq : q1 ≠ q2 := ne_of_none e5 hq2
        refine k _ r [.ref q2] [(rs.take n, tg, req)] (b04.trans (But.of b7)) (f4.keep b7) (fresh (b04.trans (But.of b6)) (f4.keep b6) hr) upd_same (each_consK ⟨q2, q1, rfl, (newB hr).at upd_same, (newB hr).at ((newB hq2).at e5)⟩ Each.nil) (.inr ⟨rs.take n, req, rfl, by rw [List.length_take]; omega, rnd.sublist (List.take_sublist _ _), fun c h => sfree c (rmem c (List.mem_of_mem_take h)), hreq, fun z c h => skeys z c (rmem c (List.mem_of_mem_take h))⟩)
end
end Cn
set_option Elab.async false
set_option linter.all false
set_option maxRecDepth 100000
set_option maxHeartbeats 1000000
/-! keys that share no column -/
namespace Cn
structure KeysD (cols : List T) (ks : List (List T)) : Prop where
  len : ks.length ≤ 3
  each : ∀ k ∈ ks, k ≠ [] ∧ k.length ≤ 3 ∧ k.Nodup ∧ ∀ c ∈ k, c ∈ cols
  apart : ks.Pairwise (fun o k => ∀ c ∈ k, c ∉ o)
theorem KeysD.more {cols : List T} {ks : List (List T)} {k : List T} (h : KeysD cols ks) (l : ks.length < 3) (ne : k ≠ []) (k3 : k.length ≤ 3) (nd : k.Nodup) (sub : ∀ c ∈ k, c ∈ cols) (ap : ∀ o ∈ ks, ∀ c ∈ k, c ∉ o) : KeysD cols (ks ++ [k]) := by
  refine ⟨by simp; omega, fun q hq => ?_, List.pairwise_append.mpr ⟨h.apart, by simp, fun o ho q hq => ?_⟩⟩
  · rcases List.mem_append.mp hq with z | z
    · exact h.each q z
    · rw [List.mem_singleton.mp z]; exact ⟨ne, k3, nd, sub⟩
  · rw [List.mem_singleton.mp hq]; exact ap o ho
theorem hasAll_not {a b : List T} (hb : b ≠ []) (h : ∀ c ∈ b, c ∉ a) : hasAll a b = false := by
  unfold hasAll
  rw [List.all_eq_false]
  obtain ⟨c, r, rfl⟩ := List.exists_cons_of_ne_nil hb
  refine ⟨c, List.mem_cons_self, fun z => h c List.mem_cons_self (List.contains_iff_mem.mp z)⟩
theorem KeysD.ok {cols : List T} {ks : List (List T)} (h : KeysD cols ks) : (∀ k ∈ ks, k ≠ [] ∧ k.length ≤ 3 ∧ areDiff k cols = true) ∧ ks.Pairwise (fun o k => hasAll k o = false ∧ hasAll o k = false) := by
  refine ⟨fun k hk => ⟨(h.each k hk).1, (h.each k hk).2.1, areDiff_of (h.each k hk).2.2.1 (h.each k hk).2.2.2⟩, ?_⟩
  refine h.apart.imp_of_mem fun {a b} ha hb z => ?_
  exact ⟨hasAll_not (h.each a ha).1 fun c hc q => z c q hc, hasAll_not (h.each b hb).1 z⟩
/-- the keys of a table of the laws of databases: the first columns, and some of the rest -/
theorem keys_first {cols : List T} (nd : cols.Nodup) {n : Nat} (h1 : 1 ≤ n) (h3 : n ≤ 3) (hl : n ≤ cols.length) : KeysD cols [cols.take n] := by
  refine ⟨by simp, fun k hk => ?_, by simp⟩
  rw [List.mem_singleton.mp hk]
  refine ⟨fun z => ?_, by rw [List.length_take]; omega, nd.sublist (List.take_sublist _ _), fun c hc => List.mem_of_mem_take hc⟩
  have := congrArg List.length z
  rw [List.length_take, List.length_nil] at this
  omega
theorem rest_apart {cols : List T} (nd : cols.Nodup) (n : Nat) : ∀ c ∈ cols.drop n, c ∉ cols.take n := fun c hc h => by
  have z := nd
  rw [← List.take_append_drop n cols] at z
  exact (List.nodup_append.mp z).2.2 c h c hc rfl
end Cn
set_option Elab.async false
set_option linter.all false
set_option maxRecDepth 100000
set_option maxHeartbeats 4000000
/-! a drawn table -/
namespace Cn
open PySem L2
/-- a table as the law keeps it: a tuple of a name, columns, keys, references -/
def TabR (H : Hp) (v : V) (t : Tbl) : Prop := ∃ a ca ua ra uk rk, v = .ref a ∧ H a = some (.tup [sv t.name, .ref ca, .ref ua, .ref ra]) ∧ H ca = some (.tup (svs t.cols)) ∧ H ua = some (.tup uk) ∧ Each (KeyR H) uk t.keys ∧ H ra = some (.tup rk) ∧ Each (RefR H) rk t.refs
theorem TabR.fix {CR : Addr} {H H' : Hp} (f : Fix CR H H') {v : V} {t : Tbl} (h : TabR H v t) : TabR H' v t := by
  obtain ⟨a, ca, ua, ra, uk, rk, e, h1, h2, h3, h4, h5, h6⟩ := h
  exact ⟨a, ca, ua, ra, uk, rk, e, f a _ h1 trivial, f ca _ h2 trivial, f ua _ h3 trivial, h4.mono fun _ _ z => z.fix f, f ra _ h5 trivial, h6.mono fun _ _ z => z.fix f⟩
theorem each_appK {α : Type} {R : V → α → Prop} : ∀ {xs zs : List V} {ys ws : List α}, Each R xs ys → Each R zs ws → Each R (xs ++ zs) (ys ++ ws)
  | [], zs, [], ws, _, h2 => h2
  | [], _, _ :: _, _, h1, _ => by have := h1.1; simp at this
  | _ :: _, _, [], _, h1, _ => by have := h1.1; simp at this
  | x :: xs, zs, y :: ys, ws, h1, h2 => each_consK (h1.2 0 x y rfl rfl) (each_appK ⟨by have := h1.1; simpa using this, fun i a b p q => h1.2 (i + 1) a b (by simpa using p) (by simpa using q)⟩ h2)
theorem flat_le {n : Nat} : ∀ {rs : List (List Cn.T × Cn.T × Bool)}, (∀ r ∈ rs, r.1.length ≤ n) → (rs.flatMap (·.1)).length ≤ rs.length * n
  | [], _ => by simp
  | r :: rs, h => by
    have ih := flat_le (rs := rs) fun q hq => h q (List.mem_cons_of_mem _ hq)
    have h0 := h r List.mem_cons_self
    rw [List.flatMap_cons, List.length_append, List.length_cons, Nat.add_mul]
    omega
/-- a target and how many columns its main key has -/
def OthR (H : Hp) (v : V) (p : Cn.T × Nat) : Prop := ∃ q, v = .ref q ∧ H q = some (.tup [sv p.1, .int (p.2 : Nat)])
theorem OthR.upd {H : Hp} {D : Addr} {xs : List V} {o : HO} (h : H D = some (.lst xs)) {v : V} {p : Cn.T × Nat} (r : OthR H v p) : OthR (upd H D o) v p := by
  obtain ⟨a, e, z⟩ := r
  exact ⟨a, e, by rw [upd_ne fun q => by rw [q, h] at z; cases z]; exact z⟩
theorem OthR.fix {CR : Addr} {H H' : Hp} (f : Fix CR H H') {v : V} {p : Cn.T × Nat} (r : OthR H v p) : OthR H' v p := let ⟨a, e, z⟩ := r; ⟨a, e, f a _ z trivial⟩
def oth0 (t : Tbl) : Cn.T × Nat := (t.name, (t.keys.headD []).length)
theorem dp_oth {K : PySem.W.Frag} {H : Hp} : ∀ {vs : List V} {ps : List (Cn.T × Nat)}, Each (OthR H) vs ps → DpAll K H vs (ps.map fun p => .tuple [.str (S p.1), .int (p.2 : Nat)])
  | [], [], _ => .nil
  | [], _ :: _, h => by have := h.1; simp at this
  | _ :: _, [], h => by have := h.1; simp at this
  | v :: vs, p :: ps, h => by
    obtain ⟨a, rfl, e⟩ := h.2 0 v p rfl rfl
    exact .cons (.tup (SqT.of e) (.cons (.str _) (.cons (.int _) .nil))) (dp_oth ⟨by have := h.1; simpa using this, fun i x y p q => h.2 (i + 1) x y (by simpa using p) (by simpa using q)⟩)
theorem shaped_oth (ps : List (Cn.T × Nat)) (hn : ∀ p ∈ ps, isName p.1 = true) : SeqAt.shaped (.list (ps.map fun p => PyData.tuple [.str (S p.1), .int (p.2 : Nat)])) = true := by
  have z : ∀ ps : List (Cn.T × Nat), (∀ p ∈ ps, isName p.1 = true) → PyData.canLayAll0 (ps.map fun p => PyData.tuple [.str (S p.1), .int (p.2 : Nat)]) = true ∧ PyData.depthAll (ps.map fun p => PyData.tuple [.str (S p.1), .int (p.2 : Nat)]) ≤ 1 := fun ps => by
    induction ps with
    | nil => intro _; exact ⟨by simp [PyData.canLayAll0], by simp [PyData.depthAll]⟩
    | cons p ps ih =>
      intro h
      obtain ⟨h1, h2⟩ := ih fun q hq => h q (List.mem_cons_of_mem _ hq)
      have h0 := name_cps (h p List.mem_cons_self)
      rw [List.map_cons]
      refine ⟨by simp [PyData.canLayAll0, PyData.canLay0, h1, h0], ?_⟩
      simp only [PyData.depthAll, PyData.depth]
      omega
  obtain ⟨h1, h2⟩ := z ps hn
  unfold SeqAt.shaped
  simp only [PyData.canLay0, PyData.depth, h1, Bool.true_and]
  exact decide_eq_true (by omega)
theorem app_key {K : PySem.W.Frag} {σ : L2.St} {H : Hp} {fi : Nat} {u : Addr} {vk : List V} {ks : List (List Cn.T)} {key : List Cn.T} {D : Ends} {ta : TA} (hσ : σ[fi]? = some (some (.ref u))) (hu : H u = some (.lst vk)) (hk : Each (KeyR H) vk ks) (ht : ∀ Q' : List V → Hp → Prop, Q' (svs key) H → ta σ H Q') (hz : vk.length ≤ 100) (hkey : key.length ≤ 10)
    (k : ∀ H' vk', But [u] H H' → H' u = some (.lst vk') → Each (KeyR H') vk' (ks ++ [key]) → D.nx σ H') : tDrop (tBM K "list" rAppend (tVar fi) (tCons (tTup ta) tNil)) D σ H :=
  ⟨_, hσ, tyLs hu, ht _ ⟨szl (by rw [svs_len]; omega), fun p hp => ⟨u, vk, .ref p, rfl, rfl, (newB hp).at hu, szt (by omega), k _ (vk ++ [.ref p]) ((But.of (newB hp)).put (by simp)) upd_same
    ((hk.mono fun _ _ z => (z.fix (fixO (newB hp))).upd ((newB hp).at hu)).snoc (KeyR.upd ((newB hp).at hu) ⟨p, rfl, upd_same⟩))⟩⟩⟩
section
variable {P : Program} {w : World} {K : PySem.W.Frag} {mg : Str → Option Value} {base : Heap} {CR CT CS CI : Addr} {f : Addr} {fd : FuncData}
theorem sc__law_table : FnScope ["feed", "name", "above", "words", "columns", "size", "keys", "rest", "refers", "free", "turn", "others", "used", "one", "column"] ["feed", "name", "above", "words"] (defScope s__law_table) := ⟨rfl, rfl, rfl, by decide +kernel, rfl, by decide +kernel, by decide +kernel⟩
def sp_tableD : Sp := fun vs H Q _ => ∃ (a ab ws : Addr) (nm : Cn.T) (va : List V) (above : List Tbl) (wl : List Cn.T), vs = [.ref a, sv nm, .ref ab, .ref ws] ∧ FeedR H a ∧ H ab = some (.lst va) ∧ Each (TabR H) va above ∧ H ws = some (.lst (svs wl)) ∧ wl.length = 6 ∧ wl.Nodup ∧ (∀ c ∈ wl, isName c = true) ∧ isName nm = true ∧
  nm ∉ above.map (·.name) ∧ (above.map (·.name)).Nodup ∧ above.length < 5 ∧ (∀ t ∈ above, isName t.name = true ∧ 0 < (t.keys.headD []).length ∧ (t.keys.headD []).length ≤ 3) ∧ ab ≠ a ∧ ws ≠ a ∧
  ∀ H' v t, But [a] H H' → FeedR H' a → TabR H' v t → t.name = nm → OkT above t → Q v H'
theorem ok_tableD (F : Fun K "_law_table" "_law_table" s__law_table f fd) (T : LTx K mg CR CT CS CI) (c__law_take : Cal P w K mg base 1 "_law_take" sp_take) (c__law_pick : Cal P w K mg base 2 "_law_pick" sp_pickL) (c__law_refer : Cal P w K mg base 2 "_law_refer" sp_refer) :
    FnOk P w K mg base (L2.CX P w) 3 f fd ["feed", "name", "above", "words"] sp_tableD := by
  refine F.okX sc__law_table (fun vs H Q E h => ?_) (fun cdv A outer s H vs Q E hr h => ?_)
  · obtain ⟨a, ab, ws, nm, _, _, _, rfl, _⟩ := h
    rfl
  · obtain ⟨a, ab, ws, nm, va, above, wl, rfl, hf, hab, hva, hws, w6, wnd, wn, nn, nnew, nd, a5, an, naba, nwsa, k⟩ := h
    refine ⟨_, (pss_cons (ps_set (i := 4) sc__law_table.nd rfl (Or.inl rfl) (pe_slice (sl_listK K rfl) (pv 3) po_none (po_some (pe_op op_add pe_int (p_call E c__law_take hr (by decide) (by rfl) (passX rfl rfl rfl (takes_of rfl rfl rfl rfl)) (pa_cons (pv 0) (pa_cons pe_int pa_nil)))))))
  (pss_cons (ps_set (i := 5) sc__law_table.nd rfl (Or.inl rfl) (pe_callB (call_min2 (by rfl)) (by rfl) T.b_min (by decide +kernel) (pa_cons (p_call E c__law_pick hr (by decide) (by rfl) (passX rfl rfl rfl (takes_of rfl rfl rfl rfl)) (pa_cons (pv 0) (pa_cons (pe_lst (pa_cons pe_int (pa_cons pe_int (pa_cons pe_int (pa_cons pe_int (pa_cons pe_int pa_nil)))))) pa_nil))) (pa_cons (pe_callB (call_len_seqK K rfl) (by rfl) T.b_len (by decide +kernel) (pa_cons (pv 4) pa_nil)) pa_nil))))
  (pss_cons (ps_par (i := 6) (j := 7) (by rfl) sc__law_table.nd rfl rfl (by decide) rfl rfl (pa_cons (pe_lst (pa_cons (pe_callTy (call_tuple_ofK K rfl) (by rfl) T.b_tuple (by decide +kernel) (pa_cons (pe_slice (sl_listK K rfl) (pv 4) po_none (po_some (pv 5))) pa_nil)) pa_nil)) (pa_cons (pe_slice (sl_listK K rfl) (pv 4) (po_some (pv 5)) po_none) pa_nil)) (by rfl))
  (pss_cons (ps_if (PW.pt (pw_and (pt_cmpR op_gt (pe_callB (call_len_seqK K rfl) (by rfl) T.b_len (by decide +kernel) (pa_cons (pv 7) pa_nil)) pe_int (nomark _)) (pw_and1 (pt_cmpR op_eq (p_call E c__law_take hr (by decide) (by rfl) (passX rfl rfl rfl (takes_of rfl rfl rfl rfl)) (pa_cons (pv 0) (pa_cons pe_int pa_nil))) pe_int (nomark _)))))
  (pss_one (ps_expr (pe_bm PySem.F.plainAttrs_list PySem.F.slot_list_append PySem.F.type_list_append mt_append (pv 6) (pa_cons (pe_tup (pa_cons (pe_ix (ix_listK K rfl) (pv 7) (pe_un un_neg pe_int) (fun _ _ => rfl)) pa_nil)) pa_nil))))
  pss_nil)
  (pss_cons (ps_if (PW.pt (pw_and (pt_cmpR op_gt (pe_callB (call_len_seqK K rfl) (by rfl) T.b_len (by decide +kernel) (pa_cons (pv 7) pa_nil)) pe_int (nomark _)) (pw_and1 (pt_cmpR op_eq (p_call E c__law_take hr (by decide) (by rfl) (passX rfl rfl rfl (takes_of rfl rfl rfl rfl)) (pa_cons (pv 0) (pa_cons pe_int pa_nil))) pe_int (nomark _)))))
  (pss_one (ps_expr (pe_bm PySem.F.plainAttrs_list PySem.F.slot_list_append PySem.F.type_list_append mt_append (pv 6) (pa_cons (pe_tup (pa_cons (pe_ix (ix_listK K rfl) (pv 7) pe_int (fun _ _ => rfl)) (pa_cons (pe_ix (ix_listK K rfl) (pv 7) pe_int (fun _ _ => rfl)) pa_nil))) pa_nil))))
  (pss_one (ps_if (PW.pt (pw_and (pt_cmpR op_gt (pe_callB (call_len_seqK K rfl) (by rfl) T.b_len (by decide +kernel) (pa_cons (pv 7) pa_nil)) pe_int (nomark _)) (pw_and1 (pt_cmpR op_eq (p_call E c__law_take hr (by decide) (by rfl) (passX rfl rfl rfl (takes_of rfl rfl rfl rfl)) (pa_cons (pv 0) (pa_cons pe_int pa_nil))) pe_int (nomark _)))))
  (pss_one (ps_expr (pe_bm PySem.F.plainAttrs_list PySem.F.slot_list_append PySem.F.type_list_append mt_append (pv 6) (pa_cons (pe_tup (pa_cons (pe_ix (ix_listK K rfl) (pv 7) pe_int (fun _ _ => rfl)) pa_nil)) pa_nil))))
  pss_nil)))
  (pss_cons (ps_par (i := 8) (j := 9) (by rfl) sc__law_table.nd rfl rfl (by decide) rfl rfl (pa_cons (pe_lst pa_nil) (pa_cons (pe_callTy (call_list_ofK K rfl) (by rfl) T.b_list (by decide +kernel) (pa_cons (pv 4) pa_nil)) pa_nil)) (by rfl))
  (pss_cons (ps_for (passes_of rfl) (by rfl) (pi_range1 (by rfl) T.b_range (pa_cons (p_call E c__law_take hr (by decide) (by rfl) (passX rfl rfl rfl (takes_of rfl rfl rfl rfl)) (pa_cons (pv 0) (pa_cons pe_int pa_nil))) pa_nil)) (pg_name (i := 10) sc__law_table.nd rfl (Or.inl rfl))
  (pss_cons (ps_setLc (i := 11) (own := [("one", 13)]) (g := gName 13) (tt := tYes) (by rfl) sc__law_table.nd rfl rfl (sw_true rfl rfl rfl (by decide +kernel)) (pi_listK K rfl (pv 2)) (blkOk_by (own := [("one", 13)]) (N := ["feed", "name", "above", "words", "columns", "size", "keys", "rest", "refers", "free", "turn", "others", "used", "one", "column"]) (sc := (defScope s__law_table)) (by decide +kernel)) (fun _ _ _ _ _ => (pg_name (i := 13) sc__law_table.nd rfl (Or.inl rfl))) (fun _ _ _ _ _ => pts_nil) (fun _ _ _ _ _ => (pe_tup (pa_cons (pe_ix (ix_tupK K rfl) (pv 13) pe_int (fun _ _ => rfl)) (pa_cons (pe_callB (call_len_seqK K rfl) (by rfl) T.b_len (by decide +kernel) (pa_cons (pe_ix (ix_tupK K rfl) (pe_ix (ix_tupK K rfl) (pv 13) pe_int (fun _ _ => rfl)) pe_int (fun _ _ => rfl)) pa_nil)) pa_nil)))))
  (pss_cons (ps_set (i := 11) sc__law_table.nd rfl (Or.inl rfl) (pe_op op_cat (pv 11) (pe_op op_rep (pe_lst (pa_cons (pe_tup (pa_cons (pv 1) (pa_cons (pv 5) pa_nil))) pa_nil)) (pe_callTy call_int1 (by rfl) T.b_int (by decide +kernel) (pa_cons (pe_cmpR op_eq (p_call E c__law_take hr (by decide) (by rfl) (passX rfl rfl rfl (takes_of rfl rfl rfl rfl)) (pa_cons (pv 0) (pa_cons pe_int pa_nil))) pe_int (nomark _)) pa_nil)))))
  (pss_one (ps_if (pt_cmpR (op_neDK K rfl hr.units) (pv 11) (pe_lst pa_nil) (nomark _))
  (pss_cons (ps_set (i := 8) sc__law_table.nd rfl (Or.inl rfl) (pe_op op_cat (pv 8) (p_call E c__law_refer hr (by decide) (by rfl) (passX rfl rfl rfl (takes_of rfl rfl rfl rfl)) (pa_cons (pv 0) (pa_cons (pv 1) (pa_cons (pv 6) (pa_cons (p_call E c__law_pick hr (by decide) (by rfl) (passX rfl rfl rfl (takes_of rfl rfl rfl rfl)) (pa_cons (pv 0) (pa_cons (pv 11) pa_nil))) (pa_cons (pv 9) pa_nil))))))))
  (pss_cons (ps_set (i := 12) sc__law_table.nd rfl (Or.inr rfl) (pe_callB (cr_sumL K rfl (by rfl)) (by rfl) T.b_sum (by decide +kernel) (pa_cons (pe_lc (own := [("one", 13)]) (g := gName 13) (tt := tYes) (by rfl) sc__law_table.nd (pi_listK K rfl (pv 8)) (blkOk_by (own := [("one", 13)]) (N := ["feed", "name", "above", "words", "columns", "size", "keys", "rest", "refers", "free", "turn", "others", "used", "one", "column"]) (sc := (defScope s__law_table)) (by decide +kernel)) (fun _ _ _ _ _ => (pg_name (i := 13) sc__law_table.nd rfl (Or.inl rfl))) (fun _ _ _ _ _ => pts_nil) (fun _ _ _ _ _ => (pe_callTy (call_list_ofK K rfl) (by rfl) T.b_list (by decide +kernel) (pa_cons (pe_ix (ix_tupK K rfl) (pv 13) pe_int (fun _ _ => rfl)) pa_nil)))) (pa_cons (pe_lst pa_nil) pa_nil))))
  (pss_one (ps_setLc (i := 9) (own := [("column", 14)]) (g := gName 14) (by rfl) sc__law_table.nd rfl rfl (sw_true rfl rfl rfl (by decide +kernel)) (pi_listK K rfl (pv 4)) (blkOk_by (own := [("column", 14)]) (N := ["feed", "name", "above", "words", "columns", "size", "keys", "rest", "refers", "free", "turn", "others", "used", "one", "column"]) (sc := (defScope s__law_table)) (by decide +kernel)) (fun _ _ _ _ _ => (pg_name (i := 14) sc__law_table.nd rfl (Or.inl rfl))) (fun _ _ _ _ _ => (pts_one (pt_cmpR (op_notIn_seqK K rfl) (pv 14) (pv 12) (by rfl)))) (fun _ _ _ _ _ => (pv 14))))))
  pss_nil)))))
  (pss_one (ps_ret (pe_tup (pa_cons (pv 1) (pa_cons (pe_callTy (call_tuple_ofK K rfl) (by rfl) T.b_tuple (by decide +kernel) (pa_cons (pv 4) pa_nil)) (pa_cons (pe_callTy (call_tuple_ofK K rfl) (by rfl) T.b_tuple (by decide +kernel) (pa_cons (pv 6) pa_nil)) (pa_cons (pe_callTy (call_tuple_ofK K rfl) (by rfl) T.b_tuple (by decide +kernel) (pa_cons (pv 8) pa_nil)) pa_nil)))))))))))))), ?_⟩
    refine ⟨_, rfl, _, rfl, a, 4, rfl, by decide, by decide, hf, fun H1 r1 b1 f1 h1 => ?_⟩
    obtain ⟨d0, s0, ha⟩ := id hf
    have fresh : ∀ {H' : Hp} {x : Addr}, But [a] H H' → FeedR H' a → H' x = none → H x = none := fun {H' x} b ⟨d, s, e⟩ h => b.free h (not1 fun z => by rw [z, e] at h; cases h)
    refine ⟨_, _, rfl, rfl, _, rfl, ws, _, rfl, SqL.of (b1.at1 hws nwsa), fun c hc => ?_⟩
    have ec0 : cutV (svs wl) none (some ((2 : Int) + (r1 : Nat))) = svs (wl.take (2 + r1)) := by
      have := cut_upto wl (2 + r1)
      rwa [show (((2 + r1 : Nat)) : Int) = (2 : Int) + (r1 : Nat) by omega] at this
    rw [ec0]
    have nc : H c = none := fresh b1 f1 hc
    have b2 : But [a] H (upd H1 c (.lst (svs (wl.take (2 + r1))))) := b1.new hc
    have f2 := f1.keep (newB (o := .lst (svs (wl.take (2 + r1)))) hc)
    have ec2 : (upd H1 c (.lst (svs (wl.take (2 + r1))))) c = some (.lst (svs (wl.take (2 + r1)))) := upd_same
    have cl : (wl.take (2 + r1)).length = 2 + r1 := by rw [List.length_take]; omega
    have cnd : (wl.take (2 + r1)).Nodup := wnd.sublist (List.take_sublist _ _)
    have cn : ∀ x ∈ wl.take (2 + r1), isName x = true := fun x hx => wn x (List.mem_of_mem_take hx)
    have cl5 : (wl.take (2 + r1)).length ≤ 5 := by omega
    have cl2 : 2 ≤ (wl.take (2 + r1)).length := by omega
    generalize wl.take (2 + r1) = cols at b2 f2 ec2 cnd cn cl5 cl2 ⊢
    generalize upd H1 c (.lst (svs cols)) = H2 at b2 f2 ec2 ⊢
    have nca : c ≠ a := fun z => by rw [z, ha] at nc; cases nc
    -- size
    refine ⟨_, rfl, szl (by simp), fun l hl => ?_⟩
    have nla : l ≠ a := fun z => by obtain ⟨d, s, e⟩ := f2; rw [z, e] at hl; cases hl
    refine ⟨a, l, _, rfl, by decide, by decide, f2.keep (newB hl), nla, upd_same, fun H3 vs b3 f3 hvs => ?_⟩
    obtain ⟨m, rfl, hm1, hm3⟩ : ∃ m : Nat, vs = .int (m : Nat) ∧ 1 ≤ m ∧ m ≤ 3 := by
      simp only [List.mem_cons, List.not_mem_nil, or_false] at hvs
      rcases hvs with rfl | rfl | rfl | rfl | rfl
      · exact ⟨1, rfl, by decide, by decide⟩
      · exact ⟨1, rfl, by decide, by decide⟩
      · exact ⟨1, rfl, by decide, by decide⟩
      · exact ⟨2, rfl, by decide, by decide⟩
      · exact ⟨3, rfl, by decide, by decide⟩
    have b03 : But [a] H H3 := (b2.new hl).trans b3
    have ec3 : H3 c = some (.lst (svs cols)) := b3.at1 ((newB hl).at ec2) nca
    refine ⟨_, rfl, c, _, rfl, .inl (SqL.of ec3), _, _, rfl, ?_⟩
    rw [svs_len]
    have esz : (if ((cols.length : Nat) : Int) < ((m : Nat) : Int) then ((cols.length : Nat) : Int) else ((m : Nat) : Int)) = ((min m cols.length : Nat) : Int) := by
      split <;> omega
    rw [esz]
    have sz1 : 1 ≤ min m cols.length := by omega
    have sz3 : min m cols.length ≤ 3 := by omega
    have szc : min m cols.length ≤ cols.length := by omega
    generalize min m cols.length = size at sz1 sz3 szc ⊢
    -- keys, rest
    refine ⟨_, rfl, _, rfl, _, rfl, c, _, rfl, SqL.of ec3, fun p1 hp1 => ?_⟩
    rw [cut_upto]
    refine ⟨p1, _, rfl, .inl ⟨SqL.of upd_same, fun p2 hp2 => ⟨szl (by simp), fun u hu => ?_⟩⟩⟩
    have b4 : But [] H3 (upd (upd (upd H3 p1 (.lst (svs (cols.take size)))) p2 (.tup (svs (cols.take size)))) u (.lst [.ref p2])) := ((newB hp1).new hp2).new hu
    have eu4 : (upd (upd (upd H3 p1 (.lst (svs (cols.take size)))) p2 (.tup (svs (cols.take size)))) u (.lst [.ref p2])) u = some (.lst [.ref p2]) := upd_same
    have ep4 : (upd (upd (upd H3 p1 (.lst (svs (cols.take size)))) p2 (.tup (svs (cols.take size)))) u (.lst [.ref p2])) p2 = some (.tup (svs (cols.take size))) := (newB hu).at upd_same
    have nu3 : H3 u = none := ((newB (o := .lst (svs (cols.take size))) hp1).new (o := .tup (svs (cols.take size))) hp2).free hu (by simp)
    generalize upd (upd (upd H3 p1 (.lst (svs (cols.take size)))) p2 (.tup (svs (cols.take size)))) u (.lst [.ref p2]) = H4 at b4 eu4 ep4 ⊢
    refine ⟨_, rfl, _, rfl, _, rfl, c, _, rfl, SqL.of (b4.at ec3), fun rs hrs => ⟨_, _, rfl, ?_⟩⟩
    rw [cut_from]
    have nrs4 : H4 rs = none := hrs
    have ers : (upd H4 rs (.lst (svs (cols.drop size)))) rs = some (.lst (svs (cols.drop size))) := upd_same
    have eu5 := (newB (o := .lst (svs (cols.drop size))) hrs).at eu4
    have ep5 := (newB (o := .lst (svs (cols.drop size))) hrs).at ep4
    have b34 : But [] H3 (upd H4 rs (.lst (svs (cols.drop size)))) := b4.new hrs
    have b05 : But [a] H (upd H4 rs (.lst (svs (cols.drop size)))) := b03.trans (But.of b34)
    have f5 := f3.keep b34
    have ec5 := b34.at ec3
    have nu : H u = none := fresh b03 f3 nu3
    have nrs : H rs = none := fresh (b03.trans (But.of b4)) (f3.keep b4) nrs4
    have kd1 := keys_first cnd sz1 sz3 szc
    have rap := rest_apart cnd size
    have rsub : ∀ x ∈ cols.drop size, x ∈ cols := fun x hx => List.mem_of_mem_drop hx
    have rnd : (cols.drop size).Nodup := cnd.sublist (List.drop_sublist _ _)
    have rl : (cols.drop size).length ≤ 4 := by rw [List.length_drop]; omega
    have nuc : c ≠ u := ne_of_none ec3 nu3
    have nurs : rs ≠ u := fun z => by rw [z, eu4] at hrs; cases hrs
    have nua : u ≠ a := fun z => by rw [z, ha] at nu; cases nu
    have nrsa : rs ≠ a := fun z => by rw [z, ha] at nrs; cases nrs
    generalize hfirst : cols.take size = first at *
    generalize hrest : cols.drop size = rest at *
    generalize upd H4 rs (.lst (svs rest)) = H5 at ers eu5 ep5 b05 f5 ec5 b34 ⊢
    -- what stands while keys grow
    have step1 : ∀ (X : TS) (D' : Ends), (∀ G vk ks, But [a] H G → FeedR G a → G c = some (.lst (svs cols)) → G rs = some (.lst (svs rest)) → G u = some (.lst vk) → Each (KeyR G) vk ks → (ks = [first] ∨ ∃ x, ks = [first, [x]] ∧ rest.getLast? = some x) → X D' [some (.ref a), some (sv nm), some (.ref ab), some (.ref ws), some (.ref c), some (.int (size : Nat)), some (.ref u), some (.ref rs), none, none, none, none, none, none, none] G) →
        tSeq (tIfS (tAnd (tTest (tOp (rI0 fun i j => V.bl (decide (j < i))) (tCB (fun xs H Q => ∃ p ys, xs = [V.ref p] ∧ (SqL K H p ys ∨ SqT K H p ys) ∧ Q (V.int ↑ys.length) H) (tCons (tVar 7) tNil)) (tC (V.int 0)))) (tTest (tOp rEq (tCall sp_take [] E (tCons (tVar 0) (tCons (tC (V.int 3)) tNil))) (tC (V.int 0)))))
          (tDrop (tBM K "list" rAppend (tVar 6) (tCons (tTup (tCons (tOp (rIxL K) (tVar 7) (tUn (rU fun i => V.int (-i)) (tC (V.int 1)))) tNil)) tNil))) tNext) X D' [some (.ref a), some (sv nm), some (.ref ab), some (.ref ws), some (.ref c), some (.int (size : Nat)), some (.ref u), some (.ref rs), none, none, none, none, none, none, none] H5 := fun X D' q => by
      have e1 : Each (KeyR H5) [V.ref p2] [first] := each_consK ⟨p2, rfl, ep5⟩ Each.nil
      refine ⟨_, rfl, rs, _, rfl, .inl (SqL.of ers), _, _, rfl, rfl, _, rfl, ?_⟩
      rw [svs_len]
      refine ite2 (fun hp => ?_) (fun _ => iteF (q H5 [.ref p2] [first] b05 f5 ec5 ers eu5 e1 (.inl rfl)))
      refine ⟨_, rfl, a, 3, rfl, by decide, by decide, f5, fun G r bG fG _ => ⟨rfl, _, rfl, ?_⟩⟩
      have ersG := bG.at1 ers nrsa
      have euG := bG.at1 eu5 nua
      have ecG := bG.at1 ec5 nca
      have eG : Each (KeyR G) [V.ref p2] [first] := each_consK ⟨p2, rfl, bG.at1 ep5 (fun z => by rw [z] at ep5; obtain ⟨d, s, e⟩ := f5; rw [e] at ep5; cases ep5)⟩ Each.nil
      refine ite2 (fun _ => ?_) (fun _ => q G [.ref p2] [first] (b05.trans bG) fG ecG ersG euG eG (.inl rfl))
      have hp : 0 < rest.length := by
        have := of_decide_eq_true hp
        omega
      obtain ⟨x, hx⟩ : ∃ x, rest.getLast? = some x := by
        cases hc2 : rest with
        | nil => rw [hc2] at hp; simp at hp
        | cons y l => exact ⟨_, List.getLast?_cons⟩
      have ex : atI (svs rest) (-1) = some (sv x) := by
        have := atI_neg (ls := rest) (k := 1) (Nat.le_refl _) hp
        rw [List.getLast?_eq_getElem?] at hx
        rw [List.getD_eq_getElem?_getD, hx] at this
        exact this
      refine app_key rfl euG eG (key := [x]) (fun Q' q' => ?_) (by simp) (by simp) fun G2 vk bG2 euG2 eG2 => ?_
      · exact ⟨_, rfl, _, rfl, rs, _, -1, _, rfl, rfl, SqL.of ersG, ex, q'⟩
      · have fG2 : FeedR G2 a := by obtain ⟨d, s, e⟩ := fG; exact ⟨d, s, bG2.at1 e nua.symm⟩
        exact q G2 vk _ (fun y o hy e => bG2 y o (fun z => by rw [List.mem_singleton.mp z, nu] at e; cases e) ((b05.trans bG) y o hy e)) fG2 (bG2.at1 ecG nuc) (bG2.at1 ersG nurs) euG2 eG2 (.inr ⟨x, rfl, hx⟩)
    refine step1 _ _ fun G vk ks bG fG ecG ersG euG eG hks => ?_
    have len2 : ks.length ≤ 2 := by rcases hks with rfl | ⟨x, rfl, _⟩ <;> simp
    have lv : vk.length ≤ 2 := by rw [eG.1]; exact len2
    have hd1 : ks.headD [] = first := by rcases hks with rfl | ⟨x, rfl, _⟩ <;> rfl
    have lastr : ∀ x, rest.getLast? = some x → x ∈ rest := fun x hx => List.mem_of_getLast? hx
    have kdG : KeysD cols ks := by
      rcases hks with rfl | ⟨x, rfl, hx⟩
      · exact kd1
      · refine KeysD.more (ks := [first]) kd1 (by simp) (by simp) (by simp) (by simp) (fun y hy => ?_) fun o ho y hy => ?_
        · rw [List.mem_singleton.mp hy]; exact rsub x (lastr x hx)
        · rw [List.mem_singleton.mp hy, List.mem_singleton.mp ho]; exact rap x (lastr x hx)
    have hr0 : ∀ {y : Cn.T} {l : List Cn.T}, rest = y :: l → ∀ x, rest.getLast? = some x → 1 < rest.length → y ≠ x := fun {y l} e x hx hl2 q => by
      subst q
      rw [e] at hx rnd hl2
      rw [List.nodup_cons] at rnd
      refine rnd.1 ?_
      cases l with
      | nil => simp at hl2
      | cons z l => rw [List.getLast?_cons_cons] at hx; exact List.mem_of_getLast? hx
    have step2 : ∀ (X : TS) (D' : Ends), (∀ G' vk' ks', But [a] H G' → FeedR G' a → G' c = some (.lst (svs cols)) → G' u = some (.lst vk') → Each (KeyR G') vk' ks' → KeysD cols ks' → ks'.headD [] = first → ks' ≠ [] → X D' [some (.ref a), some (sv nm), some (.ref ab), some (.ref ws), some (.ref c), some (.int (size : Nat)), some (.ref u), some (.ref rs), none, none, none, none, none, none, none] G') →
        tSeq (tIfS (tAnd (tTest (tOp (rI0 fun i j => V.bl (decide (j < i))) (tCB (fun xs H Q => ∃ p ys, xs = [V.ref p] ∧ (SqL K H p ys ∨ SqT K H p ys) ∧ Q (V.int ↑ys.length) H) (tCons (tVar 7) tNil)) (tC (V.int 2)))) (tTest (tOp rEq (tCall sp_take [] E (tCons (tVar 0) (tCons (tC (V.int 2)) tNil))) (tC (V.int 0)))))
          (tDrop (tBM K "list" rAppend (tVar 6) (tCons (tTup (tCons (tOp (rIxL K) (tVar 7) (tC (V.int 1))) (tCons (tOp (rIxL K) (tVar 7) (tC (V.int 0))) tNil))) tNil)))
          (tIfS (tAnd (tTest (tOp (rI0 fun i j => V.bl (decide (j < i))) (tCB (fun xs H Q => ∃ p ys, xs = [V.ref p] ∧ (SqL K H p ys ∨ SqT K H p ys) ∧ Q (V.int ↑ys.length) H) (tCons (tVar 7) tNil)) (tC (V.int 1)))) (tTest (tOp rEq (tCall sp_take [] E (tCons (tVar 0) (tCons (tC (V.int 4)) tNil))) (tC (V.int 0)))))
            (tDrop (tBM K "list" rAppend (tVar 6) (tCons (tTup (tCons (tOp (rIxL K) (tVar 7) (tC (V.int 0))) tNil)) tNil))) tNext))
          X D' [some (.ref a), some (sv nm), some (.ref ab), some (.ref ws), some (.ref c), some (.int (size : Nat)), some (.ref u), some (.ref rs), none, none, none, none, none, none, none] G := fun X D' q => by
      have ne : ks ≠ [] := by rcases hks with rfl | ⟨x, rfl, _⟩ <;> simp
      have hdA : ∀ k', (ks ++ [k']).headD [] = first := fun k' => by rcases hks with rfl | ⟨x, rfl, _⟩ <;> rfl
      have keepA : ∀ {G1 G2 : Hp}, But [a] H G1 → FeedR G1 a → But [u] G1 G2 → But [a] H G2 ∧ FeedR G2 a := fun {G1 G2} b1 f1 b2 => ⟨fun y o hy e => b2 y o (fun z => by rw [List.mem_singleton.mp z, nu] at e; cases e) (b1 y o hy e), by obtain ⟨d, s, e⟩ := f1; exact ⟨d, s, b2.at1 e nua.symm⟩⟩
      -- the second way: one column alone
      have way2 : ∀ G1, But [a] G G1 → FeedR G1 a → tIfS (tAnd (tTest (tOp (rI0 fun i j => V.bl (decide (j < i))) (tCB (fun xs H Q => ∃ p ys, xs = [V.ref p] ∧ (SqL K H p ys ∨ SqT K H p ys) ∧ Q (V.int ↑ys.length) H) (tCons (tVar 7) tNil)) (tC (V.int 1)))) (tTest (tOp rEq (tCall sp_take [] E (tCons (tVar 0) (tCons (tC (V.int 4)) tNil))) (tC (V.int 0)))))
            (tDrop (tBM K "list" rAppend (tVar 6) (tCons (tTup (tCons (tOp (rIxL K) (tVar 7) (tC (V.int 0))) tNil)) tNil))) tNext { D' with nx := X D' } [some (.ref a), some (sv nm), some (.ref ab), some (.ref ws), some (.ref c), some (.int (size : Nat)), some (.ref u), some (.ref rs), none, none, none, none, none, none, none] G1 := fun G1 b1 f1 => by
        have ecG1 := b1.at1 ecG nca
        have ersG1 := b1.at1 ersG nrsa
        have euG1 := b1.at1 euG nua
        have bHG1 := bG.trans b1
        have eG1 : Each (KeyR G1) vk ks := eG.mono fun _ _ z => z.fix (by obtain ⟨d, s, e⟩ := fG; exact fixL b1 e)
        refine ⟨_, rfl, rs, _, rfl, .inl (SqL.of ersG1), _, _, rfl, rfl, _, rfl, ?_⟩
        rw [svs_len]
        refine ite2 (fun hp => ?_) (fun _ => iteF (q G1 vk ks bHG1 f1 ecG1 euG1 eG1 kdG hd1 ne))
        have hp : 1 < rest.length := by
          have := of_decide_eq_true hp
          omega
        refine ⟨_, rfl, a, 4, rfl, by decide, by decide, f1, fun G2 r b2 f2 _ => ⟨rfl, _, rfl, ?_⟩⟩
        have eG2 : Each (KeyR G2) vk ks := eG1.mono fun _ _ z => z.fix (by obtain ⟨d, s, e⟩ := f1; exact fixL b2 e)
        have bHG2 := bHG1.trans b2
        have euG2 := b2.at1 euG1 nua
        refine ite2 (fun _ => ?_) (fun _ => q G2 vk ks bHG2 f2 (b2.at1 ecG1 nca) euG2 eG2 kdG hd1 ne)
        obtain ⟨y, l, er⟩ : ∃ y l, rest = y :: l := by
          cases hc2 : rest with
          | nil => rw [hc2] at hp; simp at hp
          | cons y l => exact ⟨y, l, rfl⟩
        have yr : y ∈ rest := by rw [er]; exact List.mem_cons_self
        refine app_key rfl euG2 eG2 (key := [y]) (fun Q' q' => ⟨_, rfl, rs, _, 0, _, rfl, rfl, SqL.of (b2.at1 ersG1 nrsa), atI_nat (by rw [er]; rfl), q'⟩) (by omega) (by simp) fun G3 vk3 b3 euG3 eG3 => ?_
        obtain ⟨k1, k2⟩ := keepA bHG2 f2 b3
        refine q G3 vk3 _ k1 k2 (b3.at1 (b2.at1 ecG1 nca) nuc) euG3 eG3 (kdG.more (by omega) (by simp) (by simp) (by simp) (fun z hz => by rw [List.mem_singleton.mp hz]; exact rsub y yr) fun o ho z hz => ?_) (hdA _) (by simp)
        rw [List.mem_singleton.mp hz]
        rcases hks with rfl | ⟨x, rfl, hx⟩
        · rw [List.mem_singleton.mp ho]; exact rap y yr
        · rcases List.mem_cons.mp ho with rfl | ho
          · exact rap y yr
          · rw [List.mem_singleton.mp ho, List.mem_singleton]
            exact hr0 er x hx hp
      refine ⟨_, rfl, rs, _, rfl, .inl (SqL.of ersG), _, _, rfl, rfl, _, rfl, ?_⟩
      rw [svs_len]
      refine ite2 (fun hp => ?_) (fun _ => iteF (way2 G (But.refl) fG))
      have hp : 2 < rest.length := by
        have := of_decide_eq_true hp
        omega
      refine ⟨_, rfl, a, 2, rfl, by decide, by decide, fG, fun G2 r b2 f2 _ => ⟨rfl, _, rfl, ?_⟩⟩
      refine ite2 (fun _ => ?_) (fun _ => way2 G2 b2 f2)
      have eG2 : Each (KeyR G2) vk ks := eG.mono fun _ _ z => z.fix (by obtain ⟨d, s, e⟩ := fG; exact fixL b2 e)
      have bHG2 := bG.trans b2
      have euG2 := b2.at1 euG nua
      obtain ⟨y, z, l, er⟩ : ∃ y z l, rest = y :: z :: l := by
        cases hc2 : rest with
        | nil => rw [hc2] at hp; simp at hp
        | cons y l =>
          cases l with
          | nil => rw [hc2] at hp; simp at hp
          | cons z l => exact ⟨y, z, l, rfl⟩
      have yr : y ∈ rest := by rw [er]; exact List.mem_cons_self
      have zr : z ∈ rest := by rw [er]; exact List.mem_cons_of_mem _ List.mem_cons_self
      have yz : y ≠ z := fun e => by rw [er, e] at rnd; exact (List.nodup_cons.mp rnd).1 List.mem_cons_self
      refine app_key rfl euG2 eG2 (key := [z, y]) (fun Q' q' => ⟨_, rfl, rs, _, 1, _, rfl, rfl, SqL.of (b2.at1 ersG nrsa), atI_nat (by rw [er]; rfl), _, rfl, rs, _, 0, _, rfl, rfl, SqL.of (b2.at1 ersG nrsa), atI_nat (by rw [er]; rfl), q'⟩) (by omega) (by simp) fun G3 vk3 b3 euG3 eG3 => ?_
      obtain ⟨k1, k2⟩ := keepA bHG2 f2 b3
      refine q G3 vk3 _ k1 k2 (b3.at1 (b2.at1 ecG nca) nuc) euG3 eG3 (kdG.more (by omega) (by simp) (by simp) (by simpa using Ne.symm yz) (fun x hx => ?_) fun o ho x hx => ?_) (hdA _) (by simp)
      · simp only [List.mem_cons, List.not_mem_nil, or_false] at hx
        rcases hx with rfl | rfl
        · exact rsub _ zr
        · exact rsub _ yr
      · have xr : x ∈ rest := by
          simp only [List.mem_cons, List.not_mem_nil, or_false] at hx
          rcases hx with rfl | rfl
          · exact zr
          · exact yr
        have xl : ∀ v, rest.getLast? = some v → x ≠ v := fun v hv => by
          simp only [List.mem_cons, List.not_mem_nil, or_false] at hx
          rcases hx with rfl | rfl
          · intro q2
            subst q2
            rw [er] at hv rnd hp
            rw [List.getLast?_cons_cons] at hv
            have nd2 := (List.nodup_cons.mp rnd).2
            cases l with
            | nil => simp at hp
            | cons w l => rw [List.getLast?_cons_cons] at hv; exact (List.nodup_cons.mp nd2).1 (List.mem_of_getLast? hv)
          · exact hr0 er v hv (by omega)
        rcases hks with rfl | ⟨v, rfl, hv⟩
        · rw [List.mem_singleton.mp ho]; exact rap x xr
        · rcases List.mem_cons.mp ho with rfl | ho
          · exact rap x xr
          · rw [List.mem_singleton.mp ho, List.mem_singleton]
            exact xl v hv
    refine step2 _ _ fun G6 vk6 ks6 b6 f6 ec6 eu6 ek6 kd6 hd6 ne6 => ?_
    clear step1 step2
    obtain ⟨kok1, kok2⟩ := kd6.ok
    refine ⟨szl (by simp), fun rf0 hrf0 => ?_⟩
    refine ⟨_, rfl, c, _, rfl, .inl (SqL.of ((newB hrf0).at ec6)), fun fr0 hfr0 => ⟨_, _, rfl, ?_⟩⟩
    have nrf0 : H rf0 = none := fresh b6 f6 hrf0
    have nfr0' : G6 fr0 = none := (newB (o := .lst []) hrf0).free hfr0 (by simp)
    have nfr0 : H fr0 = none := fresh b6 f6 nfr0'
    have b7 : But [] G6 (upd (upd G6 rf0 (.lst [])) fr0 (.lst (svs cols))) := (newB hrf0).new hfr0
    have erf : (upd (upd G6 rf0 (.lst [])) fr0 (.lst (svs cols))) rf0 = some (.lst []) := (newB hfr0).at upd_same
    have efr : (upd (upd G6 rf0 (.lst [])) fr0 (.lst (svs cols))) fr0 = some (.lst (svs cols)) := upd_same
    generalize upd (upd G6 rf0 (.lst [])) fr0 (.lst (svs cols)) = G7 at b7 erf efr ⊢
    have bH7 := b6.trans (But.of b7)
    have f7 := f6.keep b7
    have ek7 : Each (KeyR G7) vk6 ks6 := ek6.mono fun _ _ z => z.fix (fixO b7)
    refine ⟨_, rfl, a, 3, rfl, by decide, by decide, f7, fun G8 nt b8 f8 hnt => ?_⟩
    refine ⟨_, rfl, by omega, by omega, ?_⟩
    rw [Int.toNat_natCast]
    have fixA : ∀ {X Y : Hp}, But [a] X Y → FeedR X a → Fix 0 X Y := fun {X Y} b ⟨d, s, e⟩ => fixL b e
    have nrfa : rf0 ≠ a := fun z => by rw [z, ha] at nrf0; cases nrf0
    have nfra : fr0 ≠ a := fun z => by rw [z, ha] at nfr0; cases nfr0
    have flt : ∀ rs : List (List Cn.T × Cn.T × Bool), ((cols.filter fun x => !(rs.flatMap (·.1)).contains x).length ≤ 5) := fun rs => Nat.le_trans (List.length_filter_le _ _) cl5
    refine for_it (walk_range (lo := 0) (n := nt)) (fun i σ H' => ∃ (rf fr : Addr) (vr : List V) (rl : List (List Cn.T × Cn.T × Bool)) (v10 v11 v12 : Option V), σ = [some (.ref a), some (sv nm), some (.ref ab), some (.ref ws), some (.ref c), some (.int (size : Nat)), some (.ref u), some (.ref rs), some (.ref rf), some (.ref fr), v10, v11, v12, none, none] ∧
        But [a] H H' ∧ FeedR H' a ∧ H' c = some (.lst (svs cols)) ∧ H' u = some (.lst vk6) ∧ Each (KeyR H') vk6 ks6 ∧ H' rf = some (.lst vr) ∧ Each (RefR H') vr rl ∧ RefsOk ⟨nm, cols, ks6, []⟩ above rl ∧ rl.length ≤ i ∧ H' fr = some (.lst (svs (cols.filter fun x => !(rl.flatMap (·.1)).contains x))) ∧ rf ≠ a ∧ fr ≠ a)
      ⟨rf0, fr0, [], [], _, _, _, rfl, bH7.trans b8, f8, b8.at1 (b7.at ec6) nca, b8.at1 (b7.at eu6) nua, ek7.mono fun _ _ z => z.fix (fixA b8 f7), b8.at1 erf nrfa, Each.nil, ⟨by simp, by simp, List.Pairwise.nil⟩, Nat.le_refl _, by rw [b8.at1 efr nfra, show (cols.filter fun x => !((([] : List (List Cn.T × Cn.T × Bool)).flatMap (·.1)).contains x)) = cols from List.filter_eq_self.mpr fun _ _ => rfl], nrfa, nfra⟩
      (fun _ _ _ _ _ => trivial) (fun i x σ G9 G9' hi ⟨rf, fr, vr, rl, v10, v11, v12, es, b9, f9, ec9, eu9, ek9, er9, eR9, ok9, lr9, ef9, nrf, nfr⟩ y => ?_) (fun σ G9 ⟨rf, fr, vr, rl, v10, v11, v12, es, b9, f9, ec9, eu9, ek9, er9, eR9, ok9, lr9, ef9, nrf, nfr⟩ => ?_)
    · obtain ⟨rfl, rfl⟩ := y
      subst es
      have eab := b9.at1 hab naba
      have hva9 : Each (TabR G9') va above := hva.mono fun _ _ z => z.fix (fixA b9 hf)
      refine ⟨_, rfl, ab, rfl, ⟨_, SqL.of eab⟩, fun D hD => ?_⟩
      refine turns (walk_list (K := K) (a := ab) (xs := va)) (fun j H' => But [] G9' H' ∧ ∃ vs, H' D = some (.lst vs) ∧ Each (OthR H') vs ((above.take j).map oth0)) ⟨newB hD, [], upd_same, Each.nil⟩ (fun j H' _ e => SqL.of (e.1.at eab)) (fun j x H3 H3' hj ⟨b3, vs, e3, hv3⟩ y => ?_) (fun H3 ⟨b3, vs, e3, hv3⟩ => ?_)
      · obtain ⟨rfl, hx3⟩ := y
        obtain ⟨t, ht, ta, tca, tua, tra, tuk, trk, rfl, h1, h2, h3, h4, h5, h6⟩ := hva9.at hx3
        have st : above.take (j + 1) = above.take j ++ [t] := by rw [List.take_add_one, ht]; rfl
        obtain ⟨_, k0, k3⟩ := an t (List.mem_of_getElem? ht)
        obtain ⟨k1, kr, ekk⟩ : ∃ k1 kr, t.keys = k1 :: kr := by
          cases hc2 : t.keys with
          | nil => rw [hc2] at k0; simp at k0
          | cons x l => exact ⟨x, l, rfl⟩
        obtain ⟨v0, hv0, ka, rfl, eka⟩ := h4.atx (i := 0) (x := k1) (by rw [ekk]; rfl)
        refine ⟨rfl, _, rfl, ta, _, 0, _, rfl, rfl, SqT.of (b3.at h1), rfl, _, rfl, ta, _, 2, _, rfl, rfl, SqT.of (b3.at h1), rfl, tua, _, 0, _, rfl, rfl, SqT.of (b3.at h3), atI_nat hv0, ka, _, rfl, .inr (SqT.of (b3.at eka)), szl (by simp), fun q hq => ?_⟩
        rw [svs_len]
        have lv2 : vs.length = j := by
          rw [hv3.1, List.length_map, List.length_take]
          have := (List.getElem?_eq_some_iff.mp ht).1
          omega
        have j5 : j < 5 := by have := (List.getElem?_eq_some_iff.mp ht).1; omega
        refine ⟨vs, (newB hq).at e3, szt (by omega), (b3.new hq).put0 hD, _, upd_same, ?_⟩
        rw [st, List.map_append]
        exact (hv3.mono fun _ _ z => (z.fix (fixO (newB hq))).upd ((newB hq).at e3)).snoc (OthR.upd ((newB hq).at e3) ⟨q, rfl, by rw [upd_same]; unfold oth0; rw [ekk]; rfl⟩)
      · have lva : va.length = above.length := hva.1
        rw [lva, List.take_length] at hv3
        have b93 : But [a] H H3 := b9.trans (But.of b3)
        have f93 := f9.keep b3
        refine ⟨_, rfl, _, rfl, _, rfl, szl (by simp), fun q hq => ⟨szl (by simp), fun l1 hl1 => ?_⟩⟩
        have bq : But [] H3 (upd (upd H3 q (.tup [sv nm, .int (size : Nat)])) l1 (.lst [.ref q])) := (newB hq).new hl1
        have eq1 : (upd (upd H3 q (.tup [sv nm, .int (size : Nat)])) l1 (.lst [.ref q])) q = some (.tup [sv nm, .int (size : Nat)]) := (newB hl1).at upd_same
        have el1 : (upd (upd H3 q (.tup [sv nm, .int (size : Nat)])) l1 (.lst [.ref q])) l1 = some (.lst [.ref q]) := upd_same
        generalize upd (upd H3 q (.tup [sv nm, .int (size : Nat)])) l1 (.lst [.ref q]) = H10 at bq eq1 el1 ⊢
        have f10 := f93.keep bq
        have nl1a : l1 ≠ a := fun z => by obtain ⟨d, s, e⟩ := f10; rw [z, e] at el1; cases el1
        have nqa : q ≠ a := fun z => by obtain ⟨d, s, e⟩ := f10; rw [z, e] at eq1; cases eq1
        refine ⟨_, rfl, a, 3, rfl, by decide, by decide, f10, fun G11 r b11 f11 _ => ⟨rfl, .inr ⟨_, rfl, ?_⟩⟩⟩
        generalize decide (V.int ((r : Nat) : Int) = V.int 0) = own
        refine ⟨l1, _, [.ref q], rfl, rfl, b11.at1 el1 nl1a, by cases own <;> decide, by cases own <;> decide, szl (by cases own <;> simp), fun l2 hl2 => ?_⟩
        have er2 : (List.replicate ((if own = true then (1 : Int) else 0)).toNat [V.ref q]).flatten = if own then [V.ref q] else [] := by cases own <;> rfl
        rw [er2]
        have b310 : But [a] H3 G11 := (But.of bq).trans b11
        have nDa : D ≠ a := fun z => by obtain ⟨d, s, e⟩ := f9; rw [z, e] at hD; cases hD
        have eD11 := b310.at1 e3 nDa
        have hv11 : Each (OthR G11) vs (above.map oth0) := hv3.mono fun _ _ z => z.fix (by obtain ⟨d, s, e⟩ := f93; exact fixL b310 e)
        have lvs : vs.length ≤ 5 := by rw [hv3.1, List.length_map]; omega
        refine ⟨D, l2, vs, (if own then [V.ref q] else []), rfl, rfl, (newB hl2).at eD11, upd_same, szl (by cases own <;> simp <;> omega), fun l3 hl3 => ?_⟩
        have nl3a : l3 ≠ a := fun z => by obtain ⟨d, s, e⟩ := f11.keep (newB hl2); rw [z, e] at hl3; cases hl3
        have b12 : But [] G11 (upd (upd G11 l2 (.lst (if own then [V.ref q] else []))) l3 (.lst (vs ++ if own then [V.ref q] else []))) := (newB hl2).new hl3
        have el3 : (upd (upd G11 l2 (.lst (if own then [V.ref q] else []))) l3 (.lst (vs ++ if own then [V.ref q] else []))) l3 = some (.lst (vs ++ if own then [V.ref q] else [])) := upd_same
        generalize upd (upd G11 l2 (.lst (if own then [V.ref q] else []))) l3 (.lst (vs ++ if own then [V.ref q] else [])) = G12 at b12 el3 ⊢
        have f12 := f11.keep b12
        have bH12 : But [a] H G12 := (b93.trans b310).trans (But.of b12)
        have b912 : But [a] G9' G12 := ((But.of b3).trans b310).trans (But.of b12)
        have ho12 : Each (OthR G12) (vs ++ if own then [V.ref q] else []) (above.map oth0 ++ if own then [(nm, size)] else []) := by
          have z1 : Each (OthR G12) vs (above.map oth0) := hv11.mono fun _ _ z => z.fix (fixO b12)
          cases own with
          | false => simpa using z1
          | true => exact z1.snoc ⟨q, rfl, b12.at (b11.at1 eq1 nqa)⟩
        have hoN : ∀ p ∈ above.map oth0 ++ (if own then [(nm, size)] else []), isName p.1 = true ∧ p.2 ≤ 3 ∧ 1 ≤ p.2 := fun p hp => by
          rcases List.mem_append.mp hp with z | z
          · obtain ⟨t, ht, rfl⟩ := List.mem_map.mp z
            obtain ⟨z1, z2, z3⟩ := an t ht
            exact ⟨z1, z3, z2⟩
          · cases own with
            | false => simp at z
            | true => rw [List.mem_singleton.mp z]; exact ⟨nn, sz3, sz1⟩
        have lo12 : (vs ++ if own then [V.ref q] else []).length ≤ 6 := by cases own <;> simp <;> omega
        have hown : ∀ p ∈ above.map oth0 ++ (if own then [(nm, size)] else []), (∃ t ∈ above, p = oth0 t) ∨ p = (nm, size) := fun p hp => by
          rcases List.mem_append.mp hp with z | z
          · obtain ⟨t, ht, rfl⟩ := List.mem_map.mp z
            exact .inl ⟨t, ht, rfl⟩
          · cases own with
            | false => simp at z
            | true => exact .inr (List.mem_singleton.mp z)
        generalize (vs ++ if own then [V.ref q] else []) = ov at el3 ho12 lo12
        generalize (above.map oth0 ++ (if own then [(nm, size)] else [])) = ol at ho12 hoN hown
        -- if others != []
        refine ⟨_, rfl, szl (by simp), fun p hp => ?_⟩
        have bp := newB (o := .lst []) hp
        refine ⟨_, .list [], .lst (SqL.of (bp.at el3)) (dp_oth (ho12.mono fun _ _ z => z.fix (fixO bp))), .lst (SqL.of upd_same) .nil, shaped_oth _ (fun p hp => (hoN p hp).1), rfl, _, rfl, ?_⟩
        have b13 : But [a] G9' (upd G12 p (.lst [])) := b912.trans (But.of bp)
        have bH13 : But [a] H (upd G12 p (.lst [])) := bH12.trans (But.of bp)
        have f13 := f12.keep bp
        have el13 := bp.at el3
        have ho13 : Each (OthR (upd G12 p (.lst []))) ov ol := ho12.mono fun _ _ z => z.fix (fixO bp)
        generalize upd G12 p (.lst []) = G13 at b13 bH13 f13 el13 ho13 ⊢
        have ec13 := b13.at1 ec9 nca
        have eu13 := b13.at1 eu9 nua
        have ek13 : Each (KeyR G13) vk6 ks6 := ek9.mono fun _ _ z => z.fix (fixA b13 f9)
        have er13 := b13.at1 er9 nrf
        have eR13 : Each (RefR G13) vr rl := eR9.mono fun _ _ z => z.fix (fixA b13 f9)
        have ef13 := b13.at1 ef9 nfr
        cases hol : ol with
        | nil => exact iteF ⟨rf, fr, vr, rl, _, _, _, rfl, bH13, f13, ec13, eu13, ek13, er13, eR13, ok9, by omega, ef13, nrf, nfr⟩
        | cons o1 o2 =>
          refine iteT ?_
          have lov : 1 ≤ ov.length := by rw [ho13.1, hol]; simp
          refine ⟨_, rfl, _, rfl, _, rfl, _, rfl, _, rfl, _, rfl, a, l3, ov, rfl, lov, by omega, f13, nl3a, el13, fun G14 x b14 f14 hx => ?_⟩
          obtain ⟨jx, hjx⟩ := List.mem_iff_getElem?.mp hx
          obtain ⟨⟨tg, n⟩, hp2, qa, rfl, eqa⟩ := ho13.at hjx
          have pm := List.mem_of_getElem? hp2
          obtain ⟨tgn, n3, n1⟩ := hoN _ pm
          have nqaa : qa ≠ a := fun z => by obtain ⟨d, s, e⟩ := f13; rw [z, e] at eqa; cases eqa
          have ec14 := b14.at1 ec13 nca
          have eu14 := b14.at1 eu13 nua
          have ek14 : Each (KeyR G14) vk6 ks6 := ek13.mono fun _ _ z => z.fix (fixA b14 f13)
          have er14 := b14.at1 er13 nrf
          have eR14 : Each (RefR G14) vr rl := eR13.mono fun _ _ z => z.fix (fixA b14 f13)
          have ef14 := b14.at1 ef13 nfr
          have fnd : (cols.filter fun x => !(rl.flatMap (·.1)).contains x).Nodup := cnd.sublist List.filter_sublist
          refine ⟨_, rfl, a, u, qa, fr, nm, tg, n, vk6, ks6, _, rfl, f14, eu14, ek14, b14.at1 eqa nqaa, ef14, kd6.len, flt rl, fnd, by omega, fun k hk x hx => cn x ((kd6.each k hk).2.2.2 x hx), fun k hk => (kd6.each k hk).2.1, fun x hx => cn x (List.mem_filter.mp hx).1, nua, nfr, fun G15 r2 vr2 rs2 b15 f15 nr2 er2 eR2 hrs2 => ?_⟩
          have ec15 := b15.at1 ec14 nca
          have eu15 := b15.at1 eu14 nua
          have ek15 : Each (KeyR G15) vk6 ks6 := ek14.mono fun _ _ z => z.fix (fixA b15 f14)
          have er15 := b15.at1 er14 nrf
          have eR15 : Each (RefR G15) vr rl := eR14.mono fun _ _ z => z.fix (fixA b15 f14)
          have bH15 := (bH13.trans b14).trans b15
          have l2r : rl.length < 2 := by omega
          have lvr : vr.length < 2 := by rw [eR15.1]; exact l2r
          have ok15 : RefsOk ⟨nm, cols, ks6, []⟩ above (rl ++ rs2) ∧ rs2.length ≤ 1 := by
            rcases hrs2 with rfl | ⟨part, req, rfl, pl, pnd, psub, preq, pkey⟩
            · exact ⟨by rw [List.append_nil]; exact ok9, by simp⟩
            · refine ⟨?_, by simp⟩
              have tnd : ((targets req (⟨nm, cols, ks6, []⟩ : Tbl) above).map (·.name)).Nodup := by
                unfold targets
                cases req with
                | true => exact nd
                | false =>
                  rw [show (if (false = true) then above else above ++ [(⟨nm, cols, ks6, []⟩ : Tbl)]) = above ++ [⟨nm, cols, ks6, []⟩] from rfl, List.map_append]
                  exact List.nodup_append.mpr ⟨nd, by simp, fun x hx y hy e => by
                    rw [show y = nm by simpa using hy] at e
                    rw [e] at hx
                    exact nnew hx⟩
              obtain ⟨tb, htb, e1, e2⟩ : ∃ tb ∈ targets req (⟨nm, cols, ks6, []⟩ : Tbl) above, tb.name = tg ∧ (tb.keys.headD []).length = n := by
                rcases hown _ pm with ⟨t, ht, e⟩ | e
                · refine ⟨t, ?_, (congrArg (·.1) e).symm, (congrArg (·.2) e).symm⟩
                  unfold targets
                  cases req with
                  | true => exact ht
                  | false => exact List.mem_append_left _ ht
                · have e1 : tg = nm := congrArg (·.1) e
                  have e2 : n = size := congrArg (·.2) e
                  cases req with
                  | true => exact absurd e1 (preq rfl)
                  | false => exact ⟨⟨nm, cols, ks6, []⟩, List.mem_append_right _ List.mem_cons_self, e1.symm, by show (ks6.headD []).length = n; rw [hd6, ← hfirst, e2, List.length_take]; omega⟩
              have key := ref_more (free := part) ok9 l2r tnd htb (by rw [e1]; exact tgn) (by rw [e2, pl]; exact Nat.le_refl _) (by rw [e2]; exact n1) pnd (fun x hx => (List.mem_filter.mp (psub x hx)).1) (fun x hx hm => by
                have := (List.mem_filter.mp (psub x hx)).2
                rw [List.contains_iff_mem.mpr hm] at this
                cases this) pkey
              rw [e1, e2, ← pl, List.take_length] at key
              exact key
          obtain ⟨ok16, l1⟩ := ok15
          have lvr2 : vr2.length ≤ 1 := by rw [eR2.1]; exact l1
          refine ⟨rf, r2, vr, vr2, rfl, rfl, er15, er2, szl (by omega), fun l5 hl5 => ?_⟩
          have eR16 : Each (RefR (upd G15 l5 (.lst (vr ++ vr2)))) (vr ++ vr2) (rl ++ rs2) := by
            have f0 : Fix 0 G15 (upd G15 l5 (.lst (vr ++ vr2))) := fixO (newB hl5)
            have z1 : Each (RefR (upd G15 l5 (.lst (vr ++ vr2)))) vr rl := eR15.mono fun _ _ z => z.fix f0
            have z2 : Each (RefR (upd G15 l5 (.lst (vr ++ vr2)))) vr2 rs2 := eR2.mono fun _ _ z => z.fix f0
            exact each_appK z1 z2
          have lr16 : (rl ++ rs2).length ≤ i + 1 := by rw [List.length_append]; omega
          have l2v : (vr ++ vr2).length ≤ 2 := by rw [List.length_append]; omega
          have el5 : (upd G15 l5 (.lst (vr ++ vr2))) l5 = some (.lst (vr ++ vr2)) := upd_same
          have nl5a : l5 ≠ a := fun z => by obtain ⟨d, s, e⟩ := f15; rw [z, e] at hl5; cases hl5
          have f16 := f15.keep (newB (o := .lst (vr ++ vr2)) hl5)
          have ec16 := (newB (o := .lst (vr ++ vr2)) hl5).at ec15
          have eu16 := (newB (o := .lst (vr ++ vr2)) hl5).at eu15
          have ek16 : Each (KeyR (upd G15 l5 (.lst (vr ++ vr2)))) vk6 ks6 := ek15.mono fun _ _ z => z.fix (fixO (newB hl5))
          have bH16 : But [a] H (upd G15 l5 (.lst (vr ++ vr2))) := bH15.new hl5
          generalize vr ++ vr2 = vq at eR16 el5 f16 ec16 eu16 ek16 bH16 l2v ⊢
          generalize rl ++ rs2 = rq at ok16 eR16 lr16
          generalize upd G15 l5 (.lst vq) = G16 at eR16 el5 f16 ec16 eu16 ek16 bH16 ⊢
          refine ⟨_, rfl, l5, rfl, ⟨_, SqL.of el5⟩, fun D2 hD2 => ?_⟩
          refine turns (walk_list (K := K) (a := l5) (xs := vq)) (fun j H' => But [] G16 H' ∧ ∃ ls : List (Addr × List V), H' D2 = some (.lst (ls.map fun p => V.ref p.1)) ∧ (∀ p ∈ ls, H' p.1 = some (.lst p.2) ∧ p.1 ≠ D2) ∧ ls.map (·.2) = (rq.take j).map fun r => svs r.1) ⟨newB hD2, [], upd_same, by simp, rfl⟩ (fun j H' _ e => SqL.of (e.1.at el5)) (fun j x G17 G17' hj ⟨b17, ls, e17, hls, els⟩ y => ?_) (fun G17 ⟨b17, ls, e17, hls, els⟩ => ?_)
          · obtain ⟨rfl, hx3⟩ := y
            obtain ⟨rr, hrr, qa2, qc, rfl, eqa2, eqc⟩ := eR16.at hx3
            have st : rq.take (j + 1) = rq.take j ++ [rr] := by rw [List.take_add_one, hrr]; rfl
            have lls : ls.length ≤ 2 := by
              have := congrArg List.length els
              rw [List.length_map, List.length_map, List.length_take] at this
              have := ok16.len
              omega
            refine ⟨rfl, _, rfl, qa2, _, 0, _, rfl, rfl, SqT.of (b17.at eqa2), rfl, qc, _, rfl, .inr (SqT.of (b17.at eqc)), fun l6 hl6 => ?_⟩
            have nD6 : D2 ≠ l6 := ne_of_none e17 hl6
            refine ⟨_, (newB hl6).at e17, szt (by rw [List.length_map]; omega), (b17.new hl6).put0 hD2, ls ++ [(l6, svs rr.1)], by rw [upd_same, List.map_append]; rfl, fun p hp => ?_, by rw [st, List.map_append, List.map_append, els]; rfl⟩
            rcases List.mem_append.mp hp with z | z
            · obtain ⟨e, n1⟩ := hls p z
              exact ⟨by rw [upd_ne n1]; exact (newB hl6).at e, n1⟩
            · rw [List.mem_singleton.mp z]
              exact ⟨by rw [upd_ne nD6.symm, upd_same], nD6.symm⟩
          · have lq : vq.length = rq.length := eR16.1
            rw [lq, List.take_length] at els
            refine ⟨szl (by simp), fun b hb => ?_⟩
            have bb := newB (o := .lst []) hb
            have fl : (ls.map (·.2)).flatten = svs (rq.flatMap (·.1)) := by
              rw [els]
              unfold svs
              rw [List.flatMap_def, List.map_flatten, List.map_map]; rfl
            have tot : (rq.flatMap (·.1)).length ≤ 10 := by
              have z := flat_le (rs := rq) (n := 5) fun r hr => by
                have d := (ok16.each r hr).diff
                unfold areDiff at d
                rw [Bool.and_eq_true, decide_eq_true_eq] at d
                refine Nat.le_trans (nd_sub d.1 fun x hx => ?_) cl5
                have q := List.all_eq_true.mp (show (r.1.all fun o => cols.contains o) = true from d.2) x hx
                exact List.contains_iff_mem.mp q
              have := ok16.len
              omega
            have lsum : (ls.map fun p => p.2.length).sum ≤ 10 := by
              have z := congrArg List.length fl
              rw [svs_len, List.length_flatten, List.map_map] at z
              have z2 : (ls.map fun p => p.2.length).sum = (rq.flatMap (·.1)).length := z
              omega
            refine ⟨D2, b, ls, [], rfl, bb.at e17, fun p hp => bb.at (hls p hp).1, upd_same, by simp; omega, fun ru G18 b18 e18 => ?_⟩
            rw [List.nil_append, fl] at e18
            have b1618 : But [] G16 G18 := (b17.trans bb).trans b18
            have ec18 := b1618.at ec16
            refine ⟨_, rfl, c, rfl, ⟨_, SqL.of ec18⟩, fun D3 hD3 => ?_⟩
            generalize hused : rq.flatMap (·.1) = used at e18 tot fl
            refine turns (walk_list (K := K) (a := c) (xs := svs cols)) (fun j H' => But [] G18 H' ∧ H' D3 = some (.lst (svs ((cols.take j).filter fun x => !used.contains x)))) ⟨newB hD3, by rw [upd_same]; rfl⟩ (fun j H' _ e => SqL.of (e.1.at ec18)) (fun j x G19 G19' hj ⟨b19, e19⟩ y => ?_) (fun G19 ⟨b19, e19⟩ => ?_)
            · obtain ⟨rfl, hx3⟩ := y
              obtain ⟨cc, hcc, rfl⟩ := svs_get hx3
              have st : cols.take (j + 1) = cols.take j ++ [cc] := by rw [List.take_add_one, hcc]; rfl
              refine ⟨rfl, _, rfl, _, rfl, ru, _, rfl, .inl (SqL.of (b19.at e18)), rfl, flat_svs _, ?_⟩
              rw [if_pos rfl, inV_svs]
              refine ⟨_, rfl, ?_⟩
              have sf : (cols.take (j + 1)).filter (fun x => !used.contains x) = (cols.take j).filter (fun x => !used.contains x) ++ if (!used.contains cc) = true then [cc] else [] := by
                rw [st, List.filter_append, List.filter_cons]; rfl
              have lo : (svs ((cols.take j).filter fun x => !used.contains x)).length ≤ 5 := by
                rw [svs_len]
                exact Nat.le_trans (List.length_filter_le _ _) (by rw [List.length_take]; omega)
              cases hcx : (!used.contains cc) with
              | true =>
                dsimp only
                rw [if_pos rfl]
                refine ⟨_, rfl, _, e19, szt (by omega), b19.put0 hD3, ?_⟩
                rw [upd_same, sf, hcx, if_pos rfl, svs_app]; rfl
              | false =>
                dsimp only
                rw [if_neg Bool.false_ne_true]
                refine ⟨b19, ?_⟩
                rw [e19, sf, hcx, if_neg Bool.false_ne_true, List.append_nil]
            · rw [svs_len, List.take_length] at e19
              have b1619 := b1618.trans b19
              have nD3a : D3 ≠ a := fun z => by obtain ⟨d, s, e⟩ := f16.keep b1618; rw [z, e] at hD3; cases hD3
              exact ⟨l5, D3, vq, rq, _, _, _, rfl, bH16.trans (But.of b1619), f16.keep b1619, b1619.at ec16, b1619.at eu16, ek16.mono fun _ _ z => z.fix (fixO b1619), b1619.at el5, eR16.mono fun _ _ z => z.fix (fixO b1619), ok16, lr16, by rw [hused]; exact e19, nl5a, nD3a⟩
    · subst es
      have bq1 : ∀ {q : Addr}, G9 q = none → But [] G9 (upd G9 q (.tup (svs cols))) := fun h => newB h
      refine ⟨_, rfl, _, rfl, c, _, rfl, .inl ⟨SqL.of ec9, fun q1 hq1 => ?_⟩⟩
      have e1 : (upd G9 q1 (.tup (svs cols))) q1 = some (.tup (svs cols)) := upd_same
      have b1 := newB (o := .tup (svs cols)) hq1
      generalize upd G9 q1 (.tup (svs cols)) = X1 at e1 b1 ⊢
      refine ⟨_, rfl, u, _, rfl, .inl ⟨SqL.of (b1.at eu9), fun q2 hq2 => ?_⟩⟩
      have e2 : (upd X1 q2 (.tup vk6)) q2 = some (.tup vk6) := upd_same
      have b2 := b1.new (o := .tup vk6) hq2
      have e1' := (newB (o := .tup vk6) hq2).at e1
      generalize upd X1 q2 (.tup vk6) = X2 at e2 b2 e1' ⊢
      refine ⟨_, rfl, rf, _, rfl, .inl ⟨SqL.of (b2.at er9), fun q3 hq3 => ⟨szl (by simp), fun p hp => ?_⟩⟩⟩
      have b3 := (b2.new (o := .tup vr) hq3).new (o := .tup [sv nm, .ref q1, .ref q2, .ref q3]) hp
      have bz := newB (o := .tup [sv nm, .ref q1, .ref q2, .ref q3]) hp
      refine k _ (.ref p) ⟨nm, cols, ks6, rl⟩ (b9.trans (But.of b3)) (f9.keep b3) ⟨p, q1, q2, q3, vk6, vr, rfl, upd_same, bz.at ((newB hq3).at e1'), bz.at ((newB hq3).at e2), ek9.mono fun _ _ z => z.fix (fixO b3), bz.at upd_same, eR9.mono fun _ _ z => z.fix (fixO b3)⟩ rfl ?_
      exact table_of nn nnew a5 (by intro z; rw [z] at cl2; simp at cl2) cl5 cn cnd ne6 kd6.len kok1 kok2 ok9
end
end Cn
set_option Elab.async false
set_option linter.all false
set_option maxRecDepth 100000
set_option maxHeartbeats 4000000
/-! a drawn schema -/
namespace Cn
open PySem L2
theorem okTs_each : ∀ {above ts : List Tbl}, OkTs above ts → ∀ t ∈ ts, isName t.name = true ∧ 0 < (t.keys.headD []).length ∧ (t.keys.headD []).length ≤ 3 := fun {above ts} h => by
  induction h with
  | nil => intro t ht; cases ht
  | cons o _ ih =>
    intro t ht
    rcases List.mem_cons.mp ht with z | z
    · rw [z]
      refine ⟨o.name, ?_⟩
      have k0 := o.keys0
      have kk := o.keysK
      rename_i x _ _
      cases hk : x.keys with
      | nil => exact absurd hk k0
      | cons a r => exact ⟨List.length_pos_iff.mpr (kk a (by rw [hk]; simp)).1, (kk a (by rw [hk]; simp)).2.1⟩
    · exact ih t z
theorem cut_mid {ls : List Cn.T} {i j : Nat} (h : i ≤ j) (hj : j ≤ ls.length) : cutV (svs ls) (some ((i : Nat) : Int)) (some ((j : Nat) : Int)) = svs ((ls.drop i).take (j - i)) := by
  unfold cutV
  rw [HT.sIx_nat, HT.sIx_nat, svs_len, Nat.min_eq_left hj, Nat.min_eq_left (by omega)]
  unfold svs
  rw [List.map_take, List.map_drop]
theorem rot6 {ls : List Cn.T} (h : ls.Nodup) (hl : ls.length = 10) {n : Nat} (hn : n ≤ 2) : ((ls.drop n).take (6 - n) ++ ls.take n).Nodup ∧ ((ls.drop n).take (6 - n) ++ ls.take n).length = 6 ∧ ∀ x ∈ (ls.drop n).take (6 - n) ++ ls.take n, x ∈ ls.take 6 := by
  have p : ((ls.drop n).take (6 - n) ++ ls.take n).Perm (ls.take 6) := by
    refine List.perm_append_comm.trans ?_
    have e : ls.take n ++ (ls.drop n).take (6 - n) = ls.take 6 := by
      rw [← List.take_add, show n + (6 - n) = 6 by omega]
    rw [e]
  exact ⟨p.nodup_iff.mpr (h.sublist (List.take_sublist _ _)), by rw [p.length_eq, List.length_take]; omega, fun x hx => p.mem_iff.mp hx⟩
section
variable {P : Program} {w : World} {K : PySem.W.Frag} {mg : Str → Option Value} {base : Heap} {CR CT CS CI : Addr} {f : Addr} {fd : FuncData}
theorem sc__law_schema : FnScope ["feed", "words", "tables", "name", "at"] ["feed"] (defScope s__law_schema) := ⟨rfl, rfl, rfl, by decide +kernel, rfl, by decide +kernel, by decide +kernel⟩
def sp_schemaD : Sp := fun vs H Q _ => ∃ a, vs = [.ref a] ∧ FeedR H a ∧ ∀ H' r vt ts, But [a] H H' → FeedR H' a → H r = none → H' r = some (.lst vt) → Each (TabR H') vt ts → OkTs [] ts → ts ≠ [] → ts.length ≤ 4 → (ts.map (·.name)).Nodup → Q (.ref r) H'
theorem ok_schemaK (F : Fun K "_law_schema" "_law_schema" s__law_schema f fd) (T : LTx K mg CR CT CS CI) (c__law_take : Cal P w K mg base 1 "_law_take" sp_take) (c__law_words : Cal P w K mg base 4 "_law_words" sp_wordsD) (c__law_table : Cal P w K mg base 3 "_law_table" sp_tableD) :
    FnOk P w K mg base (L2.CX P w) 5 f fd ["feed"] sp_schemaD := by
  refine F.okX sc__law_schema (fun vs H Q E h => ?_) (fun cdv A outer s H vs Q E hr h => ?_)
  · obtain ⟨a, rfl, _⟩ := h
    rfl
  · obtain ⟨a, rfl, hf, k⟩ := h
    refine ⟨_, (pss_cons (ps_set (i := 1) sc__law_schema.nd rfl (Or.inl rfl) (p_call E c__law_words hr (by decide) (by rfl) (passX rfl rfl rfl (takes_of rfl rfl rfl rfl)) (pa_cons (pv 0) (pa_cons pe_int pa_nil))))
  (pss_cons (ps_set (i := 2) sc__law_schema.nd rfl (Or.inl rfl) (pe_lst pa_nil))
  (pss_cons (ps_for (passes_of rfl) (by rfl) (pi_listK K rfl (pe_slice (sl_listK K rfl) (pv 1) (po_some pe_int) (po_some (pe_op op_add pe_int (p_call E c__law_take hr (by decide) (by rfl) (passX rfl rfl rfl (takes_of rfl rfl rfl rfl)) (pa_cons (pv 0) (pa_cons pe_int pa_nil))))))) (pg_name (i := 3) sc__law_schema.nd rfl (Or.inl rfl))
  (pss_cons (ps_set (i := 4) sc__law_schema.nd rfl (Or.inl rfl) (p_call E c__law_take hr (by decide) (by rfl) (passX rfl rfl rfl (takes_of rfl rfl rfl rfl)) (pa_cons (pv 0) (pa_cons pe_int pa_nil))))
  (pss_one (ps_expr (pe_bm PySem.F.plainAttrs_list PySem.F.slot_list_append PySem.F.type_list_append mt_append (pv 2) (pa_cons (p_call E c__law_table hr (by decide) (by rfl) (passX rfl rfl rfl (takes_of rfl rfl rfl rfl)) (pa_cons (pv 0) (pa_cons (pv 3) (pa_cons (pv 2) (pa_cons (pe_op op_cat (pe_slice (sl_listK K rfl) (pv 1) (po_some (pv 4)) (po_some pe_int)) (pe_slice (sl_listK K rfl) (pv 1) po_none (po_some (pv 4)))) pa_nil))))) pa_nil))))))
  (pss_one (ps_ret (pv 2)))))), ?_⟩
    obtain ⟨d0, s0, ha⟩ := id hf
    have fresh : ∀ {H' : Hp} {x : Addr}, But [a] H H' → FeedR H' a → H' x = none → H x = none := fun {H' x} b ⟨d, s, e⟩ h => b.free h (not1 fun z => by rw [z, e] at h; cases h)
    refine ⟨_, rfl, a, rfl, hf, fun H1 wl ws b1 f1 nw e1 nm => ?_⟩
    have nwa : wl ≠ a := fun z => by rw [z, ha] at nw; cases nw
    refine ⟨szl (by simp), fun l hl => ?_⟩
    have nl : H l = none := fresh b1 f1 hl
    have nla : l ≠ a := fun z => by rw [z, ha] at nl; cases nl
    have b2 := b1.new (o := .lst []) hl
    have f2 := f1.keep (newB (o := .lst []) hl)
    have e2 := (newB (o := .lst []) hl).at e1
    have el : (upd H1 l (.lst [])) l = some (.lst []) := upd_same
    generalize upd H1 l (.lst []) = H2 at b2 f2 e2 el ⊢
    refine ⟨_, rfl, _, rfl, _, rfl, a, 4, rfl, by decide, by decide, f2, fun H3 r3 b3 f3 h3 => ?_⟩
    have e3 := b3.at1 e2 nwa
    have el3 := b3.at1 el nla
    have b03 := b2.trans b3
    refine ⟨_, _, rfl, rfl, _, rfl, wl, _, rfl, SqL.of e3, fun p hp => ?_⟩
    have ec : cutV (svs ws) (some (6 : Int)) (some ((7 : Int) + (r3 : Nat))) = svs ((ws.drop 6).take (1 + r3)) := by
      have := cut_mid (ls := ws) (i := 6) (j := 7 + r3) (by omega) (by rw [nm.len]; omega)
      rw [show 7 + r3 - 6 = 1 + r3 by omega] at this
      rwa [show (((7 + r3 : Nat)) : Int) = (7 : Int) + (r3 : Nat) by omega] at this
    rw [ec]
    have ep : (upd H3 p (.lst (svs ((ws.drop 6).take (1 + r3))))) p = some (.lst (svs ((ws.drop 6).take (1 + r3)))) := upd_same
    have b4 := b03.new (o := .lst (svs ((ws.drop 6).take (1 + r3)))) hp
    have f4 := f3.keep (newB (o := .lst (svs ((ws.drop 6).take (1 + r3)))) hp)
    have e4 := (newB (o := .lst (svs ((ws.drop 6).take (1 + r3)))) hp).at e3
    have el4 := (newB (o := .lst (svs ((ws.drop 6).take (1 + r3)))) hp).at el3
    have npa : p ≠ a := fun z => by obtain ⟨d, s, e⟩ := f3; rw [z, e] at hp; cases hp
    have npl : p ≠ l := fun z => by rw [z, el3] at hp; cases hp
    have nnd : ((ws.drop 6).take (1 + r3)).Nodup := (nm.nd.sublist (List.drop_sublist _ _)).sublist (List.take_sublist _ _)
    have nnm : ∀ x ∈ (ws.drop 6).take (1 + r3), isName x = true := fun x hx => nm.nm x (List.mem_of_mem_drop (List.mem_of_mem_take hx))
    have nlen : ((ws.drop 6).take (1 + r3)).length = 1 + r3 := by rw [List.length_take, List.length_drop, nm.len]; omega
    generalize (ws.drop 6).take (1 + r3) = nms at ep b4 f4 e4 el4 nnd nnm nlen ⊢
    generalize upd H3 p (.lst (svs nms)) = H4 at ep b4 f4 e4 el4 ⊢
    have nwl : wl ≠ l := ne_of_none e1 hl
    refine ⟨p, rfl, ⟨_, SqL.of ep⟩, ?_⟩
    refine for_it (walk_list (K := K) (a := p) (xs := svs nms)) (fun i σ H' => ∃ (vt : List V) (ts : List Tbl) (v3 v4 : Option V), σ = [some (.ref a), some (.ref wl), some (.ref l), v3, v4] ∧ But [a] H H' ∧ FeedR H' a ∧ H' p = some (.lst (svs nms)) ∧ H' wl = some (.lst (svs ws)) ∧ H' l = some (.lst vt) ∧ Each (TabR H') vt ts ∧ OkTs [] ts ∧ ts.map (·.name) = nms.take i)
      ⟨[], [], _, _, rfl, b4, f4, ep, e4, el4, Each.nil, .nil, rfl⟩ (fun i σ H' _ ⟨_, _, _, _, _, _, _, z, _⟩ => SqL.of z)
      (fun i x σ H6 H6' hi ⟨vt, ts, v3, v4, es, b6, f6, ep6, ew6, el6, et6, ok, tn⟩ y => ?_) (fun σ H6 ⟨vt, ts, v3, v4, es, b6, f6, ep6, ew6, el6, et6, ok, tn⟩ => ?_)
    · obtain ⟨rfl, hx2⟩ := y
      obtain ⟨w1, hw1, rfl⟩ := svs_get hx2
      subst es
      have i4 : i < 1 + r3 := by have := (List.getElem?_eq_some_iff.mp hw1).1; omega
      have tl : ts.length = i := by
        have := congrArg List.length tn
        rw [List.length_map, List.length_take] at this
        omega
      have tk1 : ts.map (·.name) ++ [w1] = nms.take (i + 1) := by rw [tn, List.take_add_one, hw1]; rfl
      have nnew : w1 ∉ ts.map (·.name) := fun z => by
        have h := nnd.sublist (List.take_sublist (i + 1) nms)
        rw [← tk1] at h
        exact (List.nodup_append.mp h).2.2 w1 z w1 (by simp) rfl
      refine ⟨_, rfl, a, 3, rfl, by decide, by decide, f6, fun H7 at_ b7 f7 hat => ?_⟩
      have ew7 := b7.at1 ew6 nwa
      have el7 := b7.at1 el6 nla
      have bH7 := b6.trans b7
      have et7 : Each (TabR H7) vt ts := et6.mono fun _ _ z => z.fix (by obtain ⟨d, s, e⟩ := f6; exact fixL b7 e)
      have c1 : cutV (svs ws) (some ((at_ : Nat) : Int)) (some (6 : Int)) = svs ((ws.drop at_).take (6 - at_)) := cut_mid (ls := ws) (i := at_) (j := 6) (by omega) (by rw [nm.len]; omega)
      have c2 : cutV (svs ws) none (some ((at_ : Nat) : Int)) = svs (ws.take at_) := cut_upto ws at_
      obtain ⟨r1, r2, r3'⟩ := rot6 nm.nd nm.len (show at_ ≤ 2 by omega)
      refine ⟨_, rfl, tyLs el7, _, rfl, _, rfl, _, rfl, _, rfl, _, rfl, _, rfl, _, rfl, wl, _, rfl, SqL.of ew7, fun q1 hq1 => ?_⟩
      rw [c1]
      have ew8 := (newB (o := .lst (svs ((ws.drop at_).take (6 - at_)))) hq1).at ew7
      refine ⟨_, rfl, _, rfl, _, rfl, wl, _, rfl, SqL.of ew8, fun q2 hq2 => ?_⟩
      rw [c2]
      have eq1 : (upd (upd H7 q1 (.lst (svs ((ws.drop at_).take (6 - at_))))) q2 (.lst (svs (ws.take at_)))) q1 = some (.lst (svs ((ws.drop at_).take (6 - at_)))) := (newB hq2).at upd_same
      refine ⟨q1, q2, _, _, rfl, rfl, eq1, upd_same, szl (by rw [svs_len, svs_len, ← List.length_append, r2]; omega), fun q3 hq3 => ?_⟩
      rw [← svs_app]
      have b8 : But [] H7 (upd (upd (upd H7 q1 (.lst (svs ((ws.drop at_).take (6 - at_))))) q2 (.lst (svs (ws.take at_)))) q3 (.lst (svs ((ws.drop at_).take (6 - at_) ++ ws.take at_)))) := ((newB hq1).new hq2).new hq3
      have eq3 : (upd (upd (upd H7 q1 (.lst (svs ((ws.drop at_).take (6 - at_))))) q2 (.lst (svs (ws.take at_)))) q3 (.lst (svs ((ws.drop at_).take (6 - at_) ++ ws.take at_)))) q3 = some (.lst (svs ((ws.drop at_).take (6 - at_) ++ ws.take at_))) := upd_same
      generalize (ws.drop at_).take (6 - at_) ++ ws.take at_ = wr at r1 r2 r3' eq3 b8 ⊢
      generalize upd (upd (upd H7 q1 (.lst (svs ((ws.drop at_).take (6 - at_))))) q2 (.lst (svs (ws.take at_)))) q3 (.lst (svs wr)) = H8 at eq3 b8 ⊢
      have f8 := f7.keep b8
      have nq3a : q3 ≠ a := fun z => by obtain ⟨d, s, e⟩ := f8; rw [z, e] at eq3; cases wr <;> cases eq3
      have bH8 := bH7.trans (But.of b8)
      have et8 : Each (TabR H8) vt ts := et7.mono fun _ _ z => z.fix (fixO b8)
      refine ⟨a, l, q3, w1, vt, ts, wr, rfl, f8, b8.at el7, et8, eq3, r2, r1, fun x hx => nm.nm x (List.mem_of_mem_take (r3' x hx)), nnm w1 (List.mem_of_getElem? hw1), nnew, by rw [tn]; exact nnd.sublist (List.take_sublist _ _), by omega, okTs_each ok, nla, nq3a, fun H9 v t b9 f9 ht htn hok => ?_⟩
      have el9 := b9.at1 (b8.at el7) nla
      have lvt : vt.length ≤ 4 := by rw [et8.1]; omega
      refine ⟨l, vt, v, rfl, rfl, el9, szt (by omega), vt ++ [v], ts ++ [t], _, _, rfl, ?_⟩
      have et9 : Each (TabR H9) vt ts := et8.mono fun _ _ z => z.fix (by obtain ⟨d, s, e⟩ := f8; exact fixL b9 e)
      have fx : Fix 0 H9 (upd H9 l (.lst (vt ++ [v]))) := fixL (But.refl.put (by simp)) el9
      have f10 : FeedR (upd H9 l (.lst (vt ++ [v]))) a := by obtain ⟨d, s, e⟩ := f9; exact ⟨d, s, by rw [upd_ne nla.symm]; exact e⟩
      refine ⟨(bH8.trans b9).put0 nl, f10, by rw [upd_ne npl]; exact b9.at1 (b8.at (b7.at1 ep6 npa)) npa, by rw [upd_ne nwl]; exact b9.at1 (b8.at ew7) nwa, upd_same, (et9.mono fun _ _ z => z.fix fx).snoc (ht.fix fx), ok.snoc (by simpa using hok), ?_⟩
      rw [List.map_append, ← tk1, List.map_singleton, htn]
    · subst es
      have ne : ts ≠ [] := fun z => by
        rw [z, svs_len, List.take_length] at tn
        rw [← tn] at nlen
        simp at nlen
        omega
      have nt : ts.map (·.name) = nms := by rw [tn, svs_len, List.take_length]
      refine ⟨_, rfl, k H6 l vt ts b6 f6 nl el6 et6 ok ne (by have := congrArg List.length nt; rw [List.length_map] at this; omega) (by rw [nt]; exact nnd)⟩
end
end Cn
set_option Elab.async false
set_option linter.all false
set_option maxRecDepth 100000
set_option maxHeartbeats 4000000
/-! the text of drawn tables -/
namespace Cn
open PySem L2
section
variable {K : PySem.W.Frag} {σ : L2.St} {H : Hp} {te : TE} {n i j : Nat} {a : Addr}
theorem MkL.lcT {xs : List Cn.T} {f : Cn.T → Cn.T} (hσ : σ[j]? = some (some (.ref a))) (e : H a = some (.tup (svs xs))) (he : ∀ x ∈ xs, Pt te ((wipe σ [i]).set i (some (sv x))) (f x) n) (hw : ∀ v, wipe ((wipe σ [i]).set i v) [i] = wipe σ [i]) (hz : xs.length ≤ 1000) :
    MkL (tLc (iTup K (tVar j)) (gName i) tYes te [i]) σ H (xs.map f) := fun Q q =>
  ⟨_, hσ, a, rfl, ⟨_, SqT.of e⟩, fun D hD => lcG But.refl (walk_tup (K := K) (a := a) (xs := svs xs)) (fun H' b => SqT.of (b.at e)) hw he hz q D hD⟩
theorem MkL.lcK {vk : List V} {ks : List (List Cn.T)} {f : List Cn.T → Cn.T} (hσ : σ[j]? = some (some (.ref a))) (e : H a = some (.tup vk)) (hk : Each (KeyR H) vk ks) (he : ∀ x ∈ ks, ∀ H' b, H' b = some (.tup (svs x)) → ∀ Q : VK, (∀ H'', But [] H' H'' → Q (sv (f x)) H'') → te ((wipe σ [i]).set i (some (.ref b))) H' Q) (hw : ∀ v, wipe ((wipe σ [i]).set i v) [i] = wipe σ [i]) (hz : ks.length ≤ 1000) :
    MkL (tLc (iTup K (tVar j)) (gName i) tYes te [i]) σ H (ks.map f) := fun Q q =>
  ⟨_, hσ, a, rfl, ⟨_, SqT.of e⟩, fun D hD => lc_grow (fun m => (ks[m]?).map fun x => sv (f x)) (walk_tup (K := K) (a := a) (xs := vk)) hD (fun H' b => SqT.of (b.at e)) (fun m x acc H2 H' N hm hl b hD2 y hy _ => by
      obtain ⟨rfl, hx⟩ := y
      obtain ⟨k, hk2, ka, rfl, ek⟩ := hk.at hx
      refine ⟨hw _, ?_⟩
      refine he k (List.mem_of_getElem? hk2) _ ka (b.at ek) _ fun H'' b2 => ?_
      refine lc_putG (b.trans b2) hD (b2.at hD2) ?_ fun H3 b3 h3 => hy _ H3 (by rw [hk2]; rfl) b3 h3
      have := hk.1
      have : m < vk.length := hm
      omega) fun H' b hd => by
        have e2 : (List.range vk.length).filterMap (fun m => (ks[m]?).map fun x => sv (f x)) = svs (ks.map f) := by
          rw [hk.1, range_map]
          unfold svs
          rw [List.map_map]; rfl
        rw [e2] at hd
        exact q H' D b hD hd⟩
end
theorem tableRows_le {t : Tbl} (wf : WfT t) : (tableRows t).length ≤ 12 := (rows_room wf).1
section
variable {P : Program} {w : World} {K : PySem.W.Frag} {mg : Str → Option Value} {base : Heap} {CR CT CS CI : Addr} {f : Addr} {fd : FuncData}
theorem sc__law_schema_text : FnScope ["tables", "rows", "name", "columns", "keys", "refers", "other", "needed", "word", "column", "key"] ["tables"] (defScope s__law_schema_text) := ⟨rfl, rfl, rfl, by decide +kernel, rfl, by decide +kernel, by decide +kernel⟩
def sp_stext : Sp := fun vs H Q _ => ∃ t vt ts, vs = [.ref t] ∧ H t = some (.lst vt) ∧ Each (TabR H) vt ts ∧ ts.length ≤ 5 ∧ (∀ t ∈ ts, WfT t) ∧ ∀ H', But [] H H' → Q (sv (joinT [10] (ts.flatMap tableRows))) H'
theorem ok_stext (F : Fun K "_law_schema_text" "_law_schema_text" s__law_schema_text f fd) (T : LTx K mg CR CT CS CI) : FnOk P w K mg base (L2.CX P w) 1 f fd ["tables"] sp_stext := by
  refine F.okX sc__law_schema_text (fun vs H Q E h => ?_) (fun cdv A outer s H vs Q E hr h => ?_)
  · obtain ⟨t, _, _, rfl, _⟩ := h
    rfl
  · obtain ⟨tl, vt, ts, rfl, htl, ht, h5, wf, k⟩ := h
    refine ⟨_, (pss_cons (ps_set (i := 1) sc__law_schema_text.nd rfl (Or.inl rfl) (pe_lst pa_nil))
  (pss_cons (ps_for (passes_of rfl) (by rfl) (pi_listK K rfl (pv 0)) (pg_tup (by rfl) (pgs_cons (pg_name (i := 2) sc__law_schema_text.nd rfl (Or.inl rfl)) (pgs_cons (pg_name (i := 3) sc__law_schema_text.nd rfl (Or.inl rfl)) (pgs_cons (pg_name (i := 4) sc__law_schema_text.nd rfl (Or.inl rfl)) (pgs_cons (pg_name (i := 5) sc__law_schema_text.nd rfl (Or.inl rfl)) pgs_nil)))))
  (pss_cons (ps_set (i := 1) sc__law_schema_text.nd rfl (Or.inl rfl) (pe_op op_cat (pe_op op_cat (pv 1) (pe_lst (pa_cons (pe_op op_add_str pe_str (pv 2)) pa_nil))) (pe_lc (own := [("column", 9)]) (g := gName 9) (tt := tYes) (by rfl) sc__law_schema_text.nd (pi_tupK K rfl (pv 3)) (blkOk_by (own := [("column", 9)]) (N := ["tables", "rows", "name", "columns", "keys", "refers", "other", "needed", "word", "column", "key"]) (sc := (defScope s__law_schema_text)) (by decide +kernel)) (fun _ _ _ _ _ => (pg_name (i := 9) sc__law_schema_text.nd rfl (Or.inl rfl))) (fun _ _ _ _ _ => pts_nil) (fun _ _ _ _ _ => (pe_op op_add_str pe_str (pv 9))))))
  (pss_cons (ps_set (i := 1) sc__law_schema_text.nd rfl (Or.inl rfl) (pe_op op_cat (pv 1) (pe_lc (own := [("key", 10)]) (g := gName 10) (tt := tYes) (by rfl) sc__law_schema_text.nd (pi_tupK K rfl (pv 4)) (blkOk_by (own := [("key", 10)]) (N := ["tables", "rows", "name", "columns", "keys", "refers", "other", "needed", "word", "column", "key"]) (sc := (defScope s__law_schema_text)) (by decide +kernel)) (fun _ _ _ _ _ => (pg_name (i := 10) sc__law_schema_text.nd rfl (Or.inl rfl))) (fun _ _ _ _ _ => pts_nil) (fun _ _ _ _ _ => (pe_op op_add_str pe_str (pe_joinK K rfl pe_str (pv 10)))))))
  (pss_cons (ps_for (passes_of rfl) (by rfl) (pi_tupK K rfl (pv 5)) (pg_tup (by rfl) (pgs_cons (pg_name (i := 3) sc__law_schema_text.nd rfl (Or.inl rfl)) (pgs_cons (pg_name (i := 6) sc__law_schema_text.nd rfl (Or.inl rfl)) (pgs_cons (pg_name (i := 7) sc__law_schema_text.nd rfl (Or.inl rfl)) pgs_nil))))
  (pss_cons (ps_set (i := 8) sc__law_schema_text.nd rfl (Or.inl rfl) (pe_ifExp (pt_val (pv 7)) pe_str pe_str))
  (pss_one (ps_expr (pe_bm PySem.F.plainAttrs_list PySem.F.slot_list_append PySem.F.type_list_append mt_append (pv 1) (pa_cons (pe_op op_add_str (pe_op op_add_str (pe_op op_add_str (pv 8) (pe_joinK K rfl pe_str (pv 3))) pe_str) (pv 6)) pa_nil))))))
  (pss_one (ps_expr (pe_bm PySem.F.plainAttrs_list PySem.F.slot_list_append PySem.F.type_list_append mt_append (pv 1) (pa_cons pe_str pa_nil))))))))
  (pss_one (ps_ret (pe_joinK K rfl pe_str (pv 1)))))), ?_⟩
    refine ⟨szl (by simp), fun l0 hl0 => ?_⟩
    refine ⟨_, rfl, tl, rfl, ⟨_, SqL.of ((newB hl0).at htl)⟩, ?_⟩
    refine for_it (walk_list (K := K) (a := tl) (xs := vt)) (fun i σ H' => ∃ la, (∃ v2 v3 v4 v5 v6 v7 v8, σ = [some (.ref tl), some (.ref la), v2, v3, v4, v5, v6, v7, v8, none, none]) ∧ H la = none ∧ But [] H H' ∧ H' la = some (.lst (svs ((ts.take i).flatMap tableRows))))
      ⟨l0, ⟨_, _, _, _, _, _, _, rfl⟩, hl0, newB hl0, upd_same⟩ (fun i σ H' _ ⟨_, _, _, b, _⟩ => SqL.of (b.at htl)) (fun i x σ H1 H1' hi ⟨la, ⟨v2, v3, v4, v5, v6, v7, v8, es⟩, nla, b1, e1⟩ y => ?_) (fun σ H1 ⟨la, ⟨v2, v3, v4, v5, v6, v7, v8, es⟩, nla, b1, e1⟩ => ?_)
    · obtain ⟨rfl, hx⟩ := y
      subst es
      obtain ⟨t, htt, a, ca, ua, ra, uk, rk, rfl, ha, hca, hua, huk, hra, hrk⟩ := ht.at hx
      have w := wf t (List.mem_of_getElem? htt)
      have lroom : ((ts.take i).flatMap tableRows).length ≤ 60 := (all_room (by rw [List.length_take]; omega) fun q hq => wf q (List.mem_of_mem_take hq)).1
      generalize hrows : (ts.take i).flatMap tableRows = rows0 at e1 lroom
      refine ⟨a, _, rfl, SqT.of (b1.at ha), rfl, _, _, rfl, _, _, rfl, _, _, rfl, _, _, rfl, rfl, ?_⟩
      refine sq_mk (i := 1) (MkL.cat (MkL.gv (MkL.cat (GvL.var (i := 1) rfl e1) (fun H_ b_ => MkL.gv (MkL.dsp (PtL.cons (Pt.add (Pt.lit (l := [116, 97, 98, 108, 101, 32]) (n := 6)) (Pt.var (i := 2) (l := t.name) (n := 8) rfl w.name)) PtL.nil))) (by simp; omega))) (fun H_ b_ => MkL.gv (MkL.lcT (i := 9) (j := 3) (xs := t.cols) (f := fun x => kColumn ++ x) (n := 9 + 8) rfl (b_.at (b1.at hca)) (fun x hx => Pt.add (Pt.lit (l := kColumn) (n := 9)) (Pt.var (i := 9) (l := x) (n := 8) rfl (w.col x hx))) (fun _ => rfl) (by have := w.cols; omega))) (by have := w.cols; simp; omega)) fun H3 lb b3 n3 e3 => ?_
      have b03 : But [] H H3 := b1.trans b3
      refine sq_mk (i := 1) (MkL.cat (GvL.var (i := 1) rfl e3) (fun H_ b_ => MkL.gv (MkL.lcK (i := 10) (j := 4) (ks := t.keys) (f := fun x => kKey ++ joinT [32] x) rfl (b_.at (b03.at hua)) (huk.mono fun _ _ z => z.fix (fixO (b03.trans b_))) (fun x hx H' p ep Q q => ?_) (fun _ => rfl) (by have := w.keys; omega))) (by have := w.cols; have := w.keys; simp; omega)) fun H4 lc b4 n4 e4 => ?_
      · obtain ⟨q3, qc⟩ := w.key x hx
        have q8 : ∀ c ∈ x, c.length ≤ 8 := fun c hc => w.col c (qc c hc)
        have jl := joinT_len x q8
        refine ⟨⟨_, rfl⟩, _, rfl, S [32], p, x.map S, rfl, rfl, .inr (by rw [← svs_str]; exact SqT.of ep), join_room q8 (by omega), ?_⟩
        rw [join_S]
        refine ⟨S kKey, S (joinT [32] x), rfl, rfl, szl (by rw [S_len, S_len]; have : kKey.length = 6 := rfl; omega), ?_⟩
        rw [S_app]
        exact q H' But.refl
      have b04 := b03.trans b4
      have nlc : H lc = none := b03.free n4 (by simp)
      have era := b04.at hra
      generalize hR : ((rows0 ++ [[116, 97, 98, 108, 101, 32] ++ t.name]) ++ t.cols.map fun x => kColumn ++ x) ++ t.keys.map (fun x => kKey ++ joinT [32] x) = R at e4
      have hRl : R.length ≤ 100 := by
        rw [← hR]
        have := w.cols
        have := w.keys
        simp
        omega
      have nrl : ra ≠ lc := ne_of_none hra nlc
      refine ⟨_, rfl, ra, rfl, ⟨_, SqT.of era⟩, ?_⟩
      refine for_it (walk_tup (K := K) (a := ra) (xs := rk)) (fun m σ H' => (∃ v3 v6 v7 v8, σ = [some (.ref tl), some (.ref lc), some (sv t.name), v3, some (.ref ua), some (.ref ra), v6, v7, v8, none, none]) ∧ But [lc] H4 H' ∧ H' lc = some (.lst (svs (R ++ (t.refs.take m).map refRow))))
        ⟨⟨_, _, _, _, rfl⟩, But.refl, by rw [e4]; simp⟩ (fun m σ H' _ ⟨_, b, _⟩ => SqT.of (b.at1 era nrl)) (fun m x σ H5 H5' hm ⟨⟨v3, v6, v7, v8, es⟩, b5, e5⟩ y => ?_) (fun σ H5 ⟨⟨v3, v6, v7, v8, es⟩, b5, e5⟩ => ?_)
      · obtain ⟨rfl, hx2⟩ := y
        subst es
        obtain ⟨q, hq, qa, qc, rfl, eqa, eqc⟩ := hrk.at hx2
        have eqa5 := b5.at1 (b04.at eqa) (ne_of_none eqa nlc)
        have eqc5 := b5.at1 (b04.at eqc) (ne_of_none eqc nlc)
        obtain ⟨q3, q28, qcc⟩ := w.ref q (List.mem_of_getElem? hq)
        have q8 : ∀ c ∈ q.1, c.length ≤ 8 := fun c hc => w.col c (qcc c hc)
        have jl := joinT_len q.1 q8
        have ml : m < 2 := by have := (List.getElem?_eq_some_iff.mp hq).1; have := w.refs; omega
        refine ⟨qa, _, rfl, SqT.of eqa5, rfl, _, _, rfl, _, _, rfl, _, _, rfl, rfl, ?_⟩
        have er : refRow q = (([32, 32] ++ (if q.2.2 = true then [114, 101, 102, 32] else [111, 112, 116, 105, 111, 110, 97, 108, 32])) ++ joinT [32] q.1 ++ [32, 45, 62, 32]) ++ q.2.1 := by
          unfold refRow
          cases q.2.2 <;> simp
        have sz : ∀ a b : Cn.T, a.length ≤ 200 → b.length ≤ 200 → (S a).length + (S b).length ≤ sizeLine := fun a b h h2 => szl (by rw [S_len, S_len]; omega)
        have word : ∀ Q' : VK, Q' (sv ([32, 32] ++ (if q.2.2 = true then [114, 101, 102, 32] else [111, 112, 116, 105, 111, 110, 97, 108, 32]))) H5' → tIf (tB (tVar 7)) (tC (V.str (Str.ofString "  ref "))) (tC (V.str (Str.ofString "  optional "))) [some (.ref tl), some (.ref lc), some (sv t.name), some (.ref qc), some (.ref ua), some (.ref ra), some (sv q.2.1), some (.bl q.2.2), v8, none, none] H5' Q' := fun Q' q' => by
          refine ⟨_, rfl, q.2.2, rfl, ?_⟩
          cases hc : q.2.2 with
          | true => rw [hc] at q'; exact iteT q'
          | false => rw [hc] at q'; exact iteF q'
        refine word _ ?_
        refine st_app (fi := 1) (F := lc) (l := refRow q) rfl e5 (fun Q k2 => ?_) (by rw [List.length_append, List.length_map, List.length_take]; omega) fun H6 b6 e6 => ⟨⟨_, _, _, _, rfl⟩, b5.trans b6, ?_⟩
        · rw [er] at k2
          have wl : ([32, 32] ++ (if q.2.2 = true then ([114, 101, 102, 32] : Cn.T) else [111, 112, 116, 105, 111, 110, 97, 108, 32])).length ≤ 11 := by cases q.2.2 <;> decide
          generalize ([32, 32] ++ (if q.2.2 = true then ([114, 101, 102, 32] : Cn.T) else [111, 112, 116, 105, 111, 110, 97, 108, 32])) = wd at wl k2 ⊢
          refine ⟨_, rfl, ⟨_, rfl⟩, _, rfl, S [32], qc, q.1.map S, rfl, rfl, .inr (by rw [← svs_str]; exact SqT.of eqc5), join_room q8 (by omega), ?_⟩
          rw [join_S]
          generalize joinT [32] q.1 = jn at jl k2 ⊢
          refine ⟨S wd, S jn, rfl, rfl, sz _ _ (by omega) (by omega), ?_⟩
          rw [S_app]
          refine ⟨S (wd ++ jn), S [32, 45, 62, 32], rfl, rfl, sz _ _ (by simp; omega) (by simp), ?_⟩
          rw [S_app]
          refine ⟨_, rfl, S (wd ++ jn ++ [32, 45, 62, 32]), S q.2.1, rfl, rfl, sz _ _ (by simp; omega) (by omega), ?_⟩
          rw [S_app]
          exact k2 _ But.refl
        · rw [e6]
          have st : t.refs.take (m + 1) = t.refs.take m ++ [q] := by rw [List.take_add_one, hq]; rfl
          rw [st, List.map_append, List.append_assoc]; rfl
      · subst es
        rw [hrk.1, List.take_length] at e5
        have b05 : But [] H H5 := ((But.of b04 : But [lc] H H4).trans b5).drop nlc
        refine st_app (fi := 1) (F := lc) rfl e5 (Pt.gv (Pt.lit (l := kEnd) (n := 3))) (by rw [List.length_append, List.length_map]; have := w.refs; omega) fun H6 b6 e6 => ?_
        refine ⟨lc, ⟨_, _, _, _, _, _, _, rfl⟩, nlc, ((But.of b05 : But [lc] H H5).trans b6).drop nlc, ?_⟩
        rw [e6]
        have st : ts.take (i + 1) = ts.take i ++ [t] := by rw [List.take_add_one, htt]; rfl
        rw [st, List.flatMap_append, hrows, ← hR]
        congr 3
        unfold tableRows
        simp [kTable]
    · subst es
      rw [ht.1, List.take_length] at e1
      obtain ⟨r1, r2⟩ := all_room h5 wf
      generalize ts.flatMap tableRows = R at e1 r1 r2 k
      refine ⟨⟨_, rfl⟩, _, rfl, S [10], la, R.map S, rfl, rfl, .inl (by rw [← svs_str]; exact SqL.of e1), ?_, ?_⟩
      · have z : ∀ l : List Cn.T, (∀ r ∈ l, r.length ≤ 100) → ((l.map S).map fun x => x.length).sum ≤ 100 * l.length := fun l => by
          induction l with
          | nil => intro _; simp
          | cons r l ih =>
            intro h
            have h0 := h r List.mem_cons_self
            have h1 := ih fun q hq => h q (List.mem_cons_of_mem _ hq)
            rw [List.map_cons, List.map_cons, List.sum_cons, S_len, List.length_cons]
            omega
        have z1 := z R r2
        have z2 : (R.map S).length = R.length := List.length_map ..
        rw [z2, S_len, List.length_singleton]
        omega
      · rw [join_S]
        exact k H1 b1
end
end Cn
set_option Elab.async false
set_option linter.all false
set_option maxRecDepth 100000
set_option maxHeartbeats 4000000
/-! a drawn row -/
namespace Cn
open PySem L2
section
variable {P : Program} {w : World} {K : PySem.W.Frag} {mg : Str → Option Value} {base : Heap} {CR CT CS CI : Addr} {f : Addr} {fd : FuncData}
theorem sc__law_row : FnScope ["feed", "table", "name", "columns", "keys", "refers", "cells", "some", "other", "needed", "way", "k", "column", "turn"] ["feed", "table"] (defScope s__law_row) := ⟨rfl, rfl, rfl, by decide +kernel, rfl, by decide +kernel, by decide +kernel⟩
/-- an element of a list or a tuple -/
def sp_pickQ (K : PySem.W.Frag) : Sp := fun vs H Q _ => ∃ (a b : Addr) (xs : List V), vs = [.ref a, .ref b] ∧ 1 ≤ xs.length ∧ xs.length ≤ 1000 ∧ FeedR H a ∧ ((b ≠ a ∧ H b = some (.lst xs)) ∨ H b = some (.tup xs)) ∧ ∀ H' x, But [a] H H' → FeedR H' a → x ∈ xs → Q x H'
theorem ok_pickQ (F : Fun K "_law_pick" "_law_pick" s__law_pick f fd) (T : LTx K mg CR CT CS CI) (c__law_take : Cal P w K mg base 1 "_law_take" sp_take) : FnOk P w K mg base (L2.CX P w) 2 f fd ["feed", "options"] (sp_pickQ K) := by
  refine F.okX sc__law_pick (fun vs H Q E h => ?_) (fun cdv A outer s H vs Q E hr h => ?_)
  · obtain ⟨a, b, xs, rfl, _⟩ := h
    rfl
  · obtain ⟨a, b, xs, rfl, h1, h2, hf, hb, k⟩ := h
    refine ⟨_, (pss_one (ps_ret (pe_ix (ix_seqK K rfl) (pv 1) (p_call E c__law_take hr (by decide) (by rfl) (passX rfl rfl rfl (takes_of rfl rfl rfl rfl)) (pa_cons (pv 0) (pa_cons (pe_callB (call_len_seqK K rfl) (by rfl) T.b_len (by decide +kernel) (pa_cons (pv 1) pa_nil)) pa_nil))) (fun _ _ => rfl)))), ?_⟩
    have q1 : SqL K H b xs ∨ SqT K H b xs := hb.elim (fun z => .inl (SqL.of z.2)) fun z => .inr (SqT.of z)
    refine ⟨_, rfl, _, rfl, _, rfl, b, _, rfl, q1, ?_⟩
    refine ⟨a, xs.length, rfl, h1, by omega, hf, fun H' r b1 fr hr' => ?_⟩
    have e : xs[r]? = some (xs[r]'hr') := List.getElem?_eq_getElem hr'
    have nba : b ≠ a := hb.elim (fun z => z.1) fun z y => by obtain ⟨d, s, e⟩ := hf; rw [y, e] at z; cases z
    rcases hb with ⟨_, z⟩ | z
    · exact .inl ⟨b, _, r, _, rfl, rfl, SqL.of (b1.at1 z nba), atI_nat e, k H' _ b1 fr (List.getElem_mem hr')⟩
    · exact .inr (.inl ⟨b, _, r, _, rfl, rfl, SqT.of (b1.at1 z nba), atI_nat e, k H' _ b1 fr (List.getElem_mem hr')⟩)
def sp_row : Sp := fun vs H Q _ => ∃ (a : Addr) (v : V) (t : Tbl), vs = [.ref a, v] ∧ FeedR H a ∧ TabR H v t ∧ t.cols ≠ [] ∧ t.cols.length ≤ 5 ∧ (∀ r ∈ t.refs, ∀ c ∈ r.1, c ∈ t.cols) ∧
  ∀ H' r row, But [a] H H' → FeedR H' a → H' r = some (.tup (cellVs row)) → row.length = t.cols.length → (∀ x ∈ row, CellOk x) → H r = none → Q (.ref r) H'
theorem ok_row (F : Fun K "_law_row" "_law_row" s__law_row f fd) (T : LTx K mg CR CT CS CI) (c__law_take : Cal P w K mg base 1 "_law_take" sp_take) (c__law_pickQ : Cal P w K mg base 2 "_law_pick" (sp_pickQ K)) :
    FnOk P w K mg base (L2.CX P w) 3 f fd ["feed", "table"] sp_row := by
  have c__law_pick := c__law_pickQ
  refine F.okX sc__law_row (fun vs H Q E h => ?_) (fun cdv A outer s H vs Q E hr h => ?_)
  · obtain ⟨a, v, _, rfl, _⟩ := h
    rfl
  · obtain ⟨a, v, t, rfl, hf, ⟨ta, ca, ua, ra, uk, rk, rfl, h1, h2, h3, h4, h5, h6⟩, c0, c5, rc, k⟩ := h
    refine ⟨_, (pss_cons (ps_asg (pv 1) (pg_tup (by rfl) (pgs_cons (pg_name (i := 2) sc__law_row.nd rfl (Or.inl rfl)) (pgs_cons (pg_name (i := 3) sc__law_row.nd rfl (Or.inl rfl)) (pgs_cons (pg_name (i := 4) sc__law_row.nd rfl (Or.inl rfl)) (pgs_cons (pg_name (i := 5) sc__law_row.nd rfl (Or.inl rfl)) pgs_nil))))))
  (pss_cons (ps_set (i := 6) sc__law_row.nd rfl (Or.inr rfl) (pe_callTy (call_dictPX K rfl (by rfl)) (by rfl) T.b_dict (by decide +kernel) (pa_cons (pe_lc (own := [("column", 12)]) (g := gName 12) (tt := tYes) (by rfl) sc__law_row.nd (pi_tupK K rfl (pv 3)) (blkOk_by (own := [("column", 12)]) (N := ["feed", "table", "name", "columns", "keys", "refers", "cells", "some", "other", "needed", "way", "k", "column", "turn"]) (sc := (defScope s__law_row)) (by decide +kernel)) (fun _ _ _ _ _ => (pg_name (i := 12) sc__law_row.nd rfl (Or.inl rfl))) (fun _ _ _ _ _ => pts_nil) (fun _ _ _ _ _ => (pe_tup (pa_cons (pv 12) (pa_cons (p_call E0 c__law_take hr (by decide) (by rfl) passL (pa_cons (pv 0) (pa_cons pe_int pa_nil))) pa_nil))))) pa_nil)))
  (pss_cons (ps_for (passes_of rfl) (by rfl) (pi_tupK K rfl (pv 5)) (pg_tup (by rfl) (pgs_cons (pg_name (i := 7) sc__law_row.nd rfl (Or.inl rfl)) (pgs_cons (pg_name (i := 8) sc__law_row.nd rfl (Or.inl rfl)) (pgs_cons (pg_name (i := 9) sc__law_row.nd rfl (Or.inl rfl)) pgs_nil))))
  (pss_cons (ps_set (i := 10) sc__law_row.nd rfl (Or.inl rfl) (pe_ifExp (pt_not (pt_val (pv 9))) (p_call E c__law_take hr (by decide) (by rfl) (passX rfl rfl rfl (takes_of rfl rfl rfl rfl)) (pa_cons (pv 0) (pa_cons pe_int pa_nil))) pe_int))
  (pss_one (ps_for (passes_of rfl) (by rfl) (pi_enumTK K rfl (by rfl) T.b_enumerate (pa_cons (pv 7) pa_nil)) (pg_tup (by rfl) (pgs_cons (pg_name (i := 11) sc__law_row.nd rfl (Or.inl rfl)) (pgs_cons (pg_name (i := 12) sc__law_row.nd rfl (Or.inl rfl)) pgs_nil)))
  (pss_one (ps_if (PW.pt (pw_or (pt_cmpR op_eq (pv 10) pe_int (nomark _)) (pw_or1 (PW.pt (pw_and (pt_cmpR op_eq (pv 10) pe_int (nomark _)) (pw_and (pt_cmpR op_eq (pv 11) pe_int (nomark _)) (pw_and1 (pt_cmpR op_eq (p_call E c__law_take hr (by decide) (by rfl) (passX rfl rfl rfl (takes_of rfl rfl rfl rfl)) (pa_cons (pv 0) (pa_cons pe_int pa_nil))) pe_int (nomark _)))))))))
  (pss_one (ps_asg pe_non (pg_sub (pv 6) (pv 12) (set_dict (hu1 hr)))))
  pss_nil))))))
  (pss_cons (ps_for (passes_of rfl) (by rfl) (pi_range1 (by rfl) T.b_range (pa_cons (p_call E c__law_pick hr (by decide) (by rfl) (passX rfl rfl rfl (takes_of rfl rfl rfl rfl)) (pa_cons (pv 0) (pa_cons (pe_op op_cat (pe_op op_rep (pe_lst (pa_cons pe_int pa_nil)) pe_int) (pe_lst (pa_cons pe_int (pa_cons pe_int (pa_cons pe_int pa_nil))))) pa_nil))) pa_nil)) (pg_name (i := 13) sc__law_row.nd rfl (Or.inl rfl))
  (pss_one (ps_asg (p_call E c__law_pick hr (by decide) (by rfl) (passX rfl rfl rfl (takes_of rfl rfl rfl rfl)) (pa_cons (pv 0) (pa_cons (pe_lst (pa_cons pe_non (pa_cons pe_non (pa_cons (pe_op op_pow pe_int pe_int) pa_nil)))) pa_nil))) (pg_sub (pv 6) (p_call E c__law_pick hr (by decide) (by rfl) (passX rfl rfl rfl (takes_of rfl rfl rfl rfl)) (pa_cons (pv 0) (pa_cons (pv 3) pa_nil))) (set_dict (hu1 hr))))))
  (pss_one (ps_ret (pe_callTy (call_tuple_ofK K rfl) (by rfl) T.b_tuple (by decide +kernel) (pa_cons (pe_lc (own := [("column", 12)]) (g := gName 12) (tt := tYes) (by rfl) sc__law_row.nd (pi_tupK K rfl (pv 3)) (blkOk_by (own := [("column", 12)]) (N := ["feed", "table", "name", "columns", "keys", "refers", "cells", "some", "other", "needed", "way", "k", "column", "turn"]) (sc := (defScope s__law_row)) (by decide +kernel)) (fun _ _ _ _ _ => (pg_name (i := 12) sc__law_row.nd rfl (Or.inl rfl))) (fun _ _ _ _ _ => pts_nil) (fun _ _ _ _ _ => (pe_dget (hu1 hr) (pv 6) (pv 12) (fun _ _ => rfl)))) pa_nil)))))))), ?_⟩
    obtain ⟨d0, s0, ha⟩ := id hf
    have fresh : ∀ {H' : Hp} {x : Addr}, But [a] H H' → FeedR H' a → H' x = none → H x = none := fun {H' x} b ⟨d, s, e⟩ h => b.free h (not1 fun z => by rw [z, e] at h; cases h)
    refine ⟨_, rfl, ta, _, rfl, SqT.of h1, rfl, _, _, rfl, _, _, rfl, _, _, rfl, _, _, rfl, rfl, ?_⟩
    have nca : ca ≠ a := ne_of h2 ha (by intro z; cases z)
    have nra : ra ≠ a := ne_of h5 ha (by intro z; cases z)
    refine ⟨_, rfl, ca, rfl, ⟨_, SqT.of h2⟩, fun D hD => ?_⟩
    have nDa : D ≠ a := fun z => by rw [z, ha] at hD; cases hD
    refine turns (walk_tup (K := K) (a := ca) (xs := svs t.cols)) (fun i H' => ∃ (al : List (Cn.T × Option Int)) (vs : List V), But [a] H H' ∧ FeedR H' a ∧ H' D = some (.lst vs) ∧ Each (PrR H') vs al ∧ al.map (·.1) = t.cols.take i ∧ ∀ p ∈ al, CellOk p.2) ⟨[], [], But.refl.new hD, hf.keep (newB hD), upd_same, Each.nil, rfl, by simp⟩
      (fun i H' _ ⟨_, _, b, _⟩ => SqT.of (b.at1 h2 nca)) (fun i x H1 H1' hi ⟨al, vs, b1, f1, e1, hal, hn, hok⟩ y => ?_) (fun H1 ⟨al, vs, b1, f1, e1, hal, hn, hok⟩ => ?_)
    · obtain ⟨rfl, hx⟩ := y
      obtain ⟨c, hc, rfl⟩ := svs_get hx
      refine ⟨rfl, _, rfl, _, rfl, a, 3, rfl, by decide, by decide, f1, fun H2 r b2 f2 hr3 => ⟨szl (by simp), fun q hq => ?_⟩⟩
      have lal : vs.length = i := by
        rw [hal.1, ← List.length_map (f := (·.1)), hn, List.length_take]
        have := (List.getElem?_eq_some_iff.mp hc).1
        omega
      have i5 : i < 5 := by have := (List.getElem?_eq_some_iff.mp hc).1; omega
      have e2 := b2.at1 e1 nDa
      have bq := newB (o := .tup [sv c, .int (r : Nat)]) hq
      have f3 : FeedR (upd (upd H2 q (.tup [sv c, .int (r : Nat)])) D (.lst (vs ++ [.ref q]))) a := by
        obtain ⟨d, s, e⟩ := f2.keep bq
        exact ⟨d, s, by rw [upd_ne nDa.symm]; exact e⟩
      have hal2 : Each (PrR H2) vs al := hal.mono fun _ _ z => z.fix (by obtain ⟨d, s, e⟩ := f1; exact fixL b2 e)
      refine ⟨vs, bq.at e2, szt (by omega), al ++ [(c, some ((r : Nat) : Int))], vs ++ [.ref q], ((b1.trans b2).trans (But.of bq)).put0 hD, f3, upd_same, (hal2.mono fun _ _ z => (z.fix (fixO bq)).upd (bq.at e2)).snoc (PrR.upd (bq.at e2) ⟨q, rfl, upd_same⟩), ?_, fun p hp => ?_⟩
      · rw [List.map_append, hn, List.take_add_one, hc]; rfl
      · rcases List.mem_append.mp hp with z | z
        · exact hok p z
        · rw [List.mem_singleton.mp z]
          exact ⟨by omega, by omega⟩
    · rw [svs_len, List.take_length] at hn
      obtain ⟨ps, rfl, hps⟩ := pairs_pkv (K := K) hal
      refine ⟨D, ps, al.map pkv, rfl, SqL.of e1, hps, fun d hd => ?_⟩
      have bd := newB (o := .dK (mergeK [] (al.map pkv))) hd
      have nd : H d = none := fresh b1 f1 hd
      have nda : d ≠ a := fun z => by rw [z, ha] at nd; cases nd
      have lal : al.length ≤ 5 := by
        rw [← List.length_map (f := (·.1)), hn]; exact c5
      have cd : CellsD (upd H1 d (.dK (mergeK [] (al.map pkv)))) d t.cols := by
        refine ⟨_, upd_same, ?_, merge_cells hok fun c hc => .inl (by rw [hn]; exact hc)⟩
        have := merge_len (al.map pkv) []
        rw [List.length_map, List.length_nil] at this
        omega
      have b2 : But [a] H (upd H1 d (.dK (mergeK [] (al.map pkv)))) := b1.trans (But.of bd)
      have f2 := f1.keep bd
      generalize upd H1 d (.dK (mergeK [] (al.map pkv))) = H2 at cd b2 f2 ⊢
      have keepD : ∀ {G1 G2 : Hp}, But [a] H G1 → FeedR G1 a → But [d] G1 G2 → But [a] H G2 ∧ FeedR G2 a := fun {G1 G2} b1 f1 b2 => ⟨fun y o hy e => b2 y o (fun z => by rw [List.mem_singleton.mp z, nd] at e; cases e) (b1 y o hy e), by obtain ⟨d, s, e⟩ := f1; exact ⟨d, s, b2.at1 e nda.symm⟩⟩
      have era := b2.at1 h5 nra
      refine ⟨_, rfl, ra, rfl, ⟨_, SqT.of era⟩, ?_⟩
      refine for_it (walk_tup (K := K) (a := ra) (xs := rk)) (fun i σ H' => (∃ v7 v8 v9 v10 v11 v12, σ = [some (.ref a), some (.ref ta), some (sv t.name), some (.ref ca), some (.ref ua), some (.ref ra), some (.ref d), v7, v8, v9, v10, v11, v12, none]) ∧ But [a] H H' ∧ FeedR H' a ∧ CellsD H' d t.cols)
        ⟨⟨_, _, _, _, _, _, rfl⟩, b2, f2, cd⟩ (fun i σ H' _ ⟨_, b, _⟩ => SqT.of (b.at1 h5 nra)) (fun i x σ H3 H3' hi ⟨⟨v7, v8, v9, v10, v11, v12, es⟩, b3, f3, cd3⟩ y => ?_) (fun σ H3 ⟨⟨v7, v8, v9, v10, v11, v12, es⟩, b3, f3, cd3⟩ => ?_)
      · obtain ⟨rfl, hx⟩ := y
        subst es
        obtain ⟨q, hq, qa, qc, rfl, eqa, eqc⟩ := h6.at hx
        have qm := List.mem_of_getElem? hq
        have nqaa : qa ≠ a := ne_of eqa ha (by intro z; cases z)
        have nqca : qc ≠ a := ne_of eqc ha (by intro z; cases z)
        refine ⟨qa, _, rfl, SqT.of (b3.at1 eqa nqaa), rfl, _, _, rfl, _, _, rfl, _, _, rfl, rfl, ?_⟩
        have way : ∀ Q' : VK, (∀ (G : Hp) (n : Nat), But [a] H G → FeedR G a → CellsD G d t.cols → Q' (.int (n : Nat)) G) → tIf (tNot (tB (tVar 9))) (tCall sp_take [] E (tCons (tVar 0) (tCons (tC (V.int 4)) tNil))) (tC (V.int 3)) [some (.ref a), some (.ref ta), some (sv t.name), some (.ref ca), some (.ref ua), some (.ref ra), some (.ref d), some (.ref qc), some (sv q.2.1), some (.bl q.2.2), v10, v11, v12, none] H3' Q' := fun Q' q' => by
          refine ⟨_, rfl, q.2.2, rfl, ?_⟩
          cases q.2.2 with
          | true => exact iteF (q' H3' 3 b3 f3 cd3)
          | false => exact iteT ⟨_, rfl, a, 4, rfl, by decide, by decide, f3, fun G r bG fG _ => q' G r (b3.trans bG) fG (cd3.keep fun o e => bG.at1 e nda)⟩
        refine way _ fun G n bG fG cdG => ?_
        have eqcG := bG.at1 eqc nqca
        refine ⟨_, rfl, qc, _, rfl, SqT.of eqcG, ?_⟩
        refine for_it (walk_enumT (K := K) (a := qc) (xs := svs q.1)) (fun j σ H' => (∃ v11 v12, σ = [some (.ref a), some (.ref ta), some (sv t.name), some (.ref ca), some (.ref ua), some (.ref ra), some (.ref d), some (.ref qc), some (sv q.2.1), some (.bl q.2.2), some (.int (n : Nat)), v11, v12, none]) ∧ But [a] H H' ∧ FeedR H' a ∧ CellsD H' d t.cols)
          ⟨⟨_, _, rfl⟩, bG, fG, cdG⟩ (fun j σ H' _ ⟨_, b, _⟩ => SqT.of (b.at1 eqc nqca)) (fun j x σ H4 H4' hj ⟨⟨v11, v12, es⟩, b4, f4, cd4⟩ yy => ?_) (fun σ H4 ⟨⟨v11, v12, es⟩, b4, f4, cd4⟩ => ?_)
        · obtain ⟨T0, x0, y0, rfl, hT, rfl, ex0, ey0⟩ := yy
          cases ex0
          subst es
          obtain ⟨c, hc, rfl⟩ := svs_get ey0
          have cm := rc q qm c (List.mem_of_getElem? hc)
          have bT : But [] H4 (upd H4 T0 (.tup [.int (j : Nat), sv c])) := newB hT
          refine ⟨T0, _, rfl, SqT.of upd_same, rfl, _, _, rfl, _, _, rfl, rfl, ?_⟩
          have f5 := f4.keep bT
          have b5 := b4.trans (But.of bT)
          have cd5 := cd4.keep fun o e => bT.at e
          generalize upd H4 T0 (.tup [.int (j : Nat), sv c]) = H5 at f5 b5 cd5 ⊢
          have setN : ∀ (G : Hp) (Dn : Ends) (σ : L2.St), σ[6]? = some (some (.ref d)) → σ[12]? = some (some (sv c)) → But [a] H G → FeedR G a → CellsD G d t.cols → (∀ G', But [a] H G' → FeedR G' a → CellsD G' d t.cols → Dn.nx σ G') → tAsg (tC V.non) (gSub (tVar 6) (tVar 12) rSetD) Dn σ G := fun G Dn σ s1 s2 bG fG cdG kk => by
            obtain ⟨G', dp, bd', cd'⟩ := cdG.put cm (y := none) trivial
            obtain ⟨k1, k2⟩ := keepD bG fG bd'
            exact ⟨_, s1, _, s2, d, G', rfl, dp, kk G' k1 k2 cd'⟩
          refine ⟨_, rfl, rfl, _, rfl, ?_⟩
          refine ite2 (fun _ => iteT (setN _ _ _ rfl rfl b5 f5 cd5 fun G' g1 g2 g3 => ⟨⟨_, _, rfl⟩, g1, g2, g3⟩)) (fun _ => ⟨_, rfl, rfl, _, rfl, ?_⟩)
          refine ite2 (fun _ => ⟨_, rfl, rfl, _, rfl, ?_⟩) (fun _ => iteF ⟨⟨_, _, rfl⟩, b5, f5, cd5⟩)
          refine ite2 (fun _ => ⟨_, rfl, a, 2, rfl, by decide, by decide, f5, fun G r bG fG _ => ⟨rfl, _, rfl, ?_⟩⟩) (fun _ => iteF ⟨⟨_, _, rfl⟩, b5, f5, cd5⟩)
          have cdG' := cd5.keep fun o e => bG.at1 e nda
          exact ite2 (fun _ => setN _ _ _ rfl rfl (b5.trans bG) fG cdG' fun G' g1 g2 g3 => ⟨⟨_, _, rfl⟩, g1, g2, g3⟩) (fun _ => ⟨⟨_, _, rfl⟩, b5.trans bG, fG, cdG'⟩)
        · subst es
          exact ⟨⟨_, _, _, _, _, _, rfl⟩, b4, f4, cd4⟩
      · subst es
        -- cells replaced
        refine ⟨_, rfl, szl (by simp), fun l1 hl1 => ?_⟩
        refine ⟨l1, 24, [.int 0], rfl, rfl, upd_same, by decide, by decide, szl (by simp), fun l2 hl2 => ⟨szl (by simp), fun l3 hl3 => ?_⟩⟩
        have el2 : (upd (upd (upd H3 l1 (.lst [.int 0])) l2 (.lst (List.replicate (Int.toNat 24) [V.int 0]).flatten)) l3 (.lst [.int 1, .int 2, .int 3])) l2 = some (.lst (List.replicate (Int.toNat 24) [V.int 0]).flatten) := (newB hl3).at upd_same
        have b4 : But [] H3 (upd (upd (upd H3 l1 (.lst [.int 0])) l2 (.lst (List.replicate (Int.toNat 24) [V.int 0]).flatten)) l3 (.lst [.int 1, .int 2, .int 3])) := ((newB hl1).new hl2).new hl3
        refine ⟨l2, l3, _, _, rfl, rfl, el2, upd_same, szl (by decide), fun l4 hl4 => ?_⟩
        have b5 := b4.new (o := .lst ((List.replicate (Int.toNat 24) [V.int 0]).flatten ++ [.int 1, .int 2, .int 3])) hl4
        have el4 : (upd (upd (upd (upd H3 l1 (.lst [.int 0])) l2 (.lst (List.replicate (Int.toNat 24) [V.int 0]).flatten)) l3 (.lst [.int 1, .int 2, .int 3])) l4 (.lst ((List.replicate (Int.toNat 24) [V.int 0]).flatten ++ [.int 1, .int 2, .int 3]))) l4 = some (.lst ((List.replicate (Int.toNat 24) [V.int 0]).flatten ++ [.int 1, .int 2, .int 3])) := upd_same
        generalize upd (upd (upd (upd H3 l1 (.lst [.int 0])) l2 (.lst (List.replicate (Int.toNat 24) [V.int 0]).flatten)) l3 (.lst [.int 1, .int 2, .int 3])) l4 (.lst ((List.replicate (Int.toNat 24) [V.int 0]).flatten ++ [.int 1, .int 2, .int 3])) = H5 at b5 el4 ⊢
        have f5 := f3.keep b5
        have cd5 := cd3.keep fun o e => b5.at e
        have nl4 : l4 ≠ a := fun z => by obtain ⟨d, s, e⟩ := f5; rw [z, e] at el4; cases el4
        refine ⟨a, l4, _, rfl, by decide, by decide, f5, .inl ⟨nl4, el4⟩, fun H6 x b6 f6 hx => ?_⟩
        obtain ⟨n, rfl, hn3⟩ : ∃ n : Nat, x = .int (n : Nat) ∧ n ≤ 3 := by
          rcases List.mem_append.mp hx with z | z
          · obtain ⟨y, hy, z⟩ := List.mem_flatten.mp z
            rw [(List.mem_replicate.mp hy).2] at z
            exact ⟨0, List.mem_singleton.mp z, by omega⟩
          · simp only [List.mem_cons, List.not_mem_nil, or_false] at z
            rcases z with rfl | rfl | rfl
            · exact ⟨1, rfl, by omega⟩
            · exact ⟨2, rfl, by omega⟩
            · exact ⟨3, rfl, by omega⟩
        refine ⟨_, rfl, by omega, by omega, ?_⟩
        rw [Int.toNat_natCast]
        have b06 := (b3.trans (But.of b5)).trans b6
        have cd6 := cd5.keep fun o e => b6.at1 e nda
        refine for_it (walk_range (lo := 0) (n := n)) (fun i σ H' => (∃ v13, σ = [some (.ref a), some (.ref ta), some (sv t.name), some (.ref ca), some (.ref ua), some (.ref ra), some (.ref d), v7, v8, v9, v10, v11, v12, v13]) ∧ But [a] H H' ∧ FeedR H' a ∧ CellsD H' d t.cols)
          ⟨⟨_, rfl⟩, b06, f6, cd6⟩ (fun _ _ _ _ _ => trivial) (fun i x σ H7 H7' hi ⟨⟨v13, es⟩, b7, f7, cd7⟩ y => ?_) (fun σ H7 ⟨⟨v13, es⟩, b7, f7, cd7⟩ => ?_)
        · obtain ⟨rfl, rfl⟩ := y
          subst es
          refine ⟨_, rfl, _, _, rfl, rfl, ⟨by decide, by decide, by decide⟩, szl (by simp), fun l5 hl5 => ?_⟩
          have bl := newB (o := .lst [V.non, V.non, V.int (10 ^ Int.toNat 9)]) hl5
          have f8 := f7.keep bl
          have nl5 : l5 ≠ a := fun z => by obtain ⟨d, s, e⟩ := f7; rw [z, e] at hl5; cases hl5
          refine ⟨a, l5, _, rfl, by simp, by simp, f8, .inl ⟨nl5, upd_same⟩, fun H8 y b8 f9 hy => ?_⟩
          obtain ⟨yc, rfl, hyc⟩ : ∃ yc : Option Int, y = cellV yc ∧ CellOk yc := by
            simp only [List.mem_cons, List.not_mem_nil, or_false] at hy
            rcases hy with rfl | rfl | rfl
            · exact ⟨none, rfl, trivial⟩
            · exact ⟨none, rfl, trivial⟩
            · exact ⟨some (10 ^ Int.toNat 9), rfl, by decide, by decide⟩
          have b08 := (b7.trans (But.of bl)).trans b8
          have cd8 := (cd7.keep fun o e => bl.at e).keep fun o e => b8.at1 e nda
          have c1 : 1 ≤ (svs t.cols).length := by
            rw [svs_len]
            exact List.length_pos_iff.mpr c0
          refine ⟨_, rfl, _, rfl, _, rfl, a, ca, svs t.cols, rfl, c1, by rw [svs_len]; omega, f9, .inr (b08.at1 h2 nca), fun H9 x b9 f10 hx => ?_⟩
          obtain ⟨c, hc, rfl⟩ := List.mem_map.mp hx
          have cd9 := cd8.keep fun o e => b9.at1 e nda
          obtain ⟨H10, dp, b10, cd10⟩ := cd9.put hc hyc
          obtain ⟨k1, k2⟩ := keepD (b08.trans b9) f10 b10
          exact ⟨d, H10, rfl, dp, ⟨_, rfl⟩, k1, k2, cd10⟩
        · subst es
          have eca := b7.at1 h2 nca
          refine ⟨_, rfl, ca, rfl, ⟨_, SqT.of eca⟩, fun D2 hD2 => ?_⟩
          refine turns (walk_tup (K := K) (a := ca) (xs := svs t.cols)) (fun i H' => But [] H7 H' ∧ ∃ row : Cells, H' D2 = some (.lst (cellVs row)) ∧ row.length = i ∧ ∀ x ∈ row, CellOk x) ⟨newB hD2, [], upd_same, rfl, by simp⟩ (fun i H' _ e => SqT.of (e.1.at eca)) (fun i x H8 H8' hi ⟨b8, row, e8, lr, ok8⟩ y => ?_) (fun H8 ⟨b8, row, e8, lr, ok8⟩ => ?_)
          · obtain ⟨rfl, hx⟩ := y
            obtain ⟨c, hc, rfl⟩ := svs_get hx
            obtain ⟨x, hx2, hx3⟩ := (cd7.keep fun o e => b8.at e).get (List.mem_of_getElem? hc)
            have i5 : i < 5 := by have := (List.getElem?_eq_some_iff.mp hc).1; omega
            refine ⟨rfl, _, rfl, _, rfl, d, cellV x, rfl, hx2, _, e8, szt (by unfold cellVs; rw [List.length_map]; omega), b8.put0 hD2, row ++ [x], by rw [upd_same]; unfold cellVs; rw [List.map_append]; rfl, by rw [List.length_append]; simp; omega, fun y hy => ?_⟩
            rcases List.mem_append.mp hy with z | z
            · exact ok8 y z
            · rw [List.mem_singleton.mp z]; exact hx3
          · rw [svs_len] at lr
            refine ⟨D2, _, rfl, .inl ⟨SqL.of e8, fun r hr => ?_⟩⟩
            have b9 := b8.new (o := .tup (cellVs row)) hr
            exact k _ r row (b7.trans (But.of b9)) (f7.keep b9) upd_same lr ok8 (fresh (b7.trans (But.of b8)) (f7.keep b8) hr)
end
end Cn
set_option Elab.async false
set_option linter.all false
set_option maxRecDepth 100000
set_option maxHeartbeats 4000000
/-! a drawn database -/
namespace Cn
open PySem L2
/-- what a drawn database has: for each table different rows of its width -/
def DbOk (t : Tbl) (rows : List Cells) : Prop := (∀ r ∈ rows, r.length = t.cols.length ∧ ∀ x ∈ r, CellOk x) ∧ rows.Nodup ∧ rows.length ≤ 3
def DbAll (ts : List Tbl) (es : List (Cn.T × Addr × List Cells)) : Prop := es.map (·.1) = ts.map (·.name) ∧ ∀ (i : Nat) t e, ts[i]? = some t → es[i]? = some e → DbOk t e.2.2
theorem okTs_refs : ∀ {above ts : List Tbl}, OkTs above ts → ∀ t ∈ ts, t.cols ≠ [] ∧ t.cols.length ≤ 5 ∧ ∀ r ∈ t.refs, ∀ c ∈ r.1, c ∈ t.cols := fun {above ts} h => by
  induction h with
  | nil => intro t ht; cases ht
  | cons o _ ih =>
    intro t ht
    rcases List.mem_cons.mp ht with z | z
    · rw [z]
      refine ⟨o.cols0, o.cols5, fun r hr c hc => ?_⟩
      have d := (o.refsR r hr).diff
      unfold areDiff at d
      rw [Bool.and_eq_true, decide_eq_true_eq] at d
      exact List.contains_iff_mem.mp (List.all_eq_true.mp (show (r.1.all fun q => List.contains _ q) = true from d.2) c hc)
    · exact ih t z
section
variable {P : Program} {w : World} {K : PySem.W.Frag} {mg : Str → Option Value} {base : Heap} {CR CT CS CI : Addr} {f : Addr} {fd : FuncData}
theorem sc__law_database : FnScope ["feed", "tables", "size", "found", "table", "rows", "turn", "row"] ["feed", "tables", "size"] (defScope s__law_database) := ⟨rfl, rfl, rfl, by decide +kernel, rfl, by decide +kernel, by decide +kernel⟩
def sp_dbD : Sp := fun vs H Q _ => ∃ (a tl : Addr) (vt : List V) (ts : List Tbl), vs = [.ref a, .ref tl, .int (3 : Nat)] ∧ FeedR H a ∧ H tl = some (.lst vt) ∧ tl ≠ a ∧ Each (TabR H) vt ts ∧ OkTs [] ts ∧ ts.length ≤ 4 ∧ (ts.map (·.name)).Nodup ∧
  ∀ H' d es, But [a] H H' → FeedR H' a → H d = none → DbR H' d es → DbAll ts es → (∀ e ∈ es, H e.2.1 = none) → Q (.ref d) H'
theorem ok_dbD (F : Fun K "_law_database" "_law_database" s__law_database f fd) (T : LTx K mg CR CT CS CI) (c__law_take : Cal P w K mg base 1 "_law_take" sp_take) (c__law_row : Cal P w K mg base 3 "_law_row" sp_row) :
    FnOk P w K mg base (L2.CX P w) 4 f fd ["feed", "tables", "size"] sp_dbD := by
  refine F.okX sc__law_database (fun vs H Q E h => ?_) (fun cdv A outer s H vs Q E hr h => ?_)
  · obtain ⟨a, tl, _, _, rfl, _⟩ := h
    rfl
  · obtain ⟨a, tl, vt, ts, rfl, hf, htl, nta, ht, ok, t4, nd, k⟩ := h
    refine ⟨_, (pss_cons (ps_set (i := 3) sc__law_database.nd rfl (Or.inl rfl) pe_dnewK)
  (pss_cons (ps_for (passes_of rfl) (by rfl) (pi_listK K rfl (pv 1)) (pg_name (i := 4) sc__law_database.nd rfl (Or.inl rfl))
  (pss_cons (ps_set (i := 5) sc__law_database.nd rfl (Or.inl rfl) (pe_lst pa_nil))
  (pss_cons (ps_for (passes_of rfl) (by rfl) (pi_range1 (by rfl) T.b_range (pa_cons (p_call E c__law_take hr (by decide) (by rfl) (passX rfl rfl rfl (takes_of rfl rfl rfl rfl)) (pa_cons (pv 0) (pa_cons (pe_op op_add (pv 2) pe_int) pa_nil))) pa_nil)) (pg_name (i := 6) sc__law_database.nd rfl (Or.inl rfl))
  (pss_cons (ps_set (i := 7) sc__law_database.nd rfl (Or.inl rfl) (p_call E c__law_row hr (by decide) (by rfl) (passX rfl rfl rfl (takes_of rfl rfl rfl rfl)) (pa_cons (pv 0) (pa_cons (pv 4) pa_nil))))
  (pss_one (ps_if (pt_cmpR (op_notInDK K rfl (hu64 hr)) (pv 7) (pv 5) (by rfl))
  (pss_one (ps_expr (pe_bm PySem.F.plainAttrs_list PySem.F.slot_list_append PySem.F.type_list_append mt_append (pv 5) (pa_cons (pv 7) pa_nil))))
  pss_nil))))
  (pss_one (ps_asg (pv 5) (pg_sub (pv 3) (pe_ix (ix_tupK K rfl) (pv 4) pe_int (fun _ _ => rfl)) (set_dict (hu1 hr))))))))
  (pss_one (ps_ret (pv 3))))), ?_⟩
    obtain ⟨d0, s0, ha⟩ := id hf
    have fresh : ∀ {H' : Hp} {x : Addr}, But [a] H H' → FeedR H' a → H' x = none → H x = none := fun {H' x} b ⟨d, s, e⟩ h => b.free h (not1 fun z => by rw [z, e] at h; cases h)
    intro d hd
    have b1 := newB (o := .dK []) hd
    have f1 := hf.keep b1
    have nda : d ≠ a := fun z => by rw [z, ha] at hd; cases hd
    have ed : (upd H d (.dK [])) d = some (.dK []) := upd_same
    generalize upd H d (.dK []) = H1 at b1 f1 ed ⊢
    refine ⟨_, rfl, tl, rfl, ⟨_, SqL.of (b1.at htl)⟩, ?_⟩
    refine for_it (walk_list (K := K) (a := tl) (xs := vt)) (fun i σ H' => ∃ (es : List (Cn.T × Addr × List Cells)), (∃ v4 v5 v6 v7, σ = [some (.ref a), some (.ref tl), some (.int (3 : Nat)), some (.ref d), v4, v5, v6, v7]) ∧ But [a] H H' ∧ FeedR H' a ∧ DbR H' d es ∧ DbAll (ts.take i) es ∧ ∀ e ∈ es, H e.2.1 = none)
      ⟨[], ⟨_, _, _, _, rfl⟩, But.of b1, f1, ⟨ed, by simp, List.nodup_nil⟩, ⟨rfl, by simp⟩, by simp⟩ (fun i σ H' _ ⟨_, _, b, _⟩ => SqL.of (b.at1 htl nta)) (fun i x σ H2 H2' hi ⟨es, ⟨v4, v5, v6, v7, e0⟩, b2, f2, db2, all2, fr2⟩ y => ?_) (fun σ H2 ⟨es, ⟨v4, v5, v6, v7, e0⟩, b2, f2, db2, all2, fr2⟩ => ?_)
    · obtain ⟨rfl, hx⟩ := y
      subst e0
      have ht2 : Each (TabR H2') vt ts := ht.mono fun _ _ z => z.fix (fixL b2 ha)
      obtain ⟨t, htt, htr⟩ := ht2.at hx
      obtain ⟨tc0, tc5, trc⟩ := okTs_refs ok t (List.mem_of_getElem? htt)
      refine ⟨szl (by simp), fun l hl => ?_⟩
      have nl : H l = none := fresh b2 f2 hl
      have nla : l ≠ a := fun z => by rw [z, ha] at nl; cases nl
      have b3 := newB (o := .lst []) hl
      have el : (upd H2' l (.lst [])) l = some (.lst []) := upd_same
      have nle : ∀ e ∈ es, e.2.1 ≠ l := fun e he z => by
        obtain ⟨vs, q, _⟩ := db2.rows e he
        rw [z, hl] at q
        cases q
      have nld : d ≠ l := fun z => by have := db2.at_; rw [z, hl] at this; cases this
      have db3 := db2.keep b3
      have f3 := f2.keep b3
      have bH3 := b2.trans (But.of b3)
      generalize upd H2' l (.lst []) = H3 at b3 el db3 f3 bH3 ⊢
      refine ⟨_, rfl, _, rfl, _, _, rfl, rfl, a, 4, rfl, by decide, by decide, f3, fun H4 n b4 f4 hn => ?_⟩
      refine ⟨_, rfl, by omega, by omega, ?_⟩
      rw [Int.toNat_natCast]
      have nea : ∀ e ∈ es, e.2.1 ≠ a := fun e he z => by have := fr2 e he; rw [z, ha] at this; cases this
      have db4 : DbR H4 d es := by obtain ⟨q1, q2, q⟩ := f3; exact db3.keepL b4 q nea
      have bH4 := bH3.trans b4
      refine for_it (walk_range (lo := 0) (n := n)) (fun j σ H' => ∃ rows : List Cells, (∃ v6 v7, σ = [some (.ref a), some (.ref tl), some (.int (3 : Nat)), some (.ref d), some x, some (.ref l), v6, v7]) ∧ But [a] H H' ∧ FeedR H' a ∧ DbR H' d es ∧ RwsAt H' l rows ∧ (∀ r ∈ rows, r.length = t.cols.length ∧ ∀ x ∈ r, CellOk x) ∧ rows.Nodup ∧ rows.length ≤ j)
        ⟨[], ⟨_, _, rfl⟩, bH4, f4, db4, ⟨[], b4.at1 el nla, Each.nil⟩, by simp, List.nodup_nil, Nat.le_refl _⟩ (fun _ _ _ _ _ => trivial) (fun j y σ H5 H5' hj ⟨rows, ⟨v6, v7, e0⟩, b5, f5, db5, ⟨vr, er, hr5⟩, rok, rnd, rl⟩ yy => ?_) (fun σ H5 ⟨rows, ⟨v6, v7, e0⟩, b5, f5, db5, ⟨vr, er, hr5⟩, rok, rnd, rl⟩ => ?_)
      · obtain ⟨rfl, rfl⟩ := yy
        subst e0
        have htr5 : TabR H5' x t := (ht.2 i x t hx htt).fix (fixL b5 ha)
        refine ⟨_, rfl, _, rfl, a, x, t, rfl, f5, htr5, tc0, tc5, trc, fun H6 r row b6 f6 e6 lrow okrow nr6 => ?_⟩
        have f5' := f5
        obtain ⟨q1, q2, qe⟩ := f5
        have db6 := db5.keepL b6 qe nea
        have er6 := b6.at1 er nla
        have hr6 : Each (RowV H6) vr rows := hr5.mono fun _ _ z => z.fix (fixL b6 qe)
        have lvr : vr.length ≤ 3 := by rw [hr5.1]; omega
        have lr := lay_row row
        refine ⟨_, rfl, _, rfl, rowD row, rows.map rowD, .tup (SqT.of e6) (dp_cells row), .lst (SqL.of er6) (dp_rows hr6), lr.1, lay_rows rows, by rw [lr.2]; omega, _, rfl, ?_⟩
        rw [any_row]
        refine ite2 (fun hn => ?_) (fun hn => ⟨rows, ⟨_, _, rfl⟩, b5.trans b6, f6, db6, ⟨vr, er6, hr6⟩, rok, rnd, by omega⟩)
        have hnot : row ∉ rows := by
          intro z
          rw [decide_eq_true z] at hn
          cases hn
        refine ⟨_, rfl, tyLs er6, _, rfl, l, vr, .ref r, rfl, rfl, er6, szt (by omega), rows ++ [row], ⟨_, _, rfl⟩, (b5.trans b6).put0 nl, ?_, db6.keepL (But.refl.put (by simp)) er6 nle, ⟨_, upd_same, (hr6.mono fun _ _ z => z.upd er6).snoc (RowV.upd er6 ⟨r, rfl, e6⟩)⟩, fun q hq => ?_, ?_, by rw [List.length_append]; simp; omega⟩
        · obtain ⟨d, s, e⟩ := f6
          exact ⟨d, s, by rw [upd_ne nla.symm]; exact e⟩
        · rcases List.mem_append.mp hq with z | z
          · exact rok q z
          · rw [List.mem_singleton.mp z]; exact ⟨lrow, okrow⟩
        · refine List.nodup_append.mpr ⟨rnd, by simp, fun p hp q hq z => ?_⟩
          rw [List.mem_singleton.mp hq] at z
          rw [z] at hp
          exact hnot hp
      · subst e0
        have htr5 : TabR H5 x t := (ht.2 i x t hx htt).fix (fixL b5 ha)
        obtain ⟨ta, ca, ua, ra, uk, rk, rfl, h1, _⟩ := htr5
        have hal := all2.1
        have it : i < ts.length := (List.getElem?_eq_some_iff.mp htt).1
        have st : ts.take (i + 1) = ts.take i ++ [t] := by rw [List.take_add_one, htt]; rfl
        have les : es.length = i := by
          rw [← List.length_map (f := (·.1)), hal, List.length_map, List.length_take]; omega
        have nnew : t.name ∉ es.map (·.1) := by
          rw [hal]
          intro z
          have h := nd.sublist (List.Sublist.map (·.name) (List.take_sublist (i + 1) ts))
          rw [st, List.map_append] at h
          exact (List.nodup_append.mp h).2.2 _ z t.name (by simp) rfl
        have hput := putK_new (kvs := es.map fun e => ((.inr (S e.1) : Key), V.ref e.2.1)) (k := .inr (S t.name)) (.ref l) (valV_es nnew)
        have hd5 := db5.at_
        have bz : But [d] H5 (upd H5 d (.dK (putK (es.map fun e => ((.inr (S e.1) : Key), V.ref e.2.1)) (.inr (S t.name)) (.ref l)))) := But.refl.put (by simp)
        refine ⟨_, rfl, _, rfl, _, rfl, ta, _, 0, _, rfl, rfl, SqT.of h1, rfl, d, _, rfl, .inl ⟨_, .inr (S t.name), hd5, rfl, szt (by rw [List.length_map]; omega), rfl⟩, es ++ [(t.name, l, rows)], ⟨_, _, _, _, rfl⟩, b5.put0 hd, ?_, ⟨by rw [upd_same, hput, List.map_append]; rfl, fun e he => ?_, ?_⟩, ⟨?_, fun m t' e' ht' he' => ?_⟩, fun e he => ?_⟩
        · obtain ⟨q, s, e⟩ := f5
          exact ⟨q, s, by rw [upd_ne nda.symm]; exact e⟩
        · rcases List.mem_append.mp he with z | z
          · exact (db5.rows e z).keepD bz hd5
          · rw [List.mem_singleton.mp z]
            exact RwsAt.keepD bz hd5 ⟨vr, er, hr5⟩
        · rw [List.map_append]
          refine List.nodup_append.mpr ⟨db5.apart, by simp, fun p hp q hq z => ?_⟩
          obtain ⟨e, he, rfl⟩ := List.mem_map.mp hp
          have hq : q = l := by simpa using hq
          exact nle e he (z.trans hq)
        · rw [st, List.map_append, List.map_append, hal]; rfl
        · rw [st] at ht'
          have lt' : (ts.take i).length = i := by rw [List.length_take]; omega
          by_cases c : m < i
          · rw [List.getElem?_append_left (by omega)] at ht' he'
            exact all2.2 m t' e' ht' he'
          · rw [List.getElem?_append_right (by omega)] at ht' he'
            rw [lt'] at ht'
            rw [les] at he'
            cases hm : m - i with
            | zero =>
              rw [hm] at ht' he'
              cases ht'
              cases he'
              exact ⟨rok, rnd, by show rows.length ≤ 3; omega⟩
            | succ q => rw [hm] at ht'; simp at ht'
        · rcases List.mem_append.mp he with z | z
          · exact fr2 e z
          · rw [List.mem_singleton.mp z]; exact nl
    · subst e0
      rw [ht.1, List.take_length] at all2
      exact ⟨_, rfl, k H2 d es b2 f2 hd db2 all2 fr2⟩
end
end Cn
set_option Elab.async false
set_option linter.all false
set_option maxRecDepth 100000
set_option maxHeartbeats 4000000
/-! what is a cell, a row, a list of rows: the program -/
namespace Cn
open PySem L2
section
variable {P : Program} {w : World} {K : PySem.W.Frag} {mg : Str → Option Value} {base : Heap} {CR CT CS CI : Addr} {f : Addr} {fd : FuncData}
theorem sc_is_integer : FnScope ["value"] ["value"] (defScope s_is_integer) := ⟨rfl, rfl, rfl, by decide +kernel, rfl, by decide +kernel, by decide +kernel⟩
theorem sc_is_cell : FnScope ["value"] ["value"] (defScope s_is_cell) := ⟨rfl, rfl, rfl, by decide +kernel, rfl, by decide +kernel, by decide +kernel⟩
theorem sc_is_row : FnScope ["table", "value", "cell"] ["table", "value"] (defScope s_is_row) := ⟨rfl, rfl, rfl, by decide +kernel, rfl, by decide +kernel, by decide +kernel⟩
theorem sc_are_rows : FnScope ["table", "value", "row"] ["table", "value"] (defScope s_are_rows) := ⟨rfl, rfl, rfl, by decide +kernel, rfl, by decide +kernel, by decide +kernel⟩
theorem sc__law_is_cell : FnScope ["value"] ["value"] (defScope s__law_is_cell) := ⟨rfl, rfl, rfl, by decide +kernel, rfl, by decide +kernel, by decide +kernel⟩
def sp_isint (K : PySem.W.Frag) : Sp := fun vs H Q _ => ∃ v d, vs = [v] ∧ Dp K H v d ∧ Q (.bl (match d with | .int _ => true | _ => false)) H
theorem ok_isint (F : Fun K "is_integer" "is_integer" s_is_integer f fd) (T : LTx K mg CR CT CS CI) : FnOk P w K mg base (L2.CX P w) 1 f fd ["value"] (sp_isint K) := by
  refine F.okX sc_is_integer (fun vs H Q E h => ?_) (fun cdv A outer s H vs Q E hr h => ?_)
  · obtain ⟨v, d, rfl, _⟩ := h
    rfl
  · obtain ⟨v, d, rfl, hd, k⟩ := h
    refine ⟨_, (pss_one (ps_ret (pe_and (pe_callB (call_isiK' K rfl) (by rfl) T.b_isinstance (by decide +kernel) (pa_cons (pv 0) (pa_cons (pe_bltn (v := .ty "int") (by rfl) T.b_int (by decide +kernel) rfl) pa_nil))) (pe_one (pe_not (pe_callB (call_isiK' K rfl) (by rfl) T.b_isinstance (by decide +kernel) (pa_cons (pv 0) (pa_cons (pe_bltn (v := .ty "bool") (by rfl) T.b_bool (by decide +kernel) rfl) pa_nil)))))))), ?_⟩
    have ty := Dp.ty hd
    have more : ∀ Q' : VK, subTy (dty d) "bool" = false → Q' (.bl true) H → tNotV (tCB (rIsi K) (tCons (tVar 0) (tCons (tC (V.ty "bool")) tNil))) (L2.start ["value"] [v]) H Q' := fun Q' e q => ⟨_, rfl, v, .ty "bool", _, _, _, rfl, .ty _, ty, kit_ty d (by simp), _, rfl, by rw [e]; exact q⟩
    refine ⟨_, rfl, v, .ty "int", _, _, _, rfl, .ty _, ty, kit_ty d (by simp), _, rfl, ?_⟩
    cases d with
    | int i => exact iteT (more _ rfl k)
    | bool b => exact iteT ⟨_, rfl, v, .ty "bool", _, _, _, rfl, .ty _, ty, kit_ty _ (by simp), _, rfl, k⟩
    | none => exact iteF k
    | str x => exact iteF k
    | list x => exact iteF k
    | tuple x => exact iteF k
    | dict x => exact iteF k
def sp_iscell (K : PySem.W.Frag) : Sp := fun vs H Q _ => ∃ v d, vs = [v] ∧ Dp K H v d ∧ Q (.bl (cellB d)) H
theorem ok_iscell (F : Fun K "is_cell" "is_cell" s_is_cell f fd) (T : LTx K mg CR CT CS CI) (c_is_integer : Cal P w K mg base 1 "is_integer" (sp_isint K)) : FnOk P w K mg base (L2.CX P w) 2 f fd ["value"] (sp_iscell K) := by
  refine F.okX sc_is_cell (fun vs H Q E h => ?_) (fun cdv A outer s H vs Q E hr h => ?_)
  · obtain ⟨v, d, rfl, _⟩ := h
    rfl
  · obtain ⟨v, d, rfl, hd, k⟩ := h
    refine ⟨_, (pss_cons (ps_if (pt_cmpR op_isN (pv 0) pe_non (nomark _))
  (pss_one (ps_ret pe_bl))
  pss_nil)
  (pss_one (ps_ret (pe_and (p_call E c_is_integer hr (by decide) (by rfl) (passX rfl rfl rfl (takes_of rfl rfl rfl rfl)) (pa_cons (pv 0) pa_nil)) (pe_one (pe_chain op_le op_le pe_int (pv 0) (p_gint T.g_HIGHEST))))))), ?_⟩
    refine ⟨_, rfl, rfl, _, rfl, ?_⟩
    cases hd with
    | non => exact iteT k
    | int i =>
      refine iteF ⟨_, rfl, .int i, .int i, rfl, .int i, _, rfl, iteT ?_⟩
      refine ⟨_, rfl, _, _, rfl, rfl, _, rfl, ?_⟩
      have e : cellB (.int i) = (decide (0 ≤ i) && decide (i ≤ 1000000000)) := rfl
      rw [e] at k
      cases h0 : decide ((0 : Int) ≤ i) with
      | true =>
        rw [h0, Bool.true_and] at k
        exact iteT ⟨_, _, rfl, rfl, k⟩
      | false =>
        rw [h0, Bool.false_and] at k
        exact iteF k
    | bl b => exact iteF ⟨_, rfl, .bl b, .bool b, rfl, .bl b, _, rfl, iteF k⟩
    | str x => exact iteF ⟨_, rfl, .str x, .str x, rfl, .str x, _, rfl, iteF k⟩
    | lst h1 h2 => exact iteF ⟨_, rfl, _, _, rfl, .lst h1 h2, _, rfl, iteF k⟩
    | tup h1 h2 => exact iteF ⟨_, rfl, _, _, rfl, .tup h1 h2, _, rfl, iteF k⟩
theorem ok_liscell (F : Fun K "_law_is_cell" "_law_is_cell" s__law_is_cell f fd) (T : LTx K mg CR CT CS CI) : FnOk P w K mg base (L2.CX P w) 1 f fd ["value"] (sp_iscell K) := by
  refine F.okX sc__law_is_cell (fun vs H Q E h => ?_) (fun cdv A outer s H vs Q E hr h => ?_)
  · obtain ⟨v, d, rfl, _⟩ := h
    rfl
  · obtain ⟨v, d, rfl, hd, k⟩ := h
    refine ⟨_, (pss_cons (ps_if (pt_cmpR op_isN (pv 0) pe_non (nomark _))
  (pss_one (ps_ret pe_bl))
  pss_nil)
  (pss_one (ps_ret (pe_and (pe_callB (call_isiK' K rfl) (by rfl) T.b_isinstance (by decide +kernel) (pa_cons (pv 0) (pa_cons (pe_bltn (v := .ty "int") (by rfl) T.b_int (by decide +kernel) rfl) pa_nil))) (pe_and (pe_not (pe_callB (call_isiK' K rfl) (by rfl) T.b_isinstance (by decide +kernel) (pa_cons (pv 0) (pa_cons (pe_bltn (v := .ty "bool") (by rfl) T.b_bool (by decide +kernel) rfl) pa_nil)))) (pe_one (pe_chain op_le op_le pe_int (pv 0) (pe_op op_pow pe_int pe_int)))))))), ?_⟩
    have ty := Dp.ty hd
    refine ⟨_, rfl, rfl, _, rfl, ?_⟩
    cases hd with
    | non => exact iteT k
    | int i =>
      refine iteF ⟨_, rfl, .int i, .ty "int", _, _, _, rfl, .ty _, ty, kit_ty (.int i) (by simp), _, rfl, iteT ?_⟩
      refine ⟨_, rfl, .int i, .ty "bool", _, _, _, rfl, .ty _, ty, kit_ty (.int i) (by simp), _, rfl, _, rfl, iteT ?_⟩
      refine ⟨_, rfl, _, _, rfl, rfl, _, rfl, ?_⟩
      have e : cellB (.int i) = (decide (0 ≤ i) && decide (i ≤ 1000000000)) := rfl
      rw [e] at k
      cases h0 : decide ((0 : Int) ≤ i) with
      | true =>
        rw [h0, Bool.true_and] at k
        exact iteT ⟨_, _, rfl, rfl, ⟨by decide, by decide, by decide⟩, _, _, rfl, rfl, k⟩
      | false =>
        rw [h0, Bool.false_and] at k
        exact iteF k
    | bl b => exact iteF ⟨_, rfl, .bl b, .ty "int", _, _, _, rfl, .ty _, ty, kit_ty (.bool b) (by simp), _, rfl, iteT ⟨_, rfl, .bl b, .ty "bool", _, _, _, rfl, .ty _, ty, kit_ty (.bool b) (by simp), _, rfl, _, rfl, iteF k⟩⟩
    | str x => exact iteF ⟨_, rfl, .str x, .ty "int", _, _, _, rfl, .ty _, ty, kit_ty (.str x) (by simp), _, rfl, iteF k⟩
    | lst h1 h2 => exact iteF ⟨_, rfl, _, .ty "int", _, _, _, rfl, .ty _, ty, kit_ty (.list _) (by simp), _, rfl, iteF k⟩
    | tup h1 h2 => exact iteF ⟨_, rfl, _, .ty "int", _, _, _, rfl, .ty _, ty, kit_ty (.tuple _) (by simp), _, rfl, iteF k⟩
/-- rows of any kind: a table and a value -/
def sp_isrow (K : PySem.W.Frag) (CT : Addr) : Sp := fun vs H Q _ => ∃ tv v t d, vs = [tv, v] ∧ TblR CT H tv t ∧ RowA K H v d ∧ t.cols.length ≤ 5 ∧ (∀ ds, d = .tuple ds → ds.length ≤ 100) ∧ ∀ H', But [] H H' → Q (.bl (rowB t.cols.length d)) H'
theorem ok_isrow (F : Fun K "is_row" "is_row" s_is_row f fd) (T : LTx K mg CR CT CS CI) (c_is_cell : Cal P w K mg base 2 "is_cell" (sp_iscell K)) : FnOk P w K mg base (L2.CX P w) 3 f fd ["table", "value"] (sp_isrow K CT) := by
  refine F.okX sc_is_row (fun vs H Q E h => ?_) (fun cdv A outer s H vs Q E hr h => ?_)
  · obtain ⟨tv, v, t, d, rfl, _⟩ := h
    rfl
  · obtain ⟨tv, v, t, d, rfl, ⟨ta, dx, ca, ua, ra, ks, rs, rfl, hta, hca, _⟩, hd, c5, l100, k⟩ := h
    refine ⟨_, (pss_cons (ps_if (PW.pt (pw_or (pt_not (pt_val (pe_callB (call_isiK' K rfl) (by rfl) T.b_isinstance (by decide +kernel) (pa_cons (pv 1) (pa_cons (pe_bltn (v := .ty "tuple") (by rfl) T.b_tuple (by decide +kernel) rfl) pa_nil))))) (pw_or1 (pt_cmpR op_ne (pe_callB (call_len_seqK K rfl) (by rfl) T.b_len (by decide +kernel) (pa_cons (pv 1) pa_nil)) (pe_callB (call_len_seqK K rfl) (by rfl) T.b_len (by decide +kernel) (pa_cons (pe_fldK K rfl (pv 0) rfl) pa_nil)) (nomark _)))))
  (pss_one (ps_ret pe_bl))
  pss_nil)
  (pss_one (ps_ret (pe_callB (cr_allK K rfl (by rfl)) (by rfl) T.b_all (by decide +kernel) (pa_cons (pe_lc (own := [("cell", 2)]) (g := gName 2) (tt := tYes) (by rfl) sc_is_row.nd (pi_tupK K rfl (pv 1)) (blkOk_by (own := [("cell", 2)]) (N := ["table", "value", "cell"]) (sc := (defScope s_is_row)) (by decide +kernel)) (fun _ _ _ _ _ => (pg_name (i := 2) sc_is_row.nd rfl (Or.inl rfl))) (fun _ _ _ _ _ => pts_nil) (fun _ _ _ _ _ => (p_call E0 c_is_cell hr (by decide) (by rfl) passL (pa_cons (pv 2) pa_nil)))) pa_nil))))), ?_⟩
    have ecol : ∀ {H'}, But [] H H' → SqT K H' ca (svs t.cols) := fun b => sqt_keep b hca.sq
    refine ⟨_, rfl, v, .ty "tuple", _, _, _, rfl, .ty _, RowA.ty hd, kit_ty d (by simp), _, rfl, ?_⟩
    rcases hd with hd | ⟨_, rfl⟩
    · cases hd with
      | tup hs hds =>
        rename_i a xs ds
        have lx := dps_len hds
        have l1 := l100 ds rfl
        refine iteF ⟨_, rfl, a, xs, rfl, .inr hs, _, rfl, ta, CT, dx, _, _, rfl, hta, T.clT, T.naT2, rfl, ca, _, rfl, .inr (ecol But.refl), rfl, _, rfl, ?_⟩
        rw [svs_len, nat_eq, lx]
        refine ite2 (fun hn => ?_) (fun hn => ?_)
        · have e : rowB t.cols.length (.tuple ds) = false := by
            show ((ds.length == t.cols.length) && ds.all cellB) = false
            rw [show (ds.length == t.cols.length) = false by simpa using hn, Bool.false_and]
          rw [e] at k
          exact k H But.refl
        · have e : rowB t.cols.length (.tuple ds) = ds.all cellB := by
            show ((ds.length == t.cols.length) && ds.all cellB) = _
            rw [show (ds.length == t.cols.length) = true by simpa using hn, Bool.true_and]
          rw [e] at k
          refine ⟨_, rfl, a, rfl, ⟨_, hs⟩, fun D hD => ?_⟩
          refine turns (walk_tup (K := K) (a := a) (xs := xs)) (fun i H' => But [] H H' ∧ H' D = some (.lst (((ds.take i).map cellB).map V.bl))) ⟨newB hD, upd_same⟩ (fun i H' _ e => sqt_keep e.1 hs) (fun i x H1 H1' hi ⟨b1, e1⟩ y => ?_) (fun H1 ⟨b1, e1⟩ => ?_)
          · obtain ⟨rfl, hx⟩ := y
            obtain ⟨dd, hdd, hdp⟩ := dps_at hds hx
            have st : ds.take (i + 1) = ds.take i ++ [dd] := by rw [List.take_add_one, hdd]; rfl
            refine ⟨rfl, _, rfl, x, dd, rfl, dp_later b1 hdp, _, e1, szt (by rw [List.length_map, List.length_map, List.length_take]; omega), b1.put0 hD, ?_⟩
            rw [upd_same, st, List.map_append, List.map_append]; rfl
          · rw [lx, List.take_length] at e1
            refine ⟨D, ds.map cellB, rfl, SqL.of e1, ?_⟩
            rw [List.all_map]
            exact k H1 b1
      | non => exact iteT (k H But.refl)
      | int i => exact iteT (k H But.refl)
      | bl b => exact iteT (k H But.refl)
      | str x => exact iteT (k H But.refl)
      | lst h1 h2 => exact iteT (k H But.refl)
    · exact iteT (k H But.refl)
/-- a table and a value: a list of different rows -/
def sp_arerows (K : PySem.W.Frag) (CT : Addr) : Sp := fun vs H Q _ => ∃ tv v t d, vs = [tv, v] ∧ TblR CT H tv t ∧ RowsA K H v d ∧ t.cols.length ≤ 5 ∧ (∀ ds, d = .list ds → ds.length < 64 ∧ ∀ x ∈ ds, ∀ es, x = .tuple es → es.length ≤ 100) ∧ ∀ H', But [] H H' → Q (.bl (rowsB t.cols.length d)) H'
theorem ok_arerows (F : Fun K "are_rows" "are_rows" s_are_rows f fd) (T : LTx K mg CR CT CS CI) (c_is_row : Cal P w K mg base 3 "is_row" (sp_isrow K CT)) : FnOk P w K mg base (L2.CX P w) 4 f fd ["table", "value"] (sp_arerows K CT) := by
  refine F.okX sc_are_rows (fun vs H Q E h => ?_) (fun cdv A outer s H vs Q E hr h => ?_)
  · obtain ⟨tv, v, t, d, rfl, _⟩ := h
    rfl
  · obtain ⟨tv, v, t, d, rfl, ht, hd, c5, ld, k⟩ := h
    refine ⟨_, (pss_cons (ps_if (PW.pt (pw_or (pt_not (pt_val (pe_callB (call_isiK' K rfl) (by rfl) T.b_isinstance (by decide +kernel) (pa_cons (pv 1) (pa_cons (pe_bltn (v := .ty "list") (by rfl) T.b_list (by decide +kernel) rfl) pa_nil))))) (pw_or1 (pt_not (pt_val (pe_callB (cr_allK K rfl (by rfl)) (by rfl) T.b_all (by decide +kernel) (pa_cons (pe_lc (own := [("row", 2)]) (g := gName 2) (tt := tYes) (by rfl) sc_are_rows.nd (pi_listK K rfl (pv 1)) (blkOk_by (own := [("row", 2)]) (N := ["table", "value", "row"]) (sc := (defScope s_are_rows)) (by decide +kernel)) (fun _ _ _ _ _ => (pg_name (i := 2) sc_are_rows.nd rfl (Or.inl rfl))) (fun _ _ _ _ _ => pts_nil) (fun _ _ _ _ _ => (p_call E0 c_is_row hr (by decide) (by rfl) passL (pa_cons (pv 0) (pa_cons (pv 2) pa_nil))))) pa_nil)))))))
  (pss_one (ps_ret pe_bl))
  pss_nil)
  (pss_one (ps_ret (pe_cmpR op_eq (p_lenSetR K rfl (hu64 hr) (by rfl) (by rfl) T.b_len (by rfl) T.b_set (pv 1)) (pe_callB (call_len_seqK K rfl) (by rfl) T.b_len (by decide +kernel) (pa_cons (pv 1) pa_nil)) (nomark _))))), ?_⟩
    refine ⟨_, rfl, v, .ty "list", _, _, _, rfl, .ty _, RowsA.ty hd, kit_ty d (by simp), _, rfl, ?_⟩
    cases d with
    | list ds =>
      obtain ⟨a, xs, rfl, hs, hl, hx⟩ := hd.list
      obtain ⟨l64, l100⟩ := ld ds rfl
      refine iteF ⟨_, rfl, a, rfl, ⟨_, hs⟩, fun D hD => ?_⟩
      refine turns (walk_list (K := K) (a := a) (xs := xs)) (fun i H' => But [] H H' ∧ H' D = some (.lst (((ds.take i).map (rowB t.cols.length)).map V.bl))) ⟨newB hD, upd_same⟩ (fun i H' _ e => sql_keep e.1 hs) (fun i x H1 H1' hi ⟨b1, e1⟩ y => ?_) (fun H1 ⟨b1, e1⟩ => ?_)
      · obtain ⟨rfl, hxx⟩ := y
        obtain ⟨dd, hdd, hdr⟩ := hx i x hxx
        have st : ds.take (i + 1) = ds.take i ++ [dd] := by rw [List.take_add_one, hdd]; rfl
        refine ⟨rfl, _, rfl, _, rfl, tv, x, t, dd, rfl, ht.fix T.nT b1.fix0, hdr.later b1, c5, fun es e => l100 dd (List.mem_of_getElem? hdd) es e, fun H2 b2 => ?_⟩
        refine ⟨_, b2.at e1, szt (by rw [List.length_map, List.length_map, List.length_take]; omega), (b1.trans b2).put0 hD, ?_⟩
        rw [upd_same, st, List.map_append, List.map_append]; rfl
      · rw [hl, List.take_length] at e1
        refine ⟨D, ds.map (rowB t.cols.length), rfl, SqL.of e1, _, rfl, ?_⟩
        rw [List.all_map]
        have eall : ds.all (id ∘ rowB t.cols.length) = ds.all (rowB t.cols.length) := rfl
        rw [eall]
        cases hall : ds.all (rowB t.cols.length) with
        | false =>
          have e : rowsB t.cols.length (.list ds) = false := by
            show (ds.all (rowB t.cols.length) && decide ((ds.map toCells).Nodup)) = false
            rw [hall, Bool.false_and]
          rw [e] at k
          exact iteT (k H1 b1)
        | true =>
          have e : rowsB t.cols.length (.list ds) = decide ((ds.map toCells).Nodup) := by
            show (ds.all (rowB t.cols.length) && decide ((ds.map toCells).Nodup)) = _
            rw [hall, Bool.true_and]
          rw [e] at k
          obtain ⟨ks, h1, h2, h3⟩ := rows_ks hl hx hall
          have lk : ks.length = ds.length := by rw [← List.length_map (f := (·.2)), h2, List.length_map]
          refine iteF ⟨_, rfl, a, ks, rfl, by rw [← h1]; exact sql_keep b1 hs, fun p hp => sqt_keep b1 (h3 p hp), by omega, fun n hn hiff => ?_⟩
          refine ⟨_, rfl, a, xs, rfl, .inl (sql_keep b1 hs), rfl, ?_⟩
          rw [hl, ← lk, nat_eq]
          have e2 : (n == ks.length) = decide ((ds.map toCells).Nodup) := by
            rw [Bool.eq_iff_iff, beq_iff_eq, decide_eq_true_iff, ← h2]
            exact hiff
          rw [e2]
          exact k H1 b1
    | none => exact iteT (k H But.refl)
    | int i => exact iteT (k H But.refl)
    | bool b => exact iteT (k H But.refl)
    | str x => exact iteT (k H But.refl)
    | tuple x => exact iteT (k H But.refl)
    | dict x => exact iteT (k H But.refl)
end
end Cn
set_option Elab.async false
set_option linter.all false
set_option maxRecDepth 100000
set_option maxHeartbeats 1000000
/-! what is a database: the program -/
namespace Cn
open PySem L2
section
variable {P : Program} {w : World} {K : PySem.W.Frag} {mg : Str → Option Value} {base : Heap} {CR CT CS CI : Addr} {f : Addr} {fd : FuncData}
theorem sc_is_database : FnScope ["schema", "value", "table"] ["schema", "value"] (defScope s_is_database) := ⟨rfl, rfl, rfl, by decide +kernel, rfl, by decide +kernel, by decide +kernel⟩
def tlen (ts : List Tbl) : List (Str × Nat) := ts.map fun t => (S t.name, t.cols.length)
def sp_isdb (K : PySem.W.Frag) (w : World) (CS CT : Addr) : Sp := fun vs H Q _ => ∃ sv v ts o, vs = [sv, v] ∧ SchR CS CT H sv ts ∧ MayR K w H v o ∧ BndO o ∧ (∀ t ∈ ts, t.cols.length ≤ 5) ∧ ts.length ≤ 5 ∧ ∀ H', But [] H H' → Q (.bl (dbB ts.length (tlen ts) o)) H'
def oneB (es : List (NK × PyData)) (t : Tbl) : Bool := match valE es (.text (S t.name)) with
  | none => false
  | some e => rowsB t.cols.length e
theorem ok_isdb (F : Fun K "is_database" "is_database" s_is_database f fd) (T : LTx K mg CR CT CS CI) (c_are_rows : Cal P w K mg base 4 "are_rows" (sp_arerows K CT)) : FnOk P w K mg base (L2.CX P w) 5 f fd ["schema", "value"] (sp_isdb K w CS CT) := by
  refine F.okX sc_is_database (fun vs H Q E h => ?_) (fun cdv A outer s H vs Q E hr h => ?_)
  · obtain ⟨sv, v, ts, o, rfl, _⟩ := h
    rfl
  · obtain ⟨sv, v, ts, o, rfl, ⟨sa, dx, tt, vt, rfl, hs, htt, et⟩, ho, hb, h5, hl, k⟩ := h
    refine ⟨_, (pss_cons (ps_if (PW.pt (pw_or (pt_not (pt_val (pe_callB (call_isiX (K := K) (w := w) rfl rfl) (by rfl) T.b_isinstance (by decide +kernel) (pa_cons (pv 1) (pa_cons (pe_bltn (v := .ty "dict") (by rfl) T.b_dict (by decide +kernel) rfl) pa_nil))))) (pw_or1 (pt_cmpR op_ne (pe_callB (call_lenX (w := w) rfl) (by rfl) T.b_len (by decide +kernel) (pa_cons (pv 1) pa_nil)) (pe_callB (call_len_seqK K rfl) (by rfl) T.b_len (by decide +kernel) (pa_cons (pe_fldK K rfl (pv 0) rfl) pa_nil)) (nomark _)))))
  (pss_one (ps_ret pe_bl))
  pss_nil)
  (pss_one (ps_ret (pe_callB (cr_allK K rfl (by rfl)) (by rfl) T.b_all (by decide +kernel) (pa_cons (pe_lc (own := [("table", 2)]) (g := gName 2) (tt := tYes) (by rfl) sc_is_database.nd (pi_tupK K rfl (pe_fldK K rfl (pv 0) rfl)) (blkOk_by (own := [("table", 2)]) (N := ["schema", "value", "table"]) (sc := (defScope s_is_database)) (by decide +kernel)) (fun _ _ _ _ _ => (pg_name (i := 2) sc_is_database.nd rfl (Or.inl rfl))) (fun _ _ _ _ _ => pts_nil) (fun _ _ _ _ _ => (pe_and (pe_cmp (pc_xin (w := w) rfl hr.units (pe_fldK K rfl (pv 2) rfl) (pv 1))) (pe_one (p_call E0 c_are_rows hr (by decide) (by rfl) passL (pa_cons (pv 2) (pa_cons (pe_xget (w := w) rfl hr.units (pv 1) (pe_fldK K rfl (pv 2) rfl) (fun _ _ => rfl)) pa_nil))))))) pa_nil))))), ?_⟩
    refine ⟨_, rfl, ho.isd ⟨_, rfl, ?_⟩⟩
    cases o with
    | plain d => exact iteT (k H But.refl)
    | dict es =>
      obtain ⟨a, g, rfl, hd, hg⟩ := ho.dx
      refine iteF ⟨_, rfl, a, es.length, g, rfl, hd, _, rfl, sa, CS, dx, _, _, rfl, hs, T.clS, T.naS1, sf_tables, tt, _, rfl, .inr (SqT.of htt), rfl, _, rfl, ?_⟩
      rw [nat_eq]
      have lv : vt.length = ts.length := et.1
      have lt : (tlen ts).length = ts.length := by unfold tlen; rw [List.length_map]
      have edb : dbB ts.length (tlen ts) (.dict es) = ((es.length == ts.length) && ts.all (oneB es)) := by
        show ((es.length == ts.length) && (tlen ts).all _) = _
        unfold tlen
        rw [List.all_map]; rfl
      rw [edb] at k
      rw [lv]
      refine ite2 (fun hn => ?_) (fun hn => ?_)
      · rw [show (es.length == ts.length) = false by simpa using hn, Bool.false_and] at k
        exact k H But.refl
      · rw [show (es.length == ts.length) = true by simpa using hn, Bool.true_and] at k
        refine ⟨_, rfl, sa, CS, dx, _, _, rfl, hs, T.clS, T.naS1, sf_tables, tt, rfl, ⟨_, SqT.of htt⟩, fun D hD => ?_⟩
        refine turns (walk_tup (K := K) (a := tt) (xs := vt)) (fun i H' => But [] H H' ∧ H' D = some (.lst (((ts.take i).map (oneB es)).map V.bl))) ⟨newB hD, upd_same⟩ (fun i H' _ e => sqt_keep e.1 (SqT.of htt)) (fun i x H1 H1' hi ⟨b1, e1⟩ y => ?_) (fun H1 ⟨b1, e1⟩ => ?_)
        · obtain ⟨rfl, hxx⟩ := y
          obtain ⟨t, htm, hx⟩ := et.at hxx
          have st : ts.take (i + 1) = ts.take i ++ [t] := by rw [List.take_add_one, htm]; rfl
          have hx1 := hx.fix T.nT b1.fix0
          obtain ⟨ta, dxt, ca, ua, ra, ks, rs, rfl, hta, hca, _⟩ := id hx1
          have put : ∀ (b : Bool) H2, oneB es t = b → But [] H1' H2 → ∃ ys, H2 D = some (.lst ys) ∧ ys.length < sizeLine ∧ (But [] H (upd H2 D (.lst (ys ++ [.bl b]))) ∧ upd H2 D (.lst (ys ++ [.bl b])) D = some (.lst (((ts.take (i + 1)).map (oneB es)).map V.bl))) := fun b H2 e b2 => by
            refine ⟨_, b2.at e1, szt (by rw [List.length_map, List.length_map, List.length_take]; omega), (b1.trans b2).put0 hD, ?_⟩
            rw [upd_same, st, List.map_append, List.map_append, ← e]; rfl
          have hd1 := hd.later b1
          have hz := RelE.later b1 (hg (S t.name))
          refine ⟨rfl, _, rfl, ta, CT, dxt, _, _, rfl, hta, T.clT, T.naT1, tf_name, _, rfl, a, es.length, g, S t.name, rfl, rfl, hd1, _, rfl, ?_⟩
          rw [RelE.some hz]
          cases hv : valE es (.text (S t.name)) with
          | none =>
            have e : oneB es t = false := by unfold oneB; rw [hv]
            exact iteF (put false _ e But.refl)
          | some e0 =>
            have e : oneB es t = rowsB t.cols.length e0 := by unfold oneB; rw [hv]
            rw [hv] at hz
            cases hgz : g (S t.name) with
            | none => rw [hgz] at hz; exact hz.elim
            | some u0 =>
              rw [hgz] at hz
              refine iteT ⟨_, rfl, _, rfl, _, rfl, ta, CT, dxt, _, _, rfl, hta, T.clT, T.naT1, tf_name, a, es.length, g, S t.name, u0, rfl, rfl, hd1, hgz, .ref ta, u0, t, e0, rfl, hx1, hz, h5 t (List.mem_of_getElem? htm), (fun ds e => ⟨(hb.at hv ds e).1, fun x hx es q => ((hb.at hv ds e).2 x hx es q).1⟩), fun H2 b2 => ?_⟩
              exact put _ H2 e b2
        · rw [lv, List.take_length] at e1
          refine ⟨D, ts.map (oneB es), rfl, SqL.of e1, ?_⟩
          rw [List.all_map]
          exact k H1 b1
end
end Cn
set_option Elab.async false
set_option linter.all false
set_option maxRecDepth 100000
set_option maxHeartbeats 1000000
/-! what is a database: the law's own look -/
namespace Cn
open PySem L2
section
variable {P : Program} {w : World} {K : PySem.W.Frag} {mg : Str → Option Value} {base : Heap} {CR CT CS CI : Addr} {f : Addr} {fd : FuncData}
theorem sc__law_is_database : FnScope ["tables", "value", "name", "columns", "keys", "refers", "k", "row", "cell"] ["tables", "value"] (defScope s__law_is_database) := ⟨rfl, rfl, rfl, by decide +kernel, rfl, by decide +kernel, by decide +kernel⟩
def badL (rx : List V) (rds : List PyData) (i : Nat) : List (V × PyData) := ((rx.zip rds).take i).filter fun p => !cellB p.2
def badV (rx : List V) (rds : List PyData) (i : Nat) : List V := (badL rx rds i).map (·.1)
theorem badL_step {rx : List V} {rds : List PyData} {i : Nat} {x : V} {d : PyData} (h1 : rx[i]? = some x) (h2 : rds[i]? = some d) : badL rx rds (i + 1) = badL rx rds i ++ (if cellB d = true then [] else [(x, d)]) := by
  unfold badL
  have : (rx.zip rds)[i]? = some (x, d) := by rw [List.getElem?_zip_eq_some]; exact ⟨h1, h2⟩
  rw [List.take_add_one, this, List.filter_append]
  cases hc : cellB d <;> simp [hc]
theorem badV_len (rx : List V) (rds : List PyData) (i : Nat) : (badV rx rds i).length ≤ i := by
  unfold badV badL
  rw [List.length_map]
  refine Nat.le_trans (List.length_filter_le _ _) ?_
  rw [List.length_take]; omega
theorem badL_mem {rx : List V} {rds : List PyData} {i : Nat} {e : PyData} (h : e ∈ (badL rx rds i).map (·.2)) : e ∈ rds := by
  obtain ⟨p, hp, rfl⟩ := List.mem_map.mp h
  unfold badL at hp
  have := List.mem_of_mem_take (List.mem_filter.mp hp).1
  exact (List.of_mem_zip this).2
theorem dpAll_filter {K : PySem.W.Frag} {H : Hp} (q : V × PyData → Bool) : ∀ {xs : List V} {ds : List PyData} (n : Nat), DpAll K H xs ds → DpAll K H ((((xs.zip ds).take n).filter q).map (·.1)) ((((xs.zip ds).take n).filter q).map (·.2))
  | _, _, 0, _ => .nil
  | _, _, _ + 1, .nil => .nil
  | x :: xs, d :: ds, n + 1, .cons h hs => by
    have ih := dpAll_filter q n hs
    rw [List.zip_cons_cons, List.take_succ_cons]
    cases hq : q (x, d) with
    | true => rw [List.filter_cons_of_pos hq]; exact .cons h ih
    | false => rw [List.filter_cons_of_neg (by rw [hq]; decide)]; exact ih
theorem badL_dp {K : PySem.W.Frag} {H : Hp} {rx : List V} {rds : List PyData} (h : DpAll K H rx rds) (i : Nat) : DpAll K H ((badL rx rds i).map (·.1)) ((badL rx rds i).map (·.2)) := dpAll_filter _ i h
theorem badL_all {rx : List V} {rds : List PyData} (h : rx.length = rds.length) : (!((badL rx rds rx.length).map (·.2)).isEmpty) = !rds.all cellB := by
  have hm : ∀ {xs : List V} {ds : List PyData}, xs.length = ds.length → (xs.zip ds).map (·.2) = ds := fun {xs ds} h => List.map_snd_zip (by omega)
  have e : badL rx rds rx.length = (rx.zip rds).filter fun p => !cellB p.2 := by
    unfold badL
    rw [List.take_of_length_le (by rw [List.length_zip]; omega)]
  have e2 : ((rx.zip rds).filter fun p => !cellB p.2).map (·.2) = rds.filter fun d => !cellB d := by
    conv => rhs; rw [← hm h]
    rw [List.filter_map]; rfl
  rw [e, e2]
  congr 1
  rw [Bool.eq_iff_iff, List.isEmpty_iff, List.filter_eq_nil_iff, List.all_eq_true]
  exact ⟨fun z d hd => by have := z d hd; simpa using this, fun z d hd => by simpa using z d hd⟩
theorem eqv_nil (ds : List PyData) : (!PyData.eqv (.list ds) (.list [])) = !ds.isEmpty := by
  cases ds <;> simp [PyData.eqv, PyData.eqvAll]
theorem lay_list {ds : List PyData} (h : ∀ e ∈ ds, e.canLay0 = true ∧ e.depth ≤ 8) : PyData.canLayAll0 ds = true ∧ SeqAt.shaped (.list ds) = true := by
  have a1 : ∀ {ds : List PyData}, (∀ e ∈ ds, e.canLay0 = true ∧ e.depth ≤ 8) → PyData.canLayAll0 ds = true ∧ PyData.depthAll ds ≤ 8 := fun {ds} => by
    induction ds with
    | nil => intro _; exact ⟨by simp [PyData.canLayAll0], by simp [PyData.depthAll]⟩
    | cons d ds ih =>
      intro h
      obtain ⟨i1, i2⟩ := ih fun e he => h e (List.mem_cons_of_mem _ he)
      obtain ⟨j1, j2⟩ := h d List.mem_cons_self
      exact ⟨by simp [PyData.canLayAll0, i1, j1], by simp only [PyData.depthAll]; omega⟩
  obtain ⟨b1, b2⟩ := a1 h
  refine ⟨b1, ?_⟩
  unfold SeqAt.shaped
  rw [Bool.and_eq_true, decide_eq_true_iff]
  exact ⟨by simpa [PyData.canLay0] using b1, by simp only [PyData.depth]; omega⟩
theorem cut_take (xs : List V) (k : Nat) : cutV xs none (some ((k : Nat) : Int)) = xs.take k := by
  unfold cutV
  rw [HT.sIx_nat, HT.sIx_none, List.drop_zero, Nat.sub_zero]
  by_cases h : k ≤ xs.length
  · rw [Nat.min_eq_left h]
  · rw [Nat.min_eq_right (by omega), List.take_of_length_le (Nat.le_refl _), List.take_of_length_le (by omega)]
theorem dp_ks {K : PySem.W.Frag} {H : Hp} : ∀ {ks : RowL}, (∀ p ∈ ks, SqT K H p.1 (cellVs p.2)) → DpAll K H (ks.map fun p => V.ref p.1) ((ks.map (·.2)).map rowD)
  | [], _ => .nil
  | p :: ks, h => .cons (.tup (h p List.mem_cons_self) (dp_cells _)) (dp_ks fun q hq => h q (List.mem_cons_of_mem _ hq))
def sp_lisdb (K : PySem.W.Frag) (w : World) : Sp := fun vs H Q _ => ∃ tl vt v ts o, vs = [.ref tl, v] ∧ H tl = some (.lst vt) ∧ Each (TabR H) vt ts ∧ MayR K w H v o ∧ BndO o ∧ (∀ t ∈ ts, t.cols.length ≤ 5) ∧ ts.length ≤ 5 ∧ ∀ H', But [] H H' → Q (.bl (dbB ts.length (tlen ts) o)) H'
theorem ok_lisdb (F : Fun K "_law_is_database" "_law_is_database" s__law_is_database f fd) (T : LTx K mg CR CT CS CI) (c__law_is_cell : Cal P w K mg base 1 "_law_is_cell" (sp_iscell K)) : FnOk P w K mg base (L2.CX P w) 2 f fd ["tables", "value"] (sp_lisdb K w) := by
  refine F.okX sc__law_is_database (fun vs H Q E h => ?_) (fun cdv A outer s H vs Q E hr h => ?_)
  · obtain ⟨tl, vt, v, ts, o, rfl, _⟩ := h
    rfl
  · obtain ⟨tl, vt, v, ts, o, rfl, htl, ht, ho, hb, h5, hl, k⟩ := h
    refine ⟨_, (pss_cons (ps_if (PW.pt (pw_or (pt_not (pt_val (pe_callB (call_isiX (K := K) (w := w) rfl rfl) (by rfl) T.b_isinstance (by decide +kernel) (pa_cons (pv 1) (pa_cons (pe_bltn (v := .ty "dict") (by rfl) T.b_dict (by decide +kernel) rfl) pa_nil))))) (pw_or1 (pt_cmpR op_ne (pe_callB (call_lenX (w := w) rfl) (by rfl) T.b_len (by decide +kernel) (pa_cons (pv 1) pa_nil)) (pe_callB (call_len_seqK K rfl) (by rfl) T.b_len (by decide +kernel) (pa_cons (pv 0) pa_nil)) (nomark _)))))
  (pss_one (ps_ret pe_bl))
  pss_nil)
  (pss_cons (ps_for (passes_of rfl) (by rfl) (pi_listK K rfl (pv 0)) (pg_tup (by rfl) (pgs_cons (pg_name (i := 2) sc__law_is_database.nd rfl (Or.inl rfl)) (pgs_cons (pg_name (i := 3) sc__law_is_database.nd rfl (Or.inl rfl)) (pgs_cons (pg_name (i := 4) sc__law_is_database.nd rfl (Or.inl rfl)) (pgs_cons (pg_name (i := 5) sc__law_is_database.nd rfl (Or.inl rfl)) pgs_nil)))))
  (pss_cons (ps_if (PW.pt (pw_or (pt_cmp (pc_xnotin (w := w) rfl hr.units (pv 2) (pv 1))) (pw_or1 (pt_not (pt_val (pe_callB (call_isiK' K rfl) (by rfl) T.b_isinstance (by decide +kernel) (pa_cons (pe_xget (w := w) rfl hr.units (pv 1) (pv 2) (fun _ _ => rfl)) (pa_cons (pe_bltn (v := .ty "list") (by rfl) T.b_list (by decide +kernel) rfl) pa_nil))))))))
  (pss_one (ps_ret pe_bl))
  pss_nil)
  (pss_one (ps_for (passes_of rfl) (by rfl) (pi_enum (by rfl) T.b_enumerate (pa_cons (pe_xget (w := w) rfl hr.units (pv 1) (pv 2) (fun _ _ => rfl)) pa_nil)) (pg_tup (by rfl) (pgs_cons (pg_name (i := 6) sc__law_is_database.nd rfl (Or.inl rfl)) (pgs_cons (pg_name (i := 7) sc__law_is_database.nd rfl (Or.inl rfl)) pgs_nil)))
  (pss_cons (ps_if (PW.pt (pw_or (pt_not (pt_val (pe_callB (call_isiK' K rfl) (by rfl) T.b_isinstance (by decide +kernel) (pa_cons (pv 7) (pa_cons (pe_bltn (v := .ty "tuple") (by rfl) T.b_tuple (by decide +kernel) rfl) pa_nil))))) (pw_or1 (pt_cmpR op_ne (pe_callB (call_len_seqK K rfl) (by rfl) T.b_len (by decide +kernel) (pa_cons (pv 7) pa_nil)) (pe_callB (call_len_seqK K rfl) (by rfl) T.b_len (by decide +kernel) (pa_cons (pv 3) pa_nil)) (nomark _)))))
  (pss_one (ps_ret pe_bl))
  pss_nil)
  (pss_one (ps_if (PW.pt (pw_or (pt_cmpR (op_neDK K rfl hr.units) (pe_lc (own := [("cell", 8)]) (g := gName 8) (by rfl) sc__law_is_database.nd (pi_tupK K rfl (pv 7)) (blkOk_by (own := [("cell", 8)]) (N := ["tables", "value", "name", "columns", "keys", "refers", "k", "row", "cell"]) (sc := (defScope s__law_is_database)) (by decide +kernel)) (fun _ _ _ _ _ => (pg_name (i := 8) sc__law_is_database.nd rfl (Or.inl rfl))) (fun _ _ _ _ _ => (pts_one (pt_not (pt_val (p_call E0 c__law_is_cell hr (by decide) (by rfl) passL (pa_cons (pv 8) pa_nil)))))) (fun _ _ _ _ _ => (pv 8))) (pe_lst pa_nil) (nomark _)) (pw_or1 (pt_cmpR (op_inDK K rfl (hu64 hr)) (pv 7) (pe_slice (sl_listK K rfl) (pe_xget (w := w) rfl hr.units (pv 1) (pv 2) (fun _ _ => rfl)) po_none (po_some (pv 6))) (by rfl)))))
  (pss_one (ps_ret pe_bl))
  pss_nil)))))))
  (pss_one (ps_ret pe_bl)))), ?_⟩
    refine ⟨_, rfl, ho.isd ⟨_, rfl, ?_⟩⟩
    cases o with
    | plain d => exact iteT (k H But.refl)
    | dict es =>
      obtain ⟨a, g, rfl, hd, hg⟩ := ho.dx
      refine iteF ⟨_, rfl, a, es.length, g, rfl, hd, _, rfl, tl, vt, rfl, .inl (SqL.of htl), rfl, _, rfl, ?_⟩
      rw [nat_eq]
      have lv : vt.length = ts.length := ht.1
      have edb : dbB ts.length (tlen ts) (.dict es) = ((es.length == ts.length) && ts.all (oneB es)) := by
        show ((es.length == ts.length) && (tlen ts).all _) = _
        unfold tlen
        rw [List.all_map]; rfl
      rw [edb] at k
      rw [lv]
      refine ite2 (fun hn => ?_) (fun hn => ?_)
      · rw [show (es.length == ts.length) = false by simpa using hn, Bool.false_and] at k
        exact k H But.refl
      · rw [show (es.length == ts.length) = true by simpa using hn, Bool.true_and] at k
        refine ⟨_, rfl, tl, rfl, ⟨_, SqL.of htl⟩, ?_⟩
        refine for_it (walk_list (K := K) (a := tl) (xs := vt)) (fun i σ H' => (∃ v2 v3 v4 v5 v6 v7, σ = [some (.ref tl), some (.ref a), v2, v3, v4, v5, v6, v7, none]) ∧ But [] H H' ∧ (ts.take i).all (oneB es) = true)
          ⟨⟨_, _, _, _, _, _, rfl⟩, But.refl, by simp⟩ (fun i σ H' _ ⟨_, b, _⟩ => sql_keep b (SqL.of htl)) (fun i x σ H1 H1' hi ⟨⟨v2, v3, v4, v5, v6, v7, e0⟩, b1, all1⟩ y => ?_) (fun σ H1 ⟨⟨v2, v3, v4, v5, v6, v7, e0⟩, b1, all1⟩ => ?_)
        · obtain ⟨rfl, hx⟩ := y
          subst e0
          obtain ⟨t, htt, htr⟩ := (ht.mono fun _ _ z => z.fix (CR := CR) b1.fix0).at hx
          obtain ⟨ta, ca, ua, ra, uk, rk, rfl, h1, h2, _⟩ := htr
          have hd1 := hd.later b1
          have hz := RelE.later b1 (hg (S t.name))
          have tm := List.mem_of_getElem? htt
          have st : ts.take (i + 1) = ts.take i ++ [t] := by rw [List.take_add_one, htt]; rfl
          have bad : oneB es t = false → ∀ H2, But [] H1' H2 → Q (.bl false) H2 := fun e H2 b2 => by
            have : ts.all (oneB es) = false := List.all_eq_false.mpr ⟨t, tm, by rw [e]; exact Bool.false_ne_true⟩
            rw [this] at k
            exact k H2 (b1.trans b2)
          refine ⟨ta, _, rfl, SqT.of h1, rfl, _, _, rfl, _, _, rfl, _, _, rfl, _, _, rfl, rfl, ?_⟩
          refine ⟨_, rfl, _, rfl, a, es.length, g, S t.name, rfl, rfl, hd1, _, rfl, ?_⟩
          rw [RelE.some hz]
          cases hv : valE es (.text (S t.name)) with
          | none => exact iteT (bad (by unfold oneB; rw [hv]) _ But.refl)
          | some e0 =>
            have eone : oneB es t = rowsB t.cols.length e0 := by unfold oneB; rw [hv]
            rw [eone] at bad
            rw [hv] at hz
            cases hgz : g (S t.name) with
            | none => rw [hgz] at hz; exact hz.elim
            | some u0 =>
              rw [hgz] at hz
              refine iteF ⟨_, rfl, _, rfl, a, es.length, g, S t.name, u0, rfl, rfl, hd1, hgz, u0, .ty "list", _, _, _, rfl, .ty _, RowsA.ty hz, kit_ty e0 (by simp), _, rfl, ?_⟩
              cases e0 with
              | list ds =>
                obtain ⟨l, xs, rfl, hs, lx, hxs⟩ := RowsA.list hz
                obtain ⟨l64, l100⟩ := hb.at hv ds rfl
                refine iteF ?_
                refine ⟨_, rfl, _, rfl, a, es.length, g, S t.name, _, rfl, rfl, hd1, hgz, l, xs, rfl, hs, ?_⟩
                refine for_it (walk_enum (K := K) (a := l) (xs := xs)) (fun j σ H' => (∃ v6 v7, σ = [some (.ref tl), some (.ref a), some (sv t.name), some (.ref ca), some (.ref ua), some (.ref ra), v6, v7, none]) ∧ But [] H1' H' ∧ (ds.take j).all (rowB t.cols.length) = true ∧ ((ds.take j).map toCells).Nodup)
                  ⟨⟨_, _, rfl⟩, But.refl, by simp, by simp⟩ (fun j σ H' _ ⟨_, b, _⟩ => sql_keep b hs) (fun j x σ H2 H2' hj ⟨⟨v6, v7, e0⟩, b2, all2, nd2⟩ yy => ?_) (fun σ H2 ⟨⟨v6, v7, e0⟩, b2, all2, nd2⟩ => ?_)
                · obtain ⟨T0, x0, y0, rfl, hT, rfl, ex0, ey0⟩ := yy
                  cases ex0
                  subst e0
                  obtain ⟨d, hdj, hr⟩ := hxs j y0 ey0
                  have dm := List.mem_of_getElem? hdj
                  have std : ds.take (j + 1) = ds.take j ++ [d] := by rw [List.take_add_one, hdj]; rfl
                  have badr : rowB t.cols.length d = false → ∀ H2, But [] H1' H2 → Q (.bl false) H2 := fun e => bad (by
                    show (ds.all (rowB t.cols.length) && decide ((ds.map toCells).Nodup)) = false
                    rw [show ds.all (rowB t.cols.length) = false from List.all_eq_false.mpr ⟨d, dm, by rw [e]; exact Bool.false_ne_true⟩, Bool.false_and])
                  have b3 := b2.trans (newB (o := .tup [.int (j : Nat), y0]) hT)
                  have eT : (upd H2 T0 (.tup [.int (j : Nat), y0])) T0 = some (.tup [.int (j : Nat), y0]) := upd_same
                  generalize upd H2 T0 (.tup [.int (j : Nat), y0]) = H3 at b3 eT ⊢
                  have hr3 := hr.later b3
                  refine ⟨T0, _, rfl, SqT.of eT, rfl, _, _, rfl, _, _, rfl, rfl, ?_⟩
                  refine ⟨_, rfl, y0, .ty "tuple", _, _, _, rfl, .ty _, RowA.ty hr3, kit_ty d (by simp), _, rfl, ?_⟩
                  rcases hr3 with hdp | ⟨_, rfl⟩
                  · cases hdp with
                    | tup hs2 hds =>
                      rename_i r rx rds
                      have lr := dps_len hds
                      obtain ⟨l1, lay⟩ := l100 _ dm _ rfl
                      have hca3 : SqT K H3 ca (svs t.cols) := sqt_keep b3 (SqT.of h2)
                      refine iteF ⟨_, rfl, r, rx, rfl, .inr hs2, _, rfl, ca, svs t.cols, rfl, .inr hca3, rfl, _, rfl, ?_⟩
                      rw [svs_len, nat_eq, lr]
                      refine ite2 (fun hn => ?_) (fun hn => ?_)
                      · exact badr (by show ((rds.length == t.cols.length) && rds.all cellB) = false; rw [show (rds.length == t.cols.length) = false by simpa using hn, Bool.false_and]) _ b3
                      · have er : rowB t.cols.length (.tuple rds) = rds.all cellB := by
                          show ((rds.length == t.cols.length) && rds.all cellB) = _
                          rw [show (rds.length == t.cols.length) = true by simpa using hn, Bool.true_and]
                        rw [er] at badr
                        refine ⟨_, rfl, r, rfl, ⟨_, hs2⟩, fun D hD => ?_⟩
                        refine turns (walk_tup (K := K) (a := r) (xs := rx)) (fun i H' => But [] H3 H' ∧ H' D = some (.lst (badV rx rds i))) ⟨newB hD, upd_same⟩ (fun i H' _ e => sqt_keep e.1 hs2) (fun i x H4 H4' hi ⟨b4, e4⟩ y => ?_) (fun H4 ⟨b4, e4⟩ => ?_)
                        · obtain ⟨rfl, hx⟩ := y
                          obtain ⟨dd, hdd, hdp⟩ := dps_at hds hx
                          have est := badL_step hx hdd
                          refine ⟨rfl, _, rfl, x, dd, rfl, dp_later b4 hdp, _, rfl, ?_⟩
                          cases hc : cellB dd with
                          | true =>
                            rw [hc] at est
                            dsimp only
                            rw [if_neg (by decide)]
                            refine ⟨b4, ?_⟩
                            unfold badV at e4 ⊢
                            rw [est, if_pos rfl, List.append_nil]
                            exact e4
                          | false =>
                            rw [hc] at est
                            dsimp only
                            rw [if_pos (by decide)]
                            refine ⟨_, rfl, _, e4, szt (by have := badV_len rx rds i; omega), b4.put0 hD, ?_⟩
                            unfold badV
                            rw [upd_same, est, if_neg (by decide), List.map_append]; rfl
                        · have e5 : H4 D = some (.lst ((badL rx rds rx.length).map (·.1))) := e4
                          refine ⟨szl (by simp), fun D2 hD2 => ?_⟩
                          have b5 := b4.trans (newB (o := .lst []) hD2)
                          have e6 := (newB (o := .lst []) hD2).at e5
                          have e7 : (upd H4 D2 (.lst [])) D2 = some (.lst []) := upd_same
                          generalize upd H4 D2 (.lst []) = H5 at b5 e6 e7 ⊢
                          have hbad := badL_dp (K := K) (H := H5) (dps_later b5 hds) rx.length
                          have hlay : ∀ e ∈ (badL rx rds rx.length).map (·.2), e.canLay0 = true ∧ e.depth ≤ 8 := fun e he => lay e (badL_mem he)
                          obtain ⟨ly1, ly2⟩ := lay_list hlay
                          have lay0 : SeqAt.shaped (.list []) = true := by decide +kernel
                          refine ⟨.list ((badL rx rds rx.length).map (·.2)), .list [], .lst (SqL.of e6) hbad, .lst (SqL.of e7) .nil, ly2, lay0, _, rfl, ?_⟩
                          rw [eqv_nil, badL_all lr]
                          cases hall : rds.all cellB with
                          | false => exact iteT (badr hall _ (b3.trans b5))
                          | true =>
                            have b15 := b3.trans b5
                            obtain ⟨ks, k1, k2, k3⟩ := rows_ks (K := K) (H := H5) (n := t.cols.length) (xs := xs.take j) (ds := ds.take j) (by rw [List.length_take, List.length_take, lx]) (fun q u hu => by
                              rw [List.getElem?_take] at hu
                              split at hu
                              · rename_i hq
                                obtain ⟨d', h1', h2'⟩ := hxs q u hu
                                exact ⟨d', by rw [List.getElem?_take, if_pos hq]; exact h1', h2'.later b15⟩
                              · cases hu) all2
                            obtain ⟨ra', e0', hsr, erow, _⟩ := rowA_of (K := K) (H := H5) (n := t.cols.length) (v := .ref r) (d := .tuple rds) (hr.later b15) (by rw [er]; exact hall)
                            cases e0'
                            refine iteF ⟨_, rfl, _, rfl, _, rfl, a, es.length, g, S t.name, _, rfl, rfl, hd1.later b15, hgz, _, rfl, _, rfl, l, xs, rfl, sql_keep b15 hs, fun D3 hD3 => ?_⟩
                            have b6 := b15.trans (newB (o := .lst (cutV xs none (some ((j : Nat) : Int)))) hD3)
                            have b56 : But [] H5 _ := newB (o := .lst (cutV xs none (some ((j : Nat) : Int)))) hD3
                            have e8 : (upd H5 D3 (.lst (cutV xs none (some ((j : Nat) : Int))))) D3 = some (.lst (cutV xs none (some ((j : Nat) : Int)))) := upd_same
                            generalize upd H5 D3 (.lst (cutV xs none (some ((j : Nat) : Int)))) = H6 at b6 b56 e8 ⊢
                            rw [cut_take, k1] at e8
                            have lrow := lay_row (toCells (.tuple rds))
                            refine ⟨rowD (toCells (.tuple rds)), (ks.map (·.2)).map rowD, .tup (sqt_keep b56 hsr) (dp_cells _), .lst (SqL.of e8) (dp_ks fun p hp => sqt_keep b56 (k3 p hp)), lrow.1, lay_rows _, by rw [lrow.2]; omega, _, rfl, ?_⟩
                            rw [any_row, k2]
                            refine ite2 (fun hin => ?_) (fun hin => ?_)
                            · have hin := of_decide_eq_true hin
                              refine bad ?_ _ b6
                              show (ds.all (rowB t.cols.length) && decide ((ds.map toCells).Nodup)) = false
                              have : ¬ (ds.map toCells).Nodup := fun z => by
                                have h := z.sublist (List.Sublist.map toCells (List.take_sublist (j + 1) ds))
                                rw [std, List.map_append] at h
                                exact (List.nodup_append.mp h).2.2 _ hin (toCells (.tuple rds)) (by simp) rfl
                              rw [decide_eq_false this, Bool.and_false]
                            · have hin : toCells (.tuple rds) ∉ (ds.take j).map toCells := fun z => hin (decide_eq_true z)
                              refine ⟨⟨_, _, rfl⟩, b6, ?_, ?_⟩
                              · rw [std, List.all_append, all2, List.all_cons, List.all_nil, er, hall]; rfl
                              · rw [std, List.map_append]
                                refine List.nodup_append.mpr ⟨nd2, by simp, fun p hp q hq z => ?_⟩
                                have hq : q = toCells (.tuple rds) := by simpa using hq
                                exact hin (by rw [← hq, ← z]; exact hp)
                    | non => exact iteT (badr rfl _ b3)
                    | int i => exact iteT (badr rfl _ b3)
                    | bl b => exact iteT (badr rfl _ b3)
                    | str x => exact iteT (badr rfl _ b3)
                    | lst q1 q2 => exact iteT (badr rfl _ b3)
                  · exact iteT (badr rfl _ b3)
                · subst e0
                  refine ⟨⟨_, _, _, _, _, _, rfl⟩, b1.trans b2, ?_⟩
                  rw [lx, List.take_length] at all2 nd2
                  rw [st, List.all_append, all1, List.all_cons, List.all_nil, eone]
                  show (true && ((ds.all (rowB t.cols.length) && decide ((ds.map toCells).Nodup)) && true)) = true
                  rw [all2, decide_eq_true nd2]; rfl
              | none => exact iteT (bad rfl _ But.refl)
              | int i => exact iteT (bad rfl _ But.refl)
              | bool b => exact iteT (bad rfl _ But.refl)
              | str x => exact iteT (bad rfl _ But.refl)
              | tuple x => exact iteT (bad rfl _ But.refl)
              | dict x => exact iteT (bad rfl _ But.refl)
        · rw [lv, List.take_length] at all1
          rw [all1] at k
          exact k H1 b1
end
end Cn
set_option Elab.async false
set_option linter.all false
set_option maxRecDepth 100000
set_option maxHeartbeats 1000000
/-! other values than databases -/
namespace Cn
open PySem L2
section
variable {P : Program} {w : World} {K : PySem.W.Frag} {mg : Str → Option Value} {base : Heap} {CR CT CS CI : Addr} {f : Addr} {fd : FuncData}
theorem sc__law_other : FnScope ["feed", "tables", "database", "found", "name", "columns", "row", "way", "odd", "at", "rows", "column", "one"] ["feed", "tables", "database"] (defScope s__law_other) := ⟨rfl, rfl, rfl, by decide +kernel, rfl, by decide +kernel, by decide +kernel⟩
def sp_otherD (K : PySem.W.Frag) (w : World) : Sp := fun vs H Q _ => ∃ (a tl d : Addr) (vt : List V) (ts : List Tbl) (es : List (Cn.T × Addr × List Cells)), vs = [.ref a, .ref tl, .ref d] ∧ FeedR H a ∧ H tl = some (.lst vt) ∧ tl ≠ a ∧ Each (TabR H) vt ts ∧ OkTs [] ts ∧ ts ≠ [] ∧ ts.length ≤ 4 ∧ (ts.map (·.name)).Nodup ∧
  DbR H d es ∧ DbAll ts es ∧ (∀ e ∈ es, e.2.1 ≠ a) ∧ ∀ H' v o, But [a] H H' → FeedR H' a → MayR K w H' v o → BndO o → GX o.data → Q v H'
theorem lst_new {Q : V → Hp → Prop} {H : Hp} {vs : List V} (h : ∀ l H', But [] H H' → H' l = some (.lst vs) → H l = none → Q (.ref l) H') : ∀ l, H l = none → Q (.ref l) (upd H l (.lst vs)) := fun l hl => h l _ (newB hl) upd_same hl
theorem sq_stepK {t u : TS} {D : Ends} {σ : L2.St} {H : Hp} (R : L2.St → Hp → Prop) (h : ∀ D' : Ends, D'.rt = D.rt → (∀ σ' H', R σ' H' → D'.nx σ' H') → t D' σ H) (k : ∀ σ' H', R σ' H' → u D σ' H') : tSeq t u D σ H := h { D with nx := u D } rfl k
def WaySt (K : PySem.W.Frag) (w : World) (a tl d F ca r oa : Addr) (nm : Cn.T) (n : Nat) (H H9 : Hp) (k : Nat) (σ : L2.St) (G : Hp) : Prop :=
  (∃ v9 v10, σ = [some (.ref a), some (.ref tl), some (.ref d), some (.ref F), some (sv nm), some (.ref ca), some (.ref r), some (.int (n : Nat)), some (.ref oa), v9, v10, none, none]) ∧ ((k ≤ n ∧ G = H9) ∨ (n < k ∧ But [a] H G ∧ FeedR G a ∧ Done K w G F))
theorem way_if {K : PySem.W.Frag} {w : World} {a tl d F ca r oa : Addr} {nm : Cn.T} {n : Nat} {H H9 : Hp} (k : Nat) {t u : TS} {D : Ends} {σ : L2.St} {G : Hp} (h : WaySt K w a tl d F ca r oa nm n H H9 k σ G)
    (body : n = k → ∀ D' : Ends, D'.rt = D.rt → (∀ σ' H', WaySt K w a tl d F ca r oa nm n H H9 (k + 1) σ' H' → D'.nx σ' H') → ∀ v9 v10, t D' [some (.ref a), some (.ref tl), some (.ref d), some (.ref F), some (sv nm), some (.ref ca), some (.ref r), some (.int (n : Nat)), some (.ref oa), v9, v10, none, none] H9)
    (rest : ∀ σ' H', WaySt K w a tl d F ca r oa nm n H H9 (k + 1) σ' H' → u D σ' H') : tSeq (tIfS (tTest (tOp rEq (tVar 7) (tC (V.int ((k : Nat) : Int))))) t tNext) u D σ G := by
  obtain ⟨⟨v9, v10, rfl⟩, hc⟩ := h
  refine sq_stepK (WaySt K w a tl d F ca r oa nm n H H9 (k + 1)) (fun D' ert nxt => ?_) rest
  refine ⟨_, rfl, rfl, _, rfl, ?_⟩
  rw [nat_eq]
  refine ite2 (fun hn => ?_) (fun hn => ?_)
  · have en : n = k := by simpa using hn
    rcases hc with ⟨_, rfl⟩ | ⟨lt, _⟩
    · exact body en D' ert nxt v9 v10
    · omega
  · have en : ¬ n = k := by simpa using hn
    refine nxt _ _ ⟨⟨v9, v10, rfl⟩, ?_⟩
    rcases hc with ⟨le, e⟩ | ⟨lt, z⟩
    · exact .inl ⟨by omega, e⟩
    · exact .inr ⟨by omega, z⟩
theorem ge_zz : GE 0 41 (nkD (nkOf (.inr (Str.ofString "zzzzzzzz")))) := ⟨by decide +kernel, by decide +kernel, by decide +kernel, by decide +kernel⟩
theorem ge_a {n m : Nat} (h : 1 ≤ m) : GE n m (.str (Str.ofString "a")) := GE.mono (n := 0) (m := 1) ⟨by decide +kernel, by decide +kernel, by decide +kernel, by decide +kernel⟩ (by omega) h
def itemD (e : Cn.T × Addr × List Cells) : PyData := .tuple [.str (S e.1), .list (e.2.2.map rowD)]
theorem items_dp {K : PySem.W.Frag} {G2 G : Hp} (keep : ∀ t xs, G2 t = some (.tup xs) → G t = some (.tup xs)) : ∀ {ta : List Addr} {es : List (Cn.T × Addr × List Cells)}, Paired (fun (t : Addr) (q : Key × V) => G2 t = some (.tup [kV q.1, q.2])) ta (es.map fun e => ((.inr (S e.1) : Key), V.ref e.2.1)) → (∀ e ∈ es, RwsAt G e.2.1 e.2.2) → DpAll K G (ta.map V.ref) (es.map itemD)
  | [], [], _, _ => .nil
  | [], _ :: _, h, _ => by cases h
  | _ :: _, [], h, _ => by cases h
  | t :: ta, e :: es, h, r => by
    cases h with
    | cons h1 h2 => exact .cons (.tup (SqT.of (keep _ _ h1)) (.cons (.str _) (.cons (r e List.mem_cons_self).dp .nil))) (items_dp keep h2 fun e' he' => r e' (List.mem_cons_of_mem _ he'))
theorem names_dp {K : PySem.W.Frag} {H : Hp} : ∀ es : List (Cn.T × Addr × List Cells), DpAll K H (es.map ((fun kv : Key × V => kV kv.1) ∘ fun e => ((.inr (S e.1) : Key), V.ref e.2.1))) (es.map fun e => .str (S e.1))
  | [] => .nil
  | _ :: es => .cons (.str _) (names_dp es)
theorem item_ge {e : Cn.T × Addr × List Cells} (r : RowsOk e.2.2) (n : (∀ c ∈ e.1, c < 256) ∧ e.1.length ≤ 41) : GE 3 7000 (itemD e) := (GE.tup (n := 2) (m := 3411) (k := 2) (fun y hy => by
  simp only [List.mem_cons, List.not_mem_nil, or_false] at hy
  rcases hy with rfl | rfl
  · exact (GE.str (m := 41) n.1 n.2).mono
  · exact ge_rows r.1 r.2) (by simp)).mono
theorem okTs_name {above ts : List Tbl} (h : OkTs above ts) : ∀ t ∈ ts, isName t.name = true := by
  induction h with
  | nil => intro t ht; cases ht
  | cons o _ ih =>
    intro t ht
    rcases List.mem_cons.mp ht with z | z
    · rw [z]; exact o.name
    · exact ih t z
theorem name_small {w : Cn.T} (h : isName w = true) : (∀ c ∈ w, c < 256) ∧ w.length ≤ 8 := by
  refine ⟨fun c hc => ?_, isName_len h⟩
  unfold isName at h
  simp only [Bool.and_eq_true, decide_eq_true_eq, List.all_eq_true] at h
  have := h.2.2 c hc
  omega
theorem cellVs_len (r : Cells) : (cellVs r).length = r.length := by unfold cellVs; rw [List.length_map]
theorem cellVs_app (r q : Cells) : cellVs (r ++ q) = cellVs r ++ cellVs q := by unfold cellVs; rw [List.map_append]
theorem ok_otherD (F : Fun K "_law_other" "_law_other" s__law_other f fd) (T : LTx K mg CR CT CS CI) (c__law_take : Cal P w K mg base 1 "_law_take" sp_take) (c__law_pick : Cal P w K mg base 2 "_law_pick" sp_pickL) :
    FnOk P w K mg base (L2.CX P w) 3 f fd ["feed", "tables", "database"] (sp_otherD K w) := by
  refine F.okX sc__law_other (fun vs H Q E h => ?_) (fun cdv A outer s H vs Q E hr h => ?_)
  · obtain ⟨a, tl, d, _, _, _, rfl, _⟩ := h
    rfl
  · obtain ⟨a, tl, d, vt, ts, es, rfl, hf, htl, nta, ht, ok, ne, t4, nd, db, all, far, k⟩ := h
    refine ⟨_, (pss_cons (ps_set (i := 3) sc__law_other.nd rfl (Or.inr rfl) (pe_callTy (call_dictPX K rfl (by rfl)) (by rfl) T.b_dict (by decide +kernel) (pa_cons (pe_lock (pe_lc (own := [("name", 4)]) (g := gName 4) (tt := tYes) (by rfl) sc__law_other.nd (pi_keys (pv 2)) (blkOk_by (own := [("name", 4)]) (N := ["feed", "tables", "database", "found", "name", "columns", "row", "way", "odd", "at", "rows", "column", "one"]) (sc := (defScope s__law_other)) (by decide +kernel)) (fun _ _ _ _ _ => (pg_name (i := 4) sc__law_other.nd rfl (Or.inl rfl))) (fun _ _ _ _ _ => pts_nil) (fun _ _ _ _ _ => (pe_tup (pa_cons (pv 4) (pa_cons (pe_callTy (call_list_ofK K rfl) (by rfl) T.b_list (by decide +kernel) (pa_cons (pe_dget (hu1 hr) (pv 2) (pv 4) (fun _ _ => rfl)) pa_nil)) pa_nil)))))) pa_nil)))
  (pss_cons (ps_asg (pe_slice (sl_tupK K rfl) (p_call E c__law_pick hr (by decide) (by rfl) (passX rfl rfl rfl (takes_of rfl rfl rfl rfl)) (pa_cons (pv 0) (pa_cons (pv 1) pa_nil))) po_none (po_some pe_int)) (pg_tup (by rfl) (pgs_cons (pg_name (i := 4) sc__law_other.nd rfl (Or.inl rfl)) (pgs_cons (pg_name (i := 5) sc__law_other.nd rfl (Or.inl rfl)) pgs_nil))))
  (pss_cons (ps_set (i := 6) sc__law_other.nd rfl (Or.inl rfl) (pe_callTy (call_tuple_ofK K rfl) (by rfl) T.b_tuple (by decide +kernel) (pa_cons (pe_lc (own := [("column", 11)]) (g := gName 11) (tt := tYes) (by rfl) sc__law_other.nd (pi_tupK K rfl (pv 5)) (blkOk_by (own := [("column", 11)]) (N := ["feed", "tables", "database", "found", "name", "columns", "row", "way", "odd", "at", "rows", "column", "one"]) (sc := (defScope s__law_other)) (by decide +kernel)) (fun _ _ _ _ _ => (pg_name (i := 11) sc__law_other.nd rfl (Or.inl rfl))) (fun _ _ _ _ _ => pts_nil) (fun _ _ _ _ _ => pe_int)) pa_nil)))
  (pss_cons (ps_set (i := 7) sc__law_other.nd rfl (Or.inl rfl) (p_call E c__law_take hr (by decide) (by rfl) (passX rfl rfl rfl (takes_of rfl rfl rfl rfl)) (pa_cons (pv 0) (pa_cons pe_int pa_nil))))
  (pss_cons (ps_set (i := 8) sc__law_other.nd rfl (Or.inl rfl) (pe_lst (pa_cons pe_bl (pa_cons (pe_un un_neg pe_int) (pa_cons (pe_op op_add (pe_op op_pow pe_int pe_int) pe_int) (pa_cons pe_str (pa_cons (pe_tup pa_nil) (pa_cons (pe_lst pa_nil) (pa_cons pe_non (pa_cons (pe_op op_pow pe_int pe_int) (pa_cons pe_int pa_nil)))))))))))
  (pss_cons (ps_if (pt_cmpR op_eq (pv 7) pe_int (nomark _))
  (pss_one (ps_expr (pe_dpop1 (pv 3) (pv 4) ⟨rfl, by rfl, rfl, rfl⟩)))
  pss_nil)
  (pss_cons (ps_if (pt_cmpR op_eq (pv 7) pe_int (nomark _))
  (pss_one (ps_asg (pe_lst pa_nil) (pg_sub (pv 3) pe_str (set_dict (hu1 hr)))))
  pss_nil)
  (pss_cons (ps_if (pt_cmpR op_eq (pv 7) pe_int (nomark _))
  (pss_one (ps_asg (p_call E c__law_pick hr (by decide) (by rfl) (passX rfl rfl rfl (takes_of rfl rfl rfl rfl)) (pa_cons (pv 0) (pa_cons (pe_lst (pa_cons (pe_callTy (call_tuple_ofK K rfl) (by rfl) T.b_tuple (by decide +kernel) (pa_cons (pe_dget (hu1 hr) (pv 3) (pv 4) (fun _ _ => rfl)) pa_nil)) (pa_cons pe_non (pa_cons pe_dnewK (pa_cons pe_str (pa_cons pe_int pa_nil)))))) pa_nil))) (pg_sub (pv 3) (pv 4) (set_dict (hu1 hr)))))
  pss_nil)
  (pss_cons (ps_if (pt_cmpR op_eq (pv 7) pe_int (nomark _))
  (pss_one (ps_expr (pe_bm PySem.F.plainAttrs_list PySem.F.slot_list_append PySem.F.type_list_append mt_append (pe_dget (hu1 hr) (pv 3) (pv 4) (fun _ _ => rfl)) (pa_cons (p_call E c__law_pick hr (by decide) (by rfl) (passX rfl rfl rfl (takes_of rfl rfl rfl rfl)) (pa_cons (pv 0) (pa_cons (pe_lst (pa_cons (pe_op op_catA (pv 6) (pe_tup (pa_cons pe_int pa_nil))) (pa_cons (pe_slice (sl_tupK K rfl) (pv 6) (po_some pe_int) po_none) (pa_cons (pe_callTy (call_list_ofK K rfl) (by rfl) T.b_list (by decide +kernel) (pa_cons (pv 6) pa_nil)) (pa_cons pe_non (pa_cons pe_int (pa_cons pe_str (pa_cons pe_dnewK (pa_cons (pe_tup pa_nil) pa_nil))))))))) pa_nil))) pa_nil))))
  pss_nil)
  (pss_cons (ps_if (pt_cmpR op_eq (pv 7) pe_int (nomark _))
  (pss_cons (ps_set (i := 9) sc__law_other.nd rfl (Or.inl rfl) (p_call E c__law_take hr (by decide) (by rfl) (passX rfl rfl rfl (takes_of rfl rfl rfl rfl)) (pa_cons (pv 0) (pa_cons (pe_callB (call_len_seqK K rfl) (by rfl) T.b_len (by decide +kernel) (pa_cons (pv 6) pa_nil)) pa_nil))))
  (pss_one (ps_expr (pe_bm PySem.F.plainAttrs_list PySem.F.slot_list_insert PySem.F.type_list_insert mt_insert (pe_dget (hu1 hr) (pv 3) (pv 4) (fun _ _ => rfl)) (pa_cons (p_call E c__law_take hr (by decide) (by rfl) (passX rfl rfl rfl (takes_of rfl rfl rfl rfl)) (pa_cons (pv 0) (pa_cons pe_int pa_nil))) (pa_cons (pe_op op_catA (pe_op op_catA (pe_slice (sl_tupK K rfl) (pv 6) po_none (po_some (pv 9))) (pe_tup (pa_cons (p_call E c__law_pick hr (by decide) (by rfl) (passX rfl rfl rfl (takes_of rfl rfl rfl rfl)) (pa_cons (pv 0) (pa_cons (pv 8) pa_nil))) pa_nil))) (pe_slice (sl_tupK K rfl) (pv 6) (po_some (pe_op op_add (pv 9) pe_int)) po_none)) pa_nil))))))
  pss_nil)
  (pss_cons (ps_if (pt_cmpR op_eq (pv 7) pe_int (nomark _))
  (pss_one (ps_asg (pe_op op_cat (pe_dget (hu1 hr) (pv 3) (pv 4) (fun _ _ => rfl)) (pe_slice (sl_listK K rfl) (pe_dget (hu1 hr) (pv 3) (pv 4) (fun _ _ => rfl)) po_none (po_some pe_int))) (pg_sub (pv 3) (pv 4) (set_dict (hu1 hr)))))
  pss_nil)
  (pss_cons (ps_if (pt_cmpR op_eq (pv 7) pe_int (nomark _))
  (pss_one (ps_ret (p_call E c__law_pick hr (by decide) (by rfl) (passX rfl rfl rfl (takes_of rfl rfl rfl rfl)) (pa_cons (pv 0) (pa_cons (pe_lst (pa_cons pe_non (pa_cons (pe_lst pa_nil) (pa_cons (LiI.pe_listItems (by rfl) (pv 3) (by rfl) T.b_list (by decide +kernel)) (pa_cons pe_int (pa_cons pe_str (pa_cons pe_dnewK (pa_cons (pe_callTy (call_tuple_dK (by rfl)) (by rfl) T.b_tuple (by decide +kernel) (pa_cons (pv 3) pa_nil)) pa_nil)))))))) pa_nil)))))
  pss_nil)
  (pss_cons (ps_if (pt_cmpR op_eq (pv 7) pe_int (nomark _))
  (pss_cons (ps_set (i := 10) sc__law_other.nd rfl (Or.inl rfl) (pe_dpop1 (pv 3) (pv 4) ⟨rfl, by rfl, rfl, rfl⟩))
  (pss_one (ps_asg (pv 10) (pg_sub (pv 3) (p_call E c__law_pick hr (by decide) (by rfl) (passX rfl rfl rfl (takes_of rfl rfl rfl rfl)) (pa_cons (pv 0) (pa_cons (pe_lst (pa_cons (pe_op op_add_str (pv 4) pe_str) (pa_cons pe_int (pa_cons (pe_tup (pa_cons (pv 4) pa_nil)) (pa_cons pe_non pa_nil))))) pa_nil))) (set_X (w := w) rfl hr.units)))))
  pss_nil)
  (pss_cons (ps_if (pt_cmpR op_eq (pv 7) pe_int (nomark _))
  (pss_one (ps_ret (pe_callTy (call_dictPX K rfl (by rfl)) (by rfl) T.b_dict (by decide +kernel) (pa_cons (pe_lc (own := [("one", 12)]) (g := gName 12) (tt := tYes) (by rfl) sc__law_other.nd (pi_listK K rfl (pe_stepL K rfl (pe_callB (call_sortedD (by rfl)) (by rfl) T.b_sorted (by decide +kernel) (pa_cons (pv 3) pa_nil)) (pe_un un_neg pe_int))) (blkOk_by (own := [("one", 12)]) (N := ["feed", "tables", "database", "found", "name", "columns", "row", "way", "odd", "at", "rows", "column", "one"]) (sc := (defScope s__law_other)) (by decide +kernel)) (fun _ _ _ _ _ => (pg_name (i := 12) sc__law_other.nd rfl (Or.inl rfl))) (fun _ _ _ _ _ => pts_nil) (fun _ _ _ _ _ => (pe_tup (pa_cons (pv 12) (pa_cons (pe_dget (hu1 hr) (pv 3) (pv 12) (fun _ _ => rfl)) pa_nil))))) pa_nil))))
  pss_nil)
  (pss_cons (ps_if (pt_cmpR op_eq (pv 7) pe_int (nomark _))
  (pss_one (ps_asg (pe_op op_cat (pe_dget (hu1 hr) (pv 3) (pv 4) (fun _ _ => rfl)) (pe_lst (pa_cons (pv 6) (pa_cons (pv 6) pa_nil)))) (pg_sub (pv 3) (pv 4) (set_dict (hu1 hr)))))
  pss_nil)
  (pss_one (ps_ret (pv 3)))))))))))))))))), ?_⟩
    obtain ⟨d0, s0, ha⟩ := id hf
    have ed := db.at_
    have nda : d ≠ a := fun z => by rw [z, ha] at ed; cases ed
    -- the copy
    refine ⟨d, _, ed, True.intro, fun od => ?_⟩
    refine ⟨_, rfl, d, od, rfl, .inl ⟨_, upd_same, ?_⟩⟩
    refine fun D hD => ?_
    have hDd : D ≠ d := fun z => by rw [z, upd_same] at hD; cases hD
    have hD0 : H D = none := by rw [upd_ne hDd] at hD; exact hD
    have rwL : ∀ e ∈ es, RwsAt (upd H d (.frz od (.dK (es.map fun e => ((.inr (S e.1) : Key), V.ref e.2.1))))) e.2.1 e.2.2 := fun e he => RwsAt.lock ed (db.rows e he)
    have eL : (upd H d (.frz od (.dK (es.map fun e => ((.inr (S e.1) : Key), V.ref e.2.1))))) d = some (.frz od (.dK (es.map fun e => ((.inr (S e.1) : Key), V.ref e.2.1)))) := upd_same
    have hun : ∀ {G : Hp}, But [] (upd H d (.frz od (.dK (es.map fun e => ((.inr (S e.1) : Key), V.ref e.2.1))))) G → But [] H (upd G d (.dK (es.map fun e => ((.inr (S e.1) : Key), V.ref e.2.1)))) := fun b => unlock ed b
    have hfr : ∀ {x : Addr}, (upd H d (.frz od (.dK (es.map fun e => ((.inr (S e.1) : Key), V.ref e.2.1))))) x = none → H x = none := fun {x} h => by
      by_cases z : x = d
      · rw [z, upd_same] at h; cases h
      · rw [upd_ne z] at h; exact h
    have ndn : (es.map (·.1)).Nodup := by rw [all.1]; exact nd
    have les : es.length = ts.length := by have := congrArg List.length all.1; rwa [List.length_map, List.length_map] at this
    have lk : (es.map fun e => ((.inr (S e.1) : Key), V.ref e.2.1)).length = es.length := List.length_map ..
    have hvE : ∀ e ∈ es, valV (es.map fun e => ((.inr (S e.1) : Key), V.ref e.2.1)) (.inr (S e.1)) = some (.ref e.2.1) := fun e he => valV_at (n := e.1) ndn he
    generalize upd H d (.frz od (.dK (es.map fun e => ((.inr (S e.1) : Key), V.ref e.2.1)))) = HL at hD rwL eL hun hfr
    refine turns (walk_keys (d := d) (o := od) (kvs := es.map kvE)) (fun i G => But [] HL G ∧ ∃ xs es2, G D = some (.lst xs) ∧ Each (PairV G) xs es2 ∧ es2.map (fun e => (e.1, e.2.2)) = (es.take i).map (fun e => (e.1, e.2.2)) ∧ (∀ e ∈ es2, HL e.2.1 = none ∧ e.2.1 ≠ D ∧ RwsAt G e.2.1 e.2.2) ∧ (es2.map (·.2.1)).Nodup) ⟨newB hD, [], [], upd_same, Each.nil, rfl, by simp, List.nodup_nil⟩ (fun i G _ e => e.1.at eL) (fun i x G G' hi ⟨b, xs, es2, eD, hxs, em, fr, ndA⟩ yy => ?_) (fun G ⟨b, xs, es2, eD, hxs, em, fr, ndA⟩ => ?_)
    · obtain ⟨rfl, kk, vv, hkv, rfl⟩ := yy
      rw [List.getElem?_map, Option.map_eq_some_iff] at hkv
      obtain ⟨e, he, ekv⟩ := hkv
      cases ekv
      have em' := List.mem_of_getElem? he
      obtain ⟨vs, el, hv⟩ := (rwL e em').keep b
      have dg : DGet G' d (sv e.1) (some (.ref e.2.1)) := by rw [← hvE e em']; exact .inl ⟨_, .inr (S e.1), .inr ⟨od, b.at eL⟩, rfl, rfl⟩
      refine ⟨rfl, _, rfl, _, rfl, _, rfl, d, _, rfl, dg, e.2.1, vs, rfl, .inl (SqL.of el), fun l2 hl2 => ?_⟩
      have b2 := newB (o := .lst vs) hl2
      have e2 : (upd G' l2 (.lst vs)) l2 = some (.lst vs) := upd_same
      have l2L : HL l2 = none := b.free hl2 (by simp)
      have l2D : l2 ≠ D := fun z => by rw [z, eD] at hl2; cases hl2
      have l2n : ∀ e ∈ es2, e.2.1 ≠ l2 := fun e he z => by
        obtain ⟨_, q, _⟩ := (fr e he).2.2
        rw [z, hl2] at q; cases q
      generalize upd G' l2 (.lst vs) = G2 at b2 e2 ⊢
      refine ⟨szl (by simp), fun q hq => ?_⟩
      have b3 := newB (o := .tup [kV (.inr (S e.1)), .ref l2]) hq
      have e3 : (upd G2 q (.tup [kV (.inr (S e.1)), .ref l2])) q = some (.tup [kV (.inr (S e.1)), .ref l2]) := upd_same
      generalize upd G2 q (.tup [kV (.inr (S e.1)), .ref l2]) = G3 at b3 e3 ⊢
      have b23 := b2.trans b3
      have eD3 := b23.at eD
      have st : es.take (i + 1) = es.take i ++ [e] := by rw [List.take_add_one, he]; rfl
      have lx : xs.length ≤ 4 := by
        have h1 := hxs.1
        have h2 := congrArg List.length em
        rw [List.length_map, List.length_map, List.length_take] at h2
        omega
      refine ⟨_, eD3, szt (by omega), (b.trans b23).put0 hD, xs ++ [.ref q], es2 ++ [(e.1, l2, e.2.2)], upd_same, ((hxs.mono fun _ _ z => z.keep b23).snoc (R := PairV G3) (v := .ref q) (x := (e.1, l2, e.2.2)) ⟨q, rfl, e3⟩).mono fun _ _ z => PairV.upd (o := .lst (xs ++ [.ref q])) eD3 z, ?_, fun e' he' => ?_, ?_⟩
      · rw [st, List.map_append, List.map_append, em]; rfl
      · have rz : RwsAt G3 e'.2.1 e'.2.2 ∧ HL e'.2.1 = none ∧ e'.2.1 ≠ D := by
          rcases List.mem_append.mp he' with z | z
          · exact ⟨(fr e' z).2.2.keep b23, (fr e' z).1, (fr e' z).2.1⟩
          · rw [List.mem_singleton.mp z]
            exact ⟨⟨vs, b3.at e2, hv.mono fun _ _ z => z.fix (CR := 0) b23.fix0⟩, l2L, l2D⟩
        exact ⟨rz.2.1, rz.2.2, RwsAt.keepL (But.refl.put (by simp)) eD3 rz.2.2 rz.1⟩
      · rw [List.map_append]
        refine List.nodup_append.mpr ⟨ndA, by simp, fun p hp r hr z => ?_⟩
        obtain ⟨e', he', rfl⟩ := List.mem_map.mp hp
        have hr : r = l2 := by simpa using hr
        exact l2n e' he' (z.trans hr)
    · rw [List.length_map, List.take_length] at em
      have bu := hun b
      have en2 : es2.map (·.1) = es.map (·.1) := by
        have := congrArg (List.map Prod.fst) em
        rw [List.map_map, List.map_map] at this
        exact this
      refine ⟨b.at eL, ?_⟩
      have ed2 : (upd G d (.dK (es.map fun e => ((.inr (S e.1) : Key), V.ref e.2.1)))) d = some (.dK (es.map fun e => ((.inr (S e.1) : Key), V.ref e.2.1))) := upd_same
      have nd' : ∀ e ∈ es2, RwsAt (upd G d (.dK (es.map fun e => ((.inr (S e.1) : Key), V.ref e.2.1)))) e.2.1 e.2.2 ∧ H e.2.1 = none := fun e he => by
        obtain ⟨f1, f2, vs, f3, f4⟩ := fr e he
        have nz : e.2.1 ≠ d := fun z => by rw [z, eL] at f1; cases f1
        refine ⟨⟨vs, by rw [upd_ne nz]; exact f3, f4.mono fun _ _ ⟨q, e1, e2⟩ => ⟨q, e1, by rw [upd_ne fun z => by rw [z, b.at eL] at e2; cases e2]; exact e2⟩⟩, hfr f1⟩
      have eD2 : (upd G d (.dK (es.map fun e => ((.inr (S e.1) : Key), V.ref e.2.1)))) D = some (.lst xs) := by rw [upd_ne hDd]; exact eD
      have hxs2 : Each (PairV (upd G d (.dK (es.map fun e => ((.inr (S e.1) : Key), V.ref e.2.1))))) xs es2 := hxs.mono fun _ _ ⟨q, e1, e2⟩ => ⟨q, e1, by rw [upd_ne fun z => by rw [z, b.at eL] at e2; cases e2]; exact e2⟩
      generalize upd G d (.dK (es.map fun e => ((.inr (S e.1) : Key), V.ref e.2.1))) = G1 at bu ed2 nd' eD2 hxs2 ⊢
      obtain ⟨ps, hps, hpr⟩ := pairs_of (K := K) hxs2
      refine ⟨D, ps, es2.map kvE, rfl, by rw [← hps]; exact SqL.of eD2, hpr, fun F hF => ?_⟩
      rw [merge_es (by rw [en2]; exact ndn)]
      have bF := newB (o := .dK (es2.map kvE)) hF
      have eF : (upd G1 F (.dK (es2.map kvE))) F = some (.dK (es2.map kvE)) := upd_same
      generalize upd G1 F (.dK (es2.map kvE)) = G2 at bF eF ⊢
      have b02 := bu.trans bF
      have dbF : DbR G2 F es2 := ⟨eF, fun e he => (nd' e he).1.keep bF, ndA⟩
      have fr2 : ∀ e ∈ es2, H e.2.1 = none := fun e he => (nd' e he).2
      have F0 : H F = none := bu.free hF (by simp)
      clear hun hfr rwL eL hD b hxs eD fr hvE nd' hxs2 eD2 hps hpr ed2
      have f2 : FeedR G2 a := hf.keep b02
      have htl2 := b02.at htl
      have lts : 1 ≤ ts.length := by cases ts with
        | nil => exact absurd rfl ne
        | cons _ _ => simp
      have F2a : F ≠ a := fun z => by rw [z, ha] at F0; cases F0
      have far2 : ∀ e ∈ es2, e.2.1 ≠ a := fun e he z => by have := fr2 e he; rw [z, ha] at this; cases this
      refine ⟨_, rfl, _, rfl, a, tl, vt, rfl, by rw [ht.1]; exact lts, by rw [ht.1]; omega, f2, nta, htl2, fun H3 x b3 f3 hx => ?_⟩
      have b03 : But [a] H H3 := (But.of b02).trans b3
      have db3 : DbR H3 F es2 := by obtain ⟨q1, q2, q⟩ := f2; exact dbF.keepL b3 q far2
      obtain ⟨i, hi⟩ := List.mem_iff_getElem?.mp hx
      obtain ⟨t, htt, htr⟩ := (ht.mono fun _ _ z => z.fix (fixL b03 ha)).at hi
      have tm := List.mem_of_getElem? htt
      obtain ⟨tc0, tc5, _⟩ := okTs_refs ok t tm
      obtain ⟨ta, ca, ua, ra, uk, rk, rfl, h1, h2, _⟩ := htr
      have ec : cutV [sv t.name, .ref ca, .ref ua, .ref ra] none (some 2) = [sv t.name, .ref ca] := rfl
      refine ⟨_, rfl, ta, _, rfl, SqT.of h1, (by show ¬ (HT.sIx 4 0 none = 0 ∧ HT.sIx 4 4 (some 2) = 4); decide), fun p hp => ?_⟩
      rw [ec]
      have b4 := newB (o := .tup [sv t.name, .ref ca]) hp
      have e4 : (upd H3 p (.tup [sv t.name, .ref ca])) p = some (.tup [sv t.name, .ref ca]) := upd_same
      generalize upd H3 p (.tup [sv t.name, .ref ca]) = H4 at b4 e4 ⊢
      refine ⟨p, _, rfl, SqT.of e4, rfl, _, _, rfl, _, _, rfl, rfl, ?_⟩
      have h24 := b4.at h2
      -- the row of fives
      refine ⟨_, rfl, ca, rfl, ⟨_, SqT.of h24⟩, fun D5 hD5 => ?_⟩
      refine turns (walk_tup (K := K) (a := ca) (xs := svs t.cols)) (fun i G => But [] H4 G ∧ G D5 = some (.lst (cellVs (List.replicate i (some 5))))) ⟨newB hD5, upd_same⟩ (fun i G _ e => sqt_keep e.1 (SqT.of h24)) (fun i x G G' hi ⟨b, e⟩ y => ?_) (fun G ⟨b, e⟩ => ?_)
      · obtain ⟨rfl, hx⟩ := y
        have li : i < 5 := by have := (List.getElem?_eq_some_iff.mp hx).1; rw [svs_len] at this; omega
        refine ⟨rfl, _, e, szt (by rw [cellVs_len, List.length_replicate]; omega), b.put0 hD5, ?_⟩
        rw [upd_same, List.replicate_succ', cellVs_app]; rfl
      · rw [svs_len] at e
        refine ⟨D5, _, rfl, .inl ⟨SqL.of e, fun r hr => ?_⟩⟩
        have b5 := b4.trans (b.trans (newB (o := .tup (cellVs (List.replicate t.cols.length (some 5)))) hr))
        have e5 : (upd G r (.tup (cellVs (List.replicate t.cols.length (some 5))))) r = some (.tup (cellVs (List.replicate t.cols.length (some 5)))) := upd_same
        generalize upd G r (.tup (cellVs (List.replicate t.cols.length (some 5)))) = H5 at b5 e5 ⊢
        refine ⟨_, rfl, a, 13, rfl, by decide, by decide, f3.keep b5, fun H6 n b6 f6 hn => ?_⟩
        refine ⟨_, rfl, _, _, rfl, rfl, (by unfold CPow; decide), _, _, rfl, rfl, szl (by simp), fun q0 hq0 => ?_⟩
        have b7 := newB (o := .tup []) hq0
        have e7 : (upd H6 q0 (.tup [])) q0 = some (.tup []) := upd_same
        generalize upd H6 q0 (.tup []) = H7 at b7 e7 ⊢
        refine ⟨szl (by simp), fun q1 hq1 => ?_⟩
        have b8 := newB (o := .lst []) hq1
        have e8 : (upd H7 q1 (.lst [])) q1 = some (.lst []) := upd_same
        generalize upd H7 q1 (.lst []) = H8 at b8 e8 ⊢
        refine ⟨_, _, rfl, rfl, (by unfold CPow; decide), szl (by simp), fun oa hoa => ?_⟩
        dsimp only [gName]
        have b9 := newB (o := .lst [.bl true, .int (-1), .int (10 ^ (9 : Int).toNat + 1), .str (Str.ofString "1"), .ref q0, .ref q1, .non, .int (10 ^ (9 : Int).toNat), .int 0]) hoa
        have e9 : (upd H8 oa (.lst [.bl true, .int (-1), .int (10 ^ (9 : Int).toNat + 1), .str (Str.ofString "1"), .ref q0, .ref q1, .non, .int (10 ^ (9 : Int).toNat), .int 0])) oa = some (.lst [.bl true, .int (-1), .int (10 ^ (9 : Int).toNat + 1), .str (Str.ofString "1"), .ref q0, .ref q1, .non, .int (10 ^ (9 : Int).toNat), .int 0]) := upd_same
        generalize upd H8 oa (.lst [.bl true, .int (-1), .int (10 ^ (9 : Int).toNat + 1), .str (Str.ofString "1"), .ref q0, .ref q1, .non, .int (10 ^ (9 : Int).toNat), .int 0]) = H9 at b9 e9 ⊢
        have b69 := b7.trans (b8.trans b9)
        have b59 : But [a] H5 H9 := b6.trans (But.of b69)
        have b09 : But [a] H H9 := (b03.trans (But.of b5)).trans b59
        have f9 := f6.keep b69
        have db9 : DbR H9 F es2 := by
          have h5 := db3.keep b5
          obtain ⟨q1, q2, q⟩ := f3.keep b5
          exact h5.keepL b59 q far2
        have nra : r ≠ a := fun z => by obtain ⟨q1, q2, q⟩ := f3.keep b5; rw [z, q] at e5; cases e5
        have er := b59.at1 e5 nra
        have eq0 := (b8.trans b9).at e7
        have eq1 := b9.at e8
        have q1far : ∀ e ∈ es2, e.2.1 ≠ q1 := fun e he z => by
          have h5 := db3.keep b5
          obtain ⟨u1, u2, u⟩ := f3.keep b5
          obtain ⟨vs, e', _⟩ := ((h5.keepL b6 u far2).keep b7).rows e he
          rw [z, hq1] at e'; cases e'
        clear e4 h24 hp e5 e7 e8 hq0 hq1 hoa b7 b8 h1 h2
        have rok : ∀ e ∈ es2, RwsAt H9 e.2.1 e.2.2 ∧ RowsOk e.2.2 ∧ ((∀ c ∈ e.1, c < 256) ∧ e.1.length ≤ 41) ∧ e.2.2.length ≤ 3 := fun e he => by
          have hm : (e.1, e.2.2) ∈ es.map fun e => (e.1, e.2.2) := by rw [← em]; exact List.mem_map.mpr ⟨e, he, rfl⟩
          obtain ⟨e', he', ee⟩ := List.mem_map.mp hm
          obtain ⟨j, hj⟩ := List.mem_iff_getElem?.mp he'
          have jl := (List.getElem?_eq_some_iff.mp hj).1
          obtain ⟨t', ht'⟩ : ∃ t', ts[j]? = some t' := ⟨ts[j]'(by omega), List.getElem?_eq_getElem (by omega)⟩
          obtain ⟨o1, _, o3⟩ := all.2 j t' e' ht' hj
          have tn : e'.1 = t'.name := by
            have h1 : (es.map (·.1))[j]? = some e'.1 := by rw [List.getElem?_map, hj]; rfl
            rw [all.1, List.getElem?_map, ht'] at h1
            exact (Option.some.inj h1).symm
          have e1 : e.1 = e'.1 := (congrArg Prod.fst ee).symm
          have e2 : e.2.2 = e'.2.2 := (congrArg Prod.snd ee).symm
          have c5 := (okTs_refs ok t' (List.mem_of_getElem? ht')).2.1
          refine ⟨db9.rows e he, ⟨fun r hr => ?_, by rw [e2]; omega⟩, ?_, by rw [e2]; exact o3⟩
          · rw [e2] at hr
            obtain ⟨p1, p2⟩ := o1 r hr
            exact ⟨by omega, p2⟩
          · rw [e1, tn]
            have := name_small (okTs_name ok t' (List.mem_of_getElem? ht'))
            exact ⟨this.1, by omega⟩
        have entG : ∀ {G : Hp}, DbR G F es2 → ∀ x ∈ es2.map dbE, EntOk K G x := fun {G} db x hx => by
          obtain ⟨e, he, rfl⟩ := List.mem_map.mp hx
          obtain ⟨_, q2, q3, _⟩ := rok e he
          exact dbE_ok (db.rows e he) q2 q3
        have entOk := entG db9
        have l2e : es2.length ≤ 4 := by
          have := congrArg List.length em
          rw [List.length_map, List.length_map] at this
          omega
        obtain ⟨e0, he0, en0⟩ : ∃ e0 ∈ es2, e0.1 = t.name := by
          have : t.name ∈ es2.map (·.1) := by rw [en2, all.1]; exact List.mem_map.mpr ⟨t, tm, rfl⟩
          obtain ⟨e0, h1, h2⟩ := List.mem_map.mp this
          exact ⟨e0, h1, h2⟩
        have hval : valV (es2.map fun e => ((.inr (S e.1) : Key), V.ref e.2.1)) (.inr (S t.name)) = some (.ref e0.2.1) := by
          rw [← en0]
          exact valV_at (n := e0.1) (by rw [en2]; exact ndn) he0
        have hat9 : H9 F = some (.dK ((es2.map dbE).map ekv)) := by rw [ekv_dbE]; exact db9.at_
        have ne2 : (es2.map fun e => ((.inr (S e.1) : Key), V.ref e.2.1)) ≠ [] := fun z => by
          have := congrArg List.length z
          rw [List.length_map, List.length_nil] at this
          rw [List.eq_nil_of_length_eq_zero this] at he0
          cases he0
        have nxd : ∀ {G : Hp} {k0 : Nat}, But [a] H G → FeedR G a → G F = some (.dK (es2.map fun e => ((.inr (S e.1) : Key), V.ref e.2.1))) → ∀ D' : Ends, (∀ σ' H', WaySt K w a tl d F ca r oa t.name n H H9 (k0 + 1) σ' H' → D'.nx σ' H') → n < k0 + 1 → ∀ (v9 v10 : Option V) (ls : List Ent), (∀ x ∈ ls, EntOk K G x) → ls.length ≤ 6 →
            D'.nx [some (.ref a), some (.ref tl), some (.ref d), some (.ref F), some (sv t.name), some (.ref ca), some (.ref r), some (.int (n : Nat)), some (.ref oa), v9, v10, none, none] (upd G F (.dK (ls.map ekv))) := fun b f e D' nxt lt v9 v10 ls h hl => by
          refine nxt _ _ ⟨⟨v9, v10, rfl⟩, .inr ⟨lt, b.put0 F0, ?_, put_done e ne2 h hl⟩⟩
          obtain ⟨q1, q2, q⟩ := f
          exact ⟨q1, q2, by rw [upd_ne F2a.symm]; exact q⟩
        have w0 : ∀ (v9 v10 : Option V), WaySt K w a tl d F ca r oa t.name n H H9 0 [some (.ref a), some (.ref tl), some (.ref d), some (.ref F), some (sv t.name), some (.ref ca), some (.ref r), some (.int (n : Nat)), some (.ref oa), v9, v10, none, none] H9 := fun v9 v10 => ⟨⟨v9, v10, rfl⟩, .inl ⟨Nat.zero_le _, rfl⟩⟩
        refine way_if (K := K) (w := w) (H := H) (H9 := H9) 0 (w0 none none) (fun en D' ert nxt v9 v10 => ?_) (fun σ G w1 => ?_)
        · refine ⟨_, rfl, F, rfl, .inl ⟨_, .inl db9.at_⟩, _, rfl, _, .inr (S t.name), _, db9.at_, rfl, hval, ?_⟩
          obtain ⟨ls', p1, p2, p3, _⟩ := drop_ent (es2.map dbE) (.inr (S t.name))
          rw [ekv_dbE] at p1
          rw [p1]
          exact nxd b09 f9 db9.at_ D' nxt (by omega) v9 v10 ls' (fun x hx => entOk x (p2 x hx).1) (by rw [List.length_map] at p3; omega)
        refine way_if (K := K) (w := w) (H := H) (H9 := H9) 1 w1 (fun en D' ert nxt v9 v10 => ?_) (fun σ G w2 => ?_)
        · refine ⟨szl (by simp), fun l hl => ?_⟩
          have b1 := newB (o := .lst []) hl
          have e1 : (upd H9 l (.lst [])) l = some (.lst []) := upd_same
          generalize upd H9 l (.lst []) = G1 at b1 e1 ⊢
          have hF1 := b1.at db9.at_
          obtain ⟨ls', p1, p2, _, p3⟩ := put_ent (es2.map dbE) (.inr (Str.ofString "zzzzzzzz")) (.ref l) (.list [])
          rw [ekv_dbE] at p1
          refine ⟨_, rfl, F, _, rfl, .inl ⟨_, .inr (Str.ofString "zzzzzzzz"), hF1, rfl, szt (by rw [List.length_map]; omega), rfl⟩, ?_⟩
          rw [p1]
          refine nxd (b09.trans (But.of b1)) (f9.keep b1) hF1 D' nxt (by omega) v9 v10 ls' (fun x hx => (p2 x hx).elim (fun z => (entOk x z).later b1) (fun z => ?_)) (by rw [List.length_map] at p3; omega)
          rw [z]
          exact ⟨.inl (.inl (.lst (SqL.of e1) .nil)), fun ds q => by cases q; exact ⟨by decide, by simp⟩, (GE.lst (n := 0) (m := 0) (k := 0) (xs := []) (by simp) (by simp)).mono, ge_zz⟩
        obtain ⟨r0, r0', r0n, r03⟩ := rok e0 he0
        have gname : GE 0 41 (nkD (nkOf (.inr (S t.name)))) := by rw [← en0]; exact key_small r0n
        have five : (List.replicate t.cols.length (some (5 : Int))).length ≤ 9 ∧ ∀ x ∈ List.replicate t.cols.length (some (5 : Int)), CellOk x := by
          refine ⟨by rw [List.length_replicate]; omega, fun x hx => ?_⟩
          rw [(List.mem_replicate.mp hx).2]
          exact ⟨by decide, by decide⟩
        have cat_way : ∀ {G : Hp} {l : Addr} {zs : List V} {rs : List Cells} {k0 : Nat} (D' : Ends), (∀ σ' H', WaySt K w a tl d F ca r oa t.name n H H9 (k0 + 1) σ' H' → D'.nx σ' H') → n < k0 + 1 → ∀ (v9 v10 : Option V), But [] H9 G → G l = some (.lst zs) → Each (RowV G) zs rs → (∀ r ∈ rs, r.length ≤ 9 ∧ ∀ x ∈ r, CellOk x) → rs.length ≤ 2 →
            rCat (.ref e0.2.1) (.ref l) G (fun x H1 => gSub (tVar 3) (tVar 4) rSetD x [some (.ref a), some (.ref tl), some (.ref d), some (.ref F), some (sv t.name), some (.ref ca), some (.ref r), some (.int (n : Nat)), some (.ref oa), v9, v10, none, none] H1 D'.nx) := fun {G l zs rs k0} D' nxt lt v9 v10 b e1 hz ok2 l2 => by
          obtain ⟨ys, ey, hy⟩ := r0.keep b
          have lz := hz.1
          have lyy := hy.1
          refine ⟨e0.2.1, l, ys, zs, rfl, rfl, ey, e1, szl (by omega), fun p hp => ?_⟩
          have b1 := newB (o := .lst (ys ++ zs)) hp
          have ep : (upd G p (.lst (ys ++ zs))) p = some (.lst (ys ++ zs)) := upd_same
          generalize upd G p (.lst (ys ++ zs)) = G2 at b1 ep ⊢
          have b2 := b.trans b1
          have db2 := db9.keep b2
          have rw2 : RwsAt G2 p (e0.2.2 ++ rs) := ⟨_, ep, each_appK (hy.mono fun _ _ z => z.fix (CR := 0) b1.fix0) (hz.mono fun _ _ z => z.fix (CR := 0) b1.fix0)⟩
          have ro : RowsOk (e0.2.2 ++ rs) := ⟨fun q hq => (List.mem_append.mp hq).elim (r0'.1 q) (ok2 q), by rw [List.length_append]; omega⟩
          have eo : EntOk K G2 (.inr (S t.name), .ref p, .list ((e0.2.2 ++ rs).map rowD)) := dbE_ok (e := (t.name, p, e0.2.2 ++ rs)) rw2 ro (by rw [← en0]; exact r0n)
          obtain ⟨ls', p1, p2, _, p3⟩ := put_ent (es2.map dbE) (.inr (S t.name)) (.ref p) (.list ((e0.2.2 ++ rs).map rowD))
          rw [ekv_dbE] at p1
          refine ⟨_, rfl, _, rfl, F, _, rfl, .inl ⟨_, .inr (S t.name), db2.at_, rfl, szt (by rw [List.length_map]; omega), rfl⟩, ?_⟩
          rw [p1]
          exact nxd (b09.trans (But.of b2)) (f9.keep b2) db2.at_ D' nxt lt v9 v10 ls' (fun y hy => (p2 y hy).elim (fun z => entG db2 y z) (fun z => by rw [z]; exact eo)) (by rw [List.length_map] at p3; omega)
        have dg9 : DGet H9 F (sv t.name) (some (.ref e0.2.1)) := by rw [← hval]; exact .inl ⟨_, .inr (S t.name), .inl db9.at_, rfl, rfl⟩
        refine way_if (K := K) (w := w) (H := H) (H9 := H9) 2 w2 (fun en D' ert nxt v9 v10 => ?_) (fun σ G w3 => ?_)
        · have dg9 : DGet H9 F (sv t.name) (some (.ref e0.2.1)) := by rw [← hval]; exact .inl ⟨_, .inr (S t.name), .inl db9.at_, rfl, rfl⟩
          obtain ⟨ys, ey, hy⟩ := id r0
          refine ⟨_, rfl, _, rfl, _, rfl, F, _, rfl, dg9, e0.2.1, ys, rfl, .inl ⟨SqL.of ey, fun p hp => ?_⟩⟩
          have b1 := newB (o := .tup ys) hp
          have e1 : (upd H9 p (.tup ys)) p = some (.tup ys) := upd_same
          generalize upd H9 p (.tup ys) = G1 at b1 e1 ⊢
          refine fun q hq => ?_
          have b2 := newB (o := .dK []) hq
          have e2 : (upd G1 q (.dK [])) q = some (.dK []) := upd_same
          generalize upd G1 q (.dK []) = G2 at b2 e2 ⊢
          refine ⟨szl (by simp), fun l hl => ?_⟩
          have b3 := newB (o := .lst [.ref p, .non, .ref q, .str (Str.ofString "a"), .int 7]) hl
          have e3 : (upd G2 l (.lst [.ref p, .non, .ref q, .str (Str.ofString "a"), .int 7])) l = some (.lst [.ref p, .non, .ref q, .str (Str.ofString "a"), .int 7]) := upd_same
          have fl := f9.keep (b1.trans b2)
          have nla : l ≠ a := fun z => by obtain ⟨_, _, y⟩ := fl; rw [z, y] at hl; cases hl
          generalize upd G2 l (.lst [.ref p, .non, .ref q, .str (Str.ofString "a"), .int 7]) = G3 at b3 e3 ⊢
          have b13 := b1.trans (b2.trans b3)
          have f3' := f9.keep b13
          obtain ⟨q1, q2, ha3⟩ := id f3'
          have ea9 : ∃ xs, H9 a = some (.lst xs) := let ⟨_, _, y⟩ := f9; ⟨_, y⟩
          obtain ⟨xs9, ea9⟩ := ea9
          refine ⟨a, l, _, rfl, by simp, by simp, f3', nla, e3, fun G x bG fG hx => ?_⟩
          have b9G : But [a] H9 G := (But.of b13).trans bG
          have dbG := db9.keepL b9G ea9 far2
          have npa : p ≠ a := fun z => by rw [z, ea9] at hp; cases hp
          have nqa : q ≠ a := fun z => by have := b1.at ea9; rw [z, this] at hq; cases hq
          have ep : G p = some (.tup ys) := bG.at1 ((b2.trans b3).at e1) npa
          have eq : G q = some (.dK []) := bG.at1 (b3.at e2) nqa
          have hyG : Each (RowV G) ys e0.2.2 := hy.mono fun _ _ z => z.fix (fixL b9G ea9)
          obtain ⟨dx', hdx⟩ : ∃ d, EntOk K G (.inr (S t.name), x, d) := by
            simp only [List.mem_cons, List.not_mem_nil, or_false] at hx
            rcases hx with rfl | rfl | rfl | rfl | rfl
            · exact ⟨.tuple (e0.2.2.map rowD), .inl (.inl (.tup (SqT.of ep) (dp_rows hyG))), bnd_none (fun _ z => nomatch z), (GE.tup (n := 1) (m := 378) (k := 9) (fun y hy => by
                obtain ⟨c, hc, rfl⟩ := List.mem_map.mp hy
                exact ge_row (r0'.1 c hc).2 (r0'.1 c hc).1) (by rw [List.length_map]; exact r0'.2)).mono, gname⟩
            · exact ⟨.none, .inl (.inl .non), bnd_none (fun _ z => nomatch z), GE.non.mono (n := 0) (m := 0), gname⟩
            · exact ⟨.dict [], .inl (.inr ⟨⟨q, rfl, eq⟩, rfl⟩), bnd_none (fun _ z => nomatch z), (ge_empty (m := 0)).mono, gname⟩
            · exact ⟨.str (Str.ofString "a"), .inl (.inl (.str _)), bnd_none (fun _ z => nomatch z), ge_a (by omega), gname⟩
            · exact ⟨.int 7, .inl (.inl (.int _)), bnd_none (fun _ z => nomatch z), (GE.int (i := 7) (by decide)).mono, gname⟩
          obtain ⟨ls', p1, p2, _, p3⟩ := put_ent (es2.map dbE) (.inr (S t.name)) x dx'
          rw [ekv_dbE] at p1
          refine ⟨_, rfl, _, rfl, F, _, rfl, .inl ⟨_, .inr (S t.name), dbG.at_, rfl, szt (by rw [List.length_map]; omega), rfl⟩, ?_⟩
          rw [p1]
          exact nxd (b09.trans b9G) fG dbG.at_ D' nxt (by omega) v9 v10 ls' (fun y hy => (p2 y hy).elim (fun z => entG dbG y z) (fun z => by rw [z]; exact hdx)) (by rw [List.length_map] at p3; omega)
        refine way_if (K := K) (w := w) (H := H) (H9 := H9) 3 w3 (fun en D' ert nxt v9 v10 => ?_) (fun σ G w4 => ?_)
        · obtain ⟨ys, ey, hy⟩ := id r0
          obtain ⟨_, _, ea9⟩ := id f9
          have lc : (cellVs (List.replicate t.cols.length (some 5))).length = t.cols.length := by rw [cellVs_len, List.length_replicate]
          have l1 : 1 ≤ t.cols.length := by cases h : t.cols with
            | nil => exact absurd h tc0
            | cons _ _ => simp
          refine ⟨_, rfl, _, rfl, F, _, rfl, dg9, tyLs ey, _, rfl, _, rfl, szt (by simp), fun p1 hp1 => ?_⟩
          have b1 := newB (o := .tup [.int 1]) hp1
          have e1 : (upd H9 p1 (.tup [.int 1])) p1 = some (.tup [.int 1]) := upd_same
          generalize upd H9 p1 (.tup [.int 1]) = G1 at b1 e1 ⊢
          refine catA_go (b1.at er) e1 (szl (by rw [lc]; simp; omega)) fun p2 G2 b2 e2 => ?_
          have b12 := b1.trans b2
          refine ⟨_, rfl, _, rfl, ?_⟩
          dsimp only [tNoPart]
          refine ⟨r, _, rfl, SqT.of (b12.at er), (by rw [lc, show (1 : Int) = ((1 : Nat) : Int) from rfl, HT.sIx_nat, HT.sIx_none]; omega), fun p3 hp3 => ?_⟩
          rw [show (1 : Int) = ((1 : Nat) : Int) from rfl, cut_drop]
          have b3 := newB (o := .tup ((cellVs (List.replicate t.cols.length (some 5))).drop 1)) hp3
          have e3 : (upd G2 p3 (.tup ((cellVs (List.replicate t.cols.length (some 5))).drop 1))) p3 = some (.tup ((cellVs (List.replicate t.cols.length (some 5))).drop 1)) := upd_same
          generalize upd G2 p3 (.tup ((cellVs (List.replicate t.cols.length (some 5))).drop 1)) = G3 at b3 e3 ⊢
          have b13 := b12.trans b3
          refine ⟨_, rfl, r, _, rfl, .inr (SqT.of (b13.at er)), fun p4 hp4 => ?_⟩
          have b4' := newB (o := .lst (cellVs (List.replicate t.cols.length (some 5)))) hp4
          have e4' : (upd G3 p4 (.lst (cellVs (List.replicate t.cols.length (some 5))))) p4 = some (.lst (cellVs (List.replicate t.cols.length (some 5)))) := upd_same
          generalize upd G3 p4 (.lst (cellVs (List.replicate t.cols.length (some 5)))) = G4 at b4' e4' ⊢
          have b14 := b13.trans b4'
          refine fun p5 hp5 => ?_
          have b5' := newB (o := .dK []) hp5
          have e5' : (upd G4 p5 (.dK [])) p5 = some (.dK []) := upd_same
          generalize upd G4 p5 (.dK []) = G5 at b5' e5' ⊢
          have b15 := b14.trans b5'
          refine ⟨szl (by simp), fun p6 hp6 => ?_⟩
          have b6' := newB (o := .tup []) hp6
          have e6' : (upd G5 p6 (.tup [])) p6 = some (.tup []) := upd_same
          generalize upd G5 p6 (.tup []) = G6 at b6' e6' ⊢
          have b16 := b15.trans b6'
          refine ⟨szl (by simp), fun l hl => ?_⟩
          have b7' := newB (o := .lst [.ref p2, .ref p3, .ref p4, .non, .int 7, .str (Str.ofString "a"), .ref p5, .ref p6]) hl
          have e7' : (upd G6 l (.lst [.ref p2, .ref p3, .ref p4, .non, .int 7, .str (Str.ofString "a"), .ref p5, .ref p6])) l = some (.lst [.ref p2, .ref p3, .ref p4, .non, .int 7, .str (Str.ofString "a"), .ref p5, .ref p6]) := upd_same
          have nla : l ≠ a := fun z => by rw [z, b16.at ea9] at hl; cases hl
          generalize upd G6 l (.lst [.ref p2, .ref p3, .ref p4, .non, .int 7, .str (Str.ofString "a"), .ref p5, .ref p6]) = G7 at b7' e7' ⊢
          have b17 := b16.trans b7'
          refine ⟨a, l, _, rfl, by simp, by simp, f9.keep b17, nla, e7', fun G x bG fG hx => ?_⟩
          have b9G : But [a] H9 G := (But.of b17).trans bG
          have dbG := db9.keepL b9G ea9 far2
          have nea := far2 e0 he0
          have hyG : Each (RowV G) ys e0.2.2 := hy.mono fun _ _ z => z.fix (fixL b9G ea9)
          have eyG := b9G.at1 ey nea
          have nn : ∀ {y : Addr}, H9 y = none → y ≠ a := fun h z => by rw [z, ea9] at h; cases h
          have tl2 : ∀ {p : Addr} {zs : List V} {G1 : Hp}, But [] H9 G1 → But [] G1 G7 → G1 p = some (.tup zs) → G p = some (.tup zs) := fun {p zs G1} b0 b h => bG.at1 (b.at h) (fun z => by rw [z, b0.at ea9] at h; cases h)
          have g2 := tl2 b12 (b3.trans (b4'.trans (b5'.trans (b6'.trans b7')))) e2
          have g3 := tl2 b13 (b4'.trans (b5'.trans (b6'.trans b7'))) e3
          have g4 := bG.at1 ((b5'.trans (b6'.trans b7')).at e4') (nn (b13.free hp4 (by simp)))
          have g5 := bG.at1 ((b6'.trans b7').at e5') (nn (b14.free hp5 (by simp)))
          have g6 := tl2 b16 b7' e6'
          have ne0 : ∀ {p : Addr} {o : HO}, G p = some o → (∀ zs, o ≠ .lst zs) → p ≠ e0.2.1 := fun h q z => by rw [z, eyG] at h; exact q _ (Option.some.inj h).symm
          have n4 : p4 ≠ e0.2.1 := fun z => by have := b13.at ey; rw [← z, hp4] at this; cases this
          obtain ⟨dx, hk, hd⟩ : ∃ d, RowK d ∧ ∀ o, RowA K (upd G e0.2.1 o) x d := by
            simp only [List.mem_cons, List.not_mem_nil, or_false] at hx
            have row : ∀ {p : Addr} {c : Cells}, G p = some (.tup (cellVs c)) → c.length ≤ 9 → (∀ x ∈ c, CellOk x) → ∃ d, RowK d ∧ ∀ o, RowA K (upd G e0.2.1 o) (.ref p) d := fun {p c} h l ok => ⟨rowD c, RowK.row l ok, fun o => .inl (.tup (SqT.of (by rw [upd_ne (ne0 h fun _ z => nomatch z)]; exact h)) (dp_cells c))⟩
            rcases hx with rfl | rfl | rfl | rfl | rfl | rfl | rfl | rfl
            · refine row (c := List.replicate t.cols.length (some 5) ++ [some 1]) (by rw [cellVs_app]; exact g2) (by simp; omega) fun x hx => ?_
              rcases List.mem_append.mp hx with z | z
              · exact five.2 x z
              · rw [List.mem_singleton.mp z]; exact ⟨by decide, by decide⟩
            · exact row (c := (List.replicate t.cols.length (some 5)).drop 1) (by unfold cellVs at g3 ⊢; rw [List.map_drop]; exact g3) (by simp; omega) fun x hx => five.2 x (List.mem_of_mem_drop hx)
            · refine ⟨.list ((List.replicate t.cols.length (some 5)).map cellD), RowK.plain ((GE.lst (n := 0) (m := 41) (k := 9) (fun y hy => by
                obtain ⟨c, hc, rfl⟩ := List.mem_map.mp hy
                exact ge_cell (five.2 c hc)) (by rw [List.length_map]; exact five.1)).mono) (fun _ z => nomatch z), fun o => .inl (.lst (SqL.of (by rw [upd_ne n4]; exact g4)) (dp_cells _))⟩
            · exact ⟨.none, RowK.plain (GE.non.mono (n := 0) (m := 0)) (fun _ z => nomatch z), fun o => .inl .non⟩
            · exact ⟨.int 7, RowK.plain ((GE.int (i := 7) (by decide)).mono) (fun _ z => nomatch z), fun o => .inl (.int _)⟩
            · exact ⟨.str (Str.ofString "a"), RowK.plain (ge_a (by omega)) (fun _ z => nomatch z), fun o => .inl (.str _)⟩
            · exact ⟨.dict [], RowK.plain ((ge_empty (m := 0)).mono) (fun _ z => nomatch z), fun o => .inr ⟨⟨p5, rfl, by rw [upd_ne (ne0 g5 fun _ z => nomatch z)]; exact g5⟩, rfl⟩⟩
            · exact row (c := []) g6 (by simp) (by simp)
          have lys : ys.length ≤ 3 := by have := hy.1; omega
          refine ⟨e0.2.1, ys, x, rfl, rfl, eyG, szt (by omega), ?_⟩
          have eapp : ys ++ [x] = ys.take ys.length ++ [x] ++ ys.drop ys.length := by rw [List.take_length, List.drop_length, List.append_nil]
          refine nxt _ _ ⟨⟨v9, v10, rfl⟩, .inr ⟨by omega, (b09.trans b9G).put0 (fr2 e0 he0), ?_, ?_⟩⟩
          · obtain ⟨q1, q2, q⟩ := fG
            exact ⟨q1, q2, by rw [upd_ne nea.symm]; exact q⟩
          · rw [eapp]
            exact ins_done dbG (fun e he => ⟨(rok e he).2.1, (rok e he).2.2.1⟩) he0 eyG hyG (hd _) hk r03 l2e
        refine way_if (K := K) (w := w) (H := H) (H9 := H9) 4 w4 (fun en D' ert nxt v9 v10 => ?_) (fun σ G w5 => ?_)
        · obtain ⟨ys, ey, hy⟩ := id r0
          obtain ⟨_, _, ea9⟩ := id f9
          have lc : (cellVs (List.replicate t.cols.length (some 5))).length = t.cols.length := by rw [cellVs_len, List.length_replicate]
          have l1 : 1 ≤ t.cols.length := by cases h : t.cols with
            | nil => exact absurd h tc0
            | cons _ _ => simp
          refine ⟨_, rfl, _, rfl, r, _, rfl, .inr (SqT.of er), a, t.cols.length, by rw [lc]; rfl, l1, by omega, f9, fun G1 at_ b1 f1 hat => ?_⟩
          have b91 := b1
          have db1 := db9.keepL b91 ea9 far2
          have nea := far2 e0 he0
          have dg1 : DGet G1 F (sv t.name) (some (.ref e0.2.1)) := by rw [← hval]; exact .inl ⟨_, .inr (S t.name), .inl db1.at_, rfl, rfl⟩
          have ey1 := b1.at1 ey nea
          dsimp only [gName]
          refine ⟨_, rfl, _, rfl, F, _, rfl, dg1, tyLs ey1, _, rfl, a, 2, rfl, by decide, by decide, f1, fun G2 i b2 f2 hi => ?_⟩
          have b92 := b1.trans b2
          have er2 := b92.at1 er nra
          refine ⟨_, rfl, ?_⟩
          dsimp only [tNoPart]
          refine ⟨_, rfl, _, rfl, r, _, rfl, SqT.of er2, (by rw [lc, HT.sIx_nat, HT.sIx_none]; omega), fun p1 hp1 => ?_⟩
          rw [cut_take]
          have b3 := newB (o := .tup ((cellVs (List.replicate t.cols.length (some 5))).take at_)) hp1
          have e3 : (upd G2 p1 (.tup ((cellVs (List.replicate t.cols.length (some 5))).take at_))) p1 = some (.tup ((cellVs (List.replicate t.cols.length (some 5))).take at_)) := upd_same
          generalize upd G2 p1 (.tup ((cellVs (List.replicate t.cols.length (some 5))).take at_)) = G3 at b3 e3 ⊢
          have f3 := f2.keep b3
          have b93 := b92.trans (But.of b3)
          have noa : oa ≠ a := fun z => by rw [z, ea9] at e9; cases e9
          have np1 : p1 ≠ a := fun z => by obtain ⟨_, _, y⟩ := f2; rw [z, y] at hp1; cases hp1
          refine ⟨_, rfl, _, rfl, a, oa, _, rfl, by simp, by simp, f3, noa, b93.at1 e9 noa, fun G4 x b4 f4 hx => ?_⟩
          have b94 := b93.trans b4
          refine ⟨szl (by simp), fun p2 hp2 => ?_⟩
          have b5 := newB (o := .tup [x]) hp2
          have e5 : (upd G4 p2 (.tup [x])) p2 = some (.tup [x]) := upd_same
          generalize upd G4 p2 (.tup [x]) = G5 at b5 e5 ⊢
          have e35 := b5.at (b4.at1 e3 np1)
          refine catA_go e35 e5 (szl (by rw [List.length_take, lc]; simp; omega)) fun p3 G6 b6 e6 => ?_
          have b95 := b94.trans (But.of b5)
          have b96 := b95.trans (But.of b6)
          refine ⟨_, rfl, _, rfl, _, _, rfl, rfl, ((at_ + 1 : Nat) : Int), rfl, ?_⟩
          dsimp only [tNoPart]
          refine ⟨r, _, rfl, SqT.of (b96.at1 er nra), (by rw [lc, HT.sIx_nat, HT.sIx_none]; omega), fun p4 hp4 => ?_⟩
          rw [cut_drop]
          have b7 := newB (o := .tup ((cellVs (List.replicate t.cols.length (some 5))).drop (at_ + 1))) hp4
          have e7 : (upd G6 p4 (.tup ((cellVs (List.replicate t.cols.length (some 5))).drop (at_ + 1)))) p4 = some (.tup ((cellVs (List.replicate t.cols.length (some 5))).drop (at_ + 1))) := upd_same
          generalize upd G6 p4 (.tup ((cellVs (List.replicate t.cols.length (some 5))).drop (at_ + 1))) = G7 at b7 e7 ⊢
          refine catA_go (b7.at e6) e7 (szl (by simp only [List.length_append, List.length_take, List.length_drop, lc, List.length_cons, List.length_nil]; omega)) fun p5 G8 b8 e8 => ?_
          have b98 := b96.trans (But.of (b7.trans b8))
          have f8 := f4.keep (b5.trans (b6.trans (b7.trans b8)))
          have db8 := db9.keepL b98 ea9 far2
          have hy8 : Each (RowV G8) ys e0.2.2 := hy.mono fun _ _ z => z.fix (fixL b98 ea9)
          have ey8 := b98.at1 ey nea
          have nq0 : q0 ≠ a := fun z => by rw [z, ea9] at eq0; cases eq0
          have nq1 : q1 ≠ a := fun z => by rw [z, ea9] at eq1; cases eq1
          have g0 := b98.at1 eq0 nq0
          have g1 := b98.at1 eq1 nq1
          have ne0 : ∀ {p : Addr} {o : HO}, G8 p = some o → (∀ zs, o ≠ .lst zs) → p ≠ e0.2.1 := fun h q z => by rw [z, ey8] at h; exact q _ (Option.some.inj h).symm
          obtain ⟨dx, hd, hl1, hl2, hge⟩ : ∃ d, (∀ o, Dp K (upd G8 e0.2.1 o) x d) ∧ d.canLay0 = true ∧ d.depth ≤ 8 ∧ GE 3 100 d := by
            simp only [List.mem_cons, List.not_mem_nil, or_false] at hx
            rcases hx with rfl | rfl | rfl | rfl | rfl | rfl | rfl | rfl | rfl
            · exact ⟨.bool true, fun _ => .bl _, by decide +kernel, by decide +kernel, GE.bl.mono (n := 0) (m := 0)⟩
            · exact ⟨.int (-1), fun _ => .int _, by decide +kernel, by decide +kernel, (GE.int (i := -1) (by decide)).mono⟩
            · exact ⟨.int (10 ^ (9 : Int).toNat + 1), fun _ => .int _, by decide +kernel, by decide +kernel, (GE.int (i := 10 ^ (9 : Int).toNat + 1) (by decide)).mono⟩
            · exact ⟨.str (Str.ofString "1"), fun _ => .str _, by decide +kernel, by decide +kernel, GE.mono (n := 0) (m := 1) ⟨by decide +kernel, by decide +kernel, by decide +kernel, by decide +kernel⟩⟩
            · exact ⟨.tuple [], fun _ => .tup (SqT.of (by rw [upd_ne (ne0 g0 fun _ z => nomatch z)]; exact g0)) .nil, by decide +kernel, by decide +kernel, (GE.tup (n := 0) (m := 0) (k := 0) (xs := []) (by simp) (by simp)).mono⟩
            · exact ⟨.list [], fun _ => .lst (SqL.of (by rw [upd_ne (q1far e0 he0).symm]; exact g1)) .nil, by decide +kernel, by decide +kernel, (GE.lst (n := 0) (m := 0) (k := 0) (xs := []) (by simp) (by simp)).mono⟩
            · exact ⟨.none, fun _ => .non, by decide +kernel, by decide +kernel, GE.non.mono (n := 0) (m := 0)⟩
            · exact ⟨.int (10 ^ (9 : Int).toNat), fun _ => .int _, by decide +kernel, by decide +kernel, (GE.int (i := 10 ^ (9 : Int).toNat) (by decide)).mono⟩
            · exact ⟨.int 0, fun _ => .int _, by decide +kernel, by decide +kernel, (GE.int (i := 0) (by decide)).mono⟩
          have hrow : ∀ o, RowA K (upd G8 e0.2.1 o) (.ref p5) (.tuple (((List.replicate t.cols.length (some 5)).take at_).map cellD ++ [dx] ++ ((List.replicate t.cols.length (some 5)).drop (at_ + 1)).map cellD)) := fun o => by
            refine .inl (.tup (SqT.of (by rw [upd_ne (ne0 e8 fun _ z => nomatch z)]; exact e8)) ?_)
            have c1 : (cellVs (List.replicate t.cols.length (some 5))).take at_ = cellVs ((List.replicate t.cols.length (some 5)).take at_) := by unfold cellVs; rw [List.map_take]
            have c2 : (cellVs (List.replicate t.cols.length (some 5))).drop (at_ + 1) = cellVs ((List.replicate t.cols.length (some 5)).drop (at_ + 1)) := by unfold cellVs; rw [List.map_drop]
            rw [c1, c2]
            exact dps_app (dps_app (dp_cells _) (.cons (hd o) .nil)) (dp_cells _)
          have mem5 : ∀ d ∈ (((List.replicate t.cols.length (some 5)).take at_).map cellD ++ [dx] ++ ((List.replicate t.cols.length (some 5)).drop (at_ + 1)).map cellD), d = dx ∨ d = .int 5 := fun d hd => by
            rcases List.mem_append.mp hd with z | z
            · rcases List.mem_append.mp z with z | z
              · obtain ⟨c, hc, rfl⟩ := List.mem_map.mp z
                rw [(List.mem_replicate.mp (List.mem_of_mem_take hc)).2]; exact .inr rfl
              · exact .inl (List.mem_singleton.mp z)
            · obtain ⟨c, hc, rfl⟩ := List.mem_map.mp z
              rw [(List.mem_replicate.mp (List.mem_of_mem_drop hc)).2]; exact .inr rfl
          have hk : RowK (.tuple (((List.replicate t.cols.length (some 5)).take at_).map cellD ++ [dx] ++ ((List.replicate t.cols.length (some 5)).drop (at_ + 1)).map cellD)) := by
            refine ⟨fun es q => ?_, (GE.tup (n := 3) (m := 100) (k := 9) (fun d hd => ?_) (by simp only [List.length_append, List.length_map, List.length_take, List.length_drop, List.length_replicate, List.length_cons, List.length_nil]; omega)).mono⟩
            · cases q
              refine ⟨by simp only [List.length_append, List.length_map, List.length_take, List.length_drop, List.length_replicate, List.length_cons, List.length_nil]; omega, fun d hd => ?_⟩
              rcases mem5 d hd with rfl | rfl
              · exact ⟨hl1, hl2⟩
              · exact ⟨by decide +kernel, by decide +kernel⟩
            · rcases mem5 d hd with rfl | rfl
              · exact hge
              · exact (GE.int (i := 5) (by decide)).mono
          have lys : ys.length ≤ 3 := by have := hy.1; omega
          refine ⟨e0.2.1, ys, (i : Int), .ref p5, rfl, rfl, ey8, szt (by omega), by omega, by omega, ?_⟩
          refine nxt _ _ ⟨⟨some (.int at_), v10, rfl⟩, .inr ⟨by omega, (b09.trans b98).put0 (fr2 e0 he0), ?_, ?_⟩⟩
          · obtain ⟨q1, q2, q⟩ := f8
            exact ⟨q1, q2, by rw [upd_ne nea.symm]; exact q⟩
          · rw [Int.toNat_natCast]
            exact ins_done db8 (fun e he => ⟨(rok e he).2.1, (rok e he).2.2.1⟩) he0 ey8 hy8 (hrow _) hk r03 l2e
        refine way_if (K := K) (w := w) (H := H) (H9 := H9) 5 w5 (fun en D' ert nxt v9 v10 => ?_) (fun σ G w6 => ?_)
        · obtain ⟨ys, ey, hy⟩ := id r0
          refine ⟨_, rfl, _, rfl, F, _, rfl, dg9, _, rfl, _, rfl, F, _, rfl, dg9, _, rfl, e0.2.1, ys, rfl, SqL.of ey, fun l hl => ?_⟩
          have b1 := newB (o := .lst (cutV ys none (some 1))) hl
          have e1 : (upd H9 l (.lst (cutV ys none (some 1)))) l = some (.lst (cutV ys none (some 1))) := upd_same
          generalize upd H9 l (.lst (cutV ys none (some 1))) = G1 at b1 e1 ⊢
          have ec : cutV ys none (some 1) = ys.take 1 := cut_take ys 1
          rw [ec] at e1
          refine cat_way (rs := e0.2.2.take 1) D' nxt (by omega) v9 v10 b1 e1 ?_ (fun q hq => r0'.1 q (List.mem_of_mem_take hq)) (by rw [List.length_take]; omega)
          refine ⟨by rw [List.length_take, List.length_take, hy.1], fun i v x h1 h2 => ?_⟩
          rw [List.getElem?_take] at h1 h2
          split at h1
          · rename_i hi
            rw [if_pos hi] at h2
            exact (hy.2 i v x h1 h2).fix (CR := 0) b1.fix0
          · cases h1
        refine way_if (K := K) (w := w) (H := H) (H9 := H9) 6 w6 (fun en D' ert nxt v9 v10 => ?_) (fun σ G w7 => ?_)
        · refine ⟨_, rfl, szl (by simp), fun l0 hl0 => ?_⟩
          have b1 := newB (o := .lst []) hl0
          have e1 : (upd H9 l0 (.lst [])) l0 = some (.lst []) := upd_same
          generalize upd H9 l0 (.lst []) = G1 at b1 e1 ⊢
          refine ⟨_, rfl, ?_⟩
          refine ⟨F, _, rfl, b1.at db9.at_, fun G2 p tsA b2' hp _ _ ep hpr => ?_⟩
          have b2 : But [] G1 G2 := fun x o _ h => b2' x o h
          refine fun u hu => ?_
          have b3 := newB (o := .dK []) hu
          have e3 : (upd G2 u (.dK [])) u = some (.dK []) := upd_same
          generalize upd G2 u (.dK []) = G3 at b3 e3 ⊢
          have b13 := b1.trans (b2.trans b3)
          refine ⟨_, rfl, F, _, rfl, b13.at db9.at_, fun v hv => ?_⟩
          have b4 := newB (o := .tup ((es2.map fun e => ((.inr (S e.1) : Key), V.ref e.2.1)).map fun kv => kV kv.1)) hv
          have e4 : (upd G3 v (.tup ((es2.map fun e => ((.inr (S e.1) : Key), V.ref e.2.1)).map fun kv => kV kv.1))) v = some (.tup ((es2.map fun e => ((.inr (S e.1) : Key), V.ref e.2.1)).map fun kv => kV kv.1)) := upd_same
          generalize upd G3 v (.tup ((es2.map fun e => ((.inr (S e.1) : Key), V.ref e.2.1)).map fun kv => kV kv.1)) = G4 at b4 e4 ⊢
          refine ⟨szl (by simp), fun l hl => ?_⟩
          have b14 := b13.trans b4
          have b5 := newB (o := .lst [.non, .ref l0, .ref p, .int 7, .str (Str.ofString ""), .ref u, .ref v]) hl
          have e5 : (upd G4 l (.lst [.non, .ref l0, .ref p, .int 7, .str (Str.ofString ""), .ref u, .ref v])) l = some (.lst [.non, .ref l0, .ref p, .int 7, .str (Str.ofString ""), .ref u, .ref v]) := upd_same
          have fl := f9.keep b14
          have nla : l ≠ a := fun z => by obtain ⟨_, _, y⟩ := fl; rw [z, y] at hl; cases hl
          generalize upd G4 l (.lst [.non, .ref l0, .ref p, .int 7, .str (Str.ofString ""), .ref u, .ref v]) = G5 at b5 e5 ⊢
          have b15 := b14.trans b5
          obtain ⟨_, _, ea9⟩ := id f9
          refine ⟨a, l, _, rfl, by simp, by simp, f9.keep b15, nla, e5, fun G x bG fG hx => ?_⟩
          have b9G : But [a] H9 G := (But.of b15).trans bG
          have dbG := db9.keepL b9G ea9 far2
          have fin : ∀ o, MayR K w G x o → BndO o → GX o.data → D'.rt x G := fun o m1 m2 m3 => by
            rw [ert]
            exact k _ _ o (b09.trans b9G) fG m1 m2 m3
          have nn : ∀ {y : Addr}, H9 y = none → y ≠ a := fun h z => by rw [z, ea9] at h; cases h
          have g0 : G l0 = some (.lst []) := bG.at1 ((b2.trans (b3.trans (b4.trans b5))).at e1) (nn hl0)
          have gp : G p = some (.lst (tsA.map V.ref)) := bG.at1 ((b3.trans (b4.trans b5)).at ep) (nn (b1.free hp (by simp)))
          have gu : G u = some (.dK []) := bG.at1 ((b4.trans b5).at e3) (nn ((b1.trans b2).free hu (by simp)))
          have gv := bG.at1 (b5.at e4) (nn (b13.free hv (by simp)))
          have ea2 : ∃ ys, G2 a = some (.lst ys) := ⟨_, (b1.trans b2).at ea9⟩
          have dpi := items_dp (K := K) (G2 := G2) (G := G) (fun t xs h => bG.at1 ((b3.trans (b4.trans b5)).at h) (fun z => by obtain ⟨_, y⟩ := ea2; rw [z, y] at h; cases h)) hpr dbG.rows
          have dpn := names_dp (K := K) (H := G) es2
          simp only [List.mem_cons, List.not_mem_nil, or_false] at hx
          rcases hx with rfl | rfl | rfl | rfl | rfl | rfl | rfl
          · exact fin (.plain .none) .non True.intro (GE.non (m := 0)).gx
          · exact fin (.plain (.list [])) (.lst (SqL.of g0) .nil) True.intro (GE.lst (n := 0) (m := 0) (k := 0) (xs := []) (by simp) (by simp)).gx
          · exact fin (.plain (.list (es2.map itemD))) (.lst (SqL.of gp) dpi) True.intro (GE.lst (n := 3) (m := 7000) (k := 4) (fun y hy => by
              obtain ⟨e, he, rfl⟩ := List.mem_map.mp hy
              obtain ⟨_, q2, q3, _⟩ := rok e he
              exact item_ge q2 q3) (by rw [List.length_map]; exact l2e)).gx
          · exact fin (.plain (.int 7)) (.int _) True.intro (GE.int (i := 7) (by decide)).gx
          · exact fin (.plain (.str (Str.ofString ""))) (.str _) True.intro ⟨by decide +kernel, by decide +kernel, by decide +kernel, by decide +kernel⟩
          · exact fin (.dict []) ⟨u, rfl, .inl ⟨[], gu, rfl, Each.nil⟩⟩ (fun p hp => nomatch hp) (ge_empty (m := 0)).gx
          · exact fin (.plain (.tuple (es2.map fun e => .str (S e.1)))) (.tup (SqT.of gv) (by rw [List.map_map]; exact dpn)) True.intro (GE.tup (n := 0) (m := 41) (k := 4) (fun y hy => by
              obtain ⟨e, he, rfl⟩ := List.mem_map.mp hy
              obtain ⟨_, q2, q3, _⟩ := rok e he
              exact GE.str q3.1 q3.2) (by rw [List.length_map]; exact l2e)).gx
        refine way_if (K := K) (w := w) (H := H) (H9 := H9) 7 w7 (fun en D' ert nxt v9 v10 => ?_) (fun σ G w8 => ?_)
        · obtain ⟨ls', p1, p2, p3, p4⟩ := drop_ent (es2.map dbE) (.inr (S t.name))
          rw [ekv_dbE] at p1
          refine ⟨_, rfl, F, rfl, .inl ⟨_, .inl db9.at_⟩, _, rfl, _, .inr (S t.name), _, db9.at_, rfl, hval, ?_⟩
          rw [p1]
          have kd := KeepD.upd (o := .dK (ls'.map ekv)) db9.at_ ne2
          have eF1 : (upd H9 F (.dK (ls'.map ekv))) F = some (.dK (ls'.map ekv)) := upd_same
          have ent1 : ∀ x ∈ ls', EntOk K (upd H9 F (.dK (ls'.map ekv))) x := fun x hx => (entOk x (p2 x hx).1).keepD kd
          have r1 : EntOk K (upd H9 F (.dK (ls'.map ekv))) (dbE e0) := (entOk _ (List.mem_map.mpr ⟨e0, he0, rfl⟩)).keepD kd
          have b1 : But [a] H (upd H9 F (.dK (ls'.map ekv))) := b09.put0 F0
          have f1 : FeedR (upd H9 F (.dK (ls'.map ekv))) a := by
            obtain ⟨q1, q2, q⟩ := f9
            exact ⟨q1, q2, by rw [upd_ne F2a.symm]; exact q⟩
          have bF : But [F] H9 (upd H9 F (.dK (ls'.map ekv))) := But.refl.put (by simp)
          have rw1 : ∀ e ∈ es2, RwsAt (upd H9 F (.dK (ls'.map ekv))) e.2.1 e.2.2 := fun e he => (db9.rows e he).keepD bF db9.at_
          clear ent1 r1 kd bF
          generalize upd H9 F (.dK (ls'.map ekv)) = G1 at eF1 b1 f1 rw1 ⊢
          dsimp only [gName]
          have nm8 := (name_small (okTs_name ok t tm)).2
          have la : (Str.ofString "a").length = 1 := by decide +kernel
          refine ⟨_, rfl, _, rfl, _, rfl, _, rfl, _, _, rfl, rfl, (by have h1 : (S t.name).length ≤ 8 := by rw [S_len]; exact nm8
                                                                      have := sizeLine_eq
                                                                      omega), _, rfl, szl (by simp), fun q hq => ?_⟩
          have b2 := newB (o := .tup [sv t.name]) hq
          have e2 : (upd G1 q (.tup [sv t.name])) q = some (.tup [sv t.name]) := upd_same
          generalize upd G1 q (.tup [sv t.name]) = G2 at b2 e2 ⊢
          refine ⟨szl (by simp), fun l hl => ?_⟩
          have b3 := newB (o := .lst [.str (S t.name ++ Str.ofString "a"), .int 7, .ref q, .non]) hl
          have e3 : (upd G2 l (.lst [.str (S t.name ++ Str.ofString "a"), .int 7, .ref q, .non])) l = some (.lst [.str (S t.name ++ Str.ofString "a"), .int 7, .ref q, .non]) := upd_same
          have fl := f1.keep b2
          have nla : l ≠ a := fun z => by obtain ⟨_, _, y⟩ := fl; rw [z, y] at hl; cases hl
          generalize upd G2 l (.lst [.str (S t.name ++ Str.ofString "a"), .int 7, .ref q, .non]) = G3 at b3 e3 ⊢
          have b13 := b2.trans b3
          obtain ⟨_, _, ha1⟩ := id f1
          refine ⟨a, l, _, rfl, by simp, by simp, f1.keep b13, nla, e3, fun G x bG fG hx => ?_⟩
          have b1G : But [a] G1 G := (But.of b13).trans bG
          have eFG := b1G.at1 eF1 F2a
          have nqa : q ≠ a := fun z => by rw [z, ha1] at hq; cases hq
          have eqG : G q = some (.tup [sv t.name]) := bG.at1 (b3.at e2) nqa
          have rwG : ∀ e ∈ es2, RwsAt G e.2.1 e.2.2 := fun e he => (rw1 e he).keepL b1G ha1 (far2 e he)
          have entG' : ∀ x ∈ es2.map dbE, EntOk K G x := fun x hx => by
            obtain ⟨e, he, rfl⟩ := List.mem_map.mp hx
            obtain ⟨_, q2, q3, _⟩ := rok e he
            exact dbE_ok (rwG e he) q2 q3
          have l5 : ls'.length ≤ 4 := by rw [List.length_map] at p3; omega
          have e0G := entG' (dbE e0) (List.mem_map.mpr ⟨e0, he0, rfl⟩)
          have nd0 : ((es2.map dbE).map (·.1)).Nodup := by
            rw [List.map_map]
            have : ((·.1) ∘ dbE) = (fun x => (Sum.inr (S x) : Key)) ∘ (fun e : Cn.T × Addr × List Cells => e.1) := rfl
            rw [this, ← List.map_map]
            exact List.pairwise_map.mpr (List.Pairwise.imp (fun a e => a (S_inj (Sum.inr.inj e))) (show (es2.map (·.1)).Nodup from by rw [en2]; exact ndn))
          have ndl := p4 nd0
          have entN : ∀ {o : HO}, ∀ x ∈ es2.map dbE, EntOk K (upd G F o) x := fun {o} x hx => by
            obtain ⟨e, he, rfl⟩ := List.mem_map.mp hx
            obtain ⟨_, q2, q3, _⟩ := rok e he
            exact dbE_ok ((rwG e he).keepD (But.refl.put (by simp)) eFG) q2 q3
          have putk : ∀ (kk : Key), GE 0 41 (nkD (nkOf kk)) → rSetX w (.ref F) (kV kk) (.ref e0.2.1) G fun H' => D'.nx [some (.ref a), some (.ref tl), some (.ref d), some (.ref F), some (sv t.name), some (.ref ca), some (.ref r), some (.int (n : Nat)), some (.ref oa), v9, some (.ref e0.2.1), none, none] H' := fun kk gk => by
            obtain ⟨ls2, u1, u2, _, u3⟩ := put_ent ls' kk (.ref e0.2.1) (dbE e0).2.2
            refine .inl ⟨F, _, rfl, .inl ⟨_, kk, eFG, rfl, szt (by rw [List.length_map]; omega), rfl⟩, ?_⟩
            rw [u1]
            refine nxt _ _ ⟨⟨v9, _, rfl⟩, .inr ⟨by omega, (b1.trans b1G).put0 F0, ?_, ?_⟩⟩
            · obtain ⟨q1, q2, q⟩ := fG
              exact ⟨q1, q2, by rw [upd_ne F2a.symm]; exact q⟩
            · refine done_of upd_same (fun x hx => (u2 x hx).elim (fun z => entN x (p2 x z).1) (fun z => ?_)) (by omega)
              rw [z]
              have := entN (o := .dK (ls2.map ekv)) (dbE e0) (List.mem_map.mpr ⟨e0, he0, rfl⟩)
              exact ⟨this.rows, this.bnd, this.ge, gk⟩
          have nixk : ∀ (kk : NK) (i : V), KeyVN G kk i → (∀ z, kk ≠ .text z) → (∀ z, kk ≠ .num z) → GE 5 42 (nkD kk) → rSetX w (.ref F) i (.ref e0.2.1) G fun H' => D'.nx [some (.ref a), some (.ref tl), some (.ref d), some (.ref F), some (sv t.name), some (.ref ca), some (.ref r), some (.int (n : Nat)), some (.ref oa), v9, some (.ref e0.2.1), none, none] H' := fun kk i hk n1 n2 gk => by
            refine .inr ⟨F, ls'.map ekv, kk, rfl, eFG, by rw [List.map_map]; exact ndl, by rw [List.length_map]; omega, hk, n1, n2, nxt _ _ ⟨⟨v9, _, rfl⟩, .inr ⟨by omega, (b1.trans b1G).put0 F0, ?_, ?_⟩⟩⟩
            · obtain ⟨q1, q2, q⟩ := fG
              exact ⟨q1, q2, by rw [upd_ne F2a.symm]; exact q⟩
            · have := entN (o := NixO w F ((ls'.map ekv).map toN ++ [(kk, i, .ref e0.2.1)])) (dbE e0) (List.mem_map.mpr ⟨e0, he0, rfl⟩)
              exact done_nix upd_same (fun x hx => entN x (p2 x hx).1) (by omega) ndl (hk.to fun b x e => by rw [upd_ne (fun z => by rw [z, eFG] at e; cases e)]; exact e) n1 n2 this.rows this.bnd this.ge gk
          simp only [List.mem_cons, List.not_mem_nil, or_false] at hx
          rcases hx with rfl | rfl | rfl | rfl
          · exact putk (.inr (S t.name ++ Str.ofString "a")) (by
              have e : S t.name ++ Str.ofString "a" = S (t.name ++ [97]) := by rw [show Str.ofString "a" = S [97] from by decide +kernel, S_app]
              rw [e]
              refine key_small ⟨fun c hc => ?_, by rw [List.length_append]; simp; omega⟩
              rcases List.mem_append.mp hc with z | z
              · exact (name_small (okTs_name ok t tm)).1 c z
              · rw [List.mem_singleton.mp z]; decide)
          · exact putk (.inl 7) (GE.int (i := 7) (by decide))
          · exact nixk (.tup [.text (S t.name)]) (.ref q) (.one eqG) (fun _ z => nomatch z) (fun _ z => nomatch z) ((GE.tup (n := 0) (m := 41) (k := 1) (xs := [.str (S t.name)]) (fun y hy => by rw [List.mem_singleton.mp hy]; exact gname) (by simp)).mono)
          · exact nixk .none .non .none (fun _ z => nomatch z) (fun _ z => nomatch z) (GE.non.mono (n := 0) (m := 0))
        refine way_if (K := K) (w := w) (H := H) (H9 := H9) 8 w8 (fun en D' ert nxt v9 v10 => ?_) (fun σ G w9 => ?_)
        · refine ⟨_, rfl, F, es2.map (fun e => ((.inr (S e.1) : Key), V.ref e.2.1)), es2.map (fun e => S e.1), rfl, .inl db9.at_, by rw [List.map_map, List.map_map]; rfl, by rw [List.length_map]; omega, fun ys p hperm _ hp => ?_⟩
          have b1 := newB (o := .lst (ys.map V.str)) hp
          have e1 : (upd H9 p (.lst (ys.map V.str))) p = some (.lst (ys.map V.str)) := upd_same
          generalize upd H9 p (.lst (ys.map V.str)) = G1 at b1 e1 ⊢
          refine ⟨p, rfl, _, rfl, _, rfl, false, _, rfl, SqL.of e1, fun q hq => ?_⟩
          have b2 := newB (o := .lst (if false = true then ys.map V.str else (ys.map V.str).reverse)) hq
          have e2 : (upd G1 q (.lst (if false = true then ys.map V.str else (ys.map V.str).reverse))) q = some (.lst (if false = true then ys.map V.str else (ys.map V.str).reverse)) := upd_same
          generalize upd G1 q (.lst (if false = true then ys.map V.str else (ys.map V.str).reverse)) = G2 at b2 e2 ⊢
          rw [if_neg (by decide)] at e2
          have b12 := b1.trans b2
          have db2 := db9.keep b12
          have lys : ys.length = es2.length := by rw [hperm.length_eq, List.length_map]
          rw [← List.map_reverse] at e2
          refine ⟨q, rfl, ⟨_, SqL.of e2⟩, fun D hD => ?_⟩
          refine turns (walk_list (K := K) (a := q) (xs := ys.reverse.map V.str)) (fun i G => But [] G2 G ∧ ∃ xs es3, G D = some (.lst xs) ∧ Each (PairV G) xs es3 ∧ es3.map (fun e => S e.1) = ys.reverse.take i ∧ ∀ e ∈ es3, e ∈ es2) ⟨newB hD, [], [], upd_same, Each.nil, rfl, by simp⟩ (fun i G _ e => sql_keep e.1 (SqL.of e2)) (fun i x G G' hi ⟨b, xs, es3, eD, hxs, em3, fr3⟩ yy => ?_) (fun G ⟨b, xs, es3, eD, hxs, em3, fr3⟩ => ?_)
          · obtain ⟨rfl, hx⟩ := yy
            rw [List.getElem?_map, Option.map_eq_some_iff] at hx
            obtain ⟨y, hy, rfl⟩ := hx
            have ym : y ∈ es2.map (fun e => S e.1) := hperm.mem_iff.mp (List.mem_reverse.mp (List.mem_of_getElem? hy))
            obtain ⟨e, he, rfl⟩ := List.mem_map.mp ym
            have dbG := db2.keep b
            have hv : valV (es2.map fun e => ((.inr (S e.1) : Key), V.ref e.2.1)) (.inr (S e.1)) = some (.ref e.2.1) := valV_at (n := e.1) (by rw [en2]; exact ndn) he
            have dg : DGet G' F (sv e.1) (some (.ref e.2.1)) := by rw [← hv]; exact .inl ⟨_, .inr (S e.1), .inl dbG.at_, rfl, rfl⟩
            refine ⟨rfl, _, rfl, _, rfl, _, rfl, F, _, rfl, dg, szl (by simp), fun u hu => ?_⟩
            have b3 := newB (o := .tup [.str (S e.1), .ref e.2.1]) hu
            have e3 : (upd G' u (.tup [.str (S e.1), .ref e.2.1])) u = some (.tup [.str (S e.1), .ref e.2.1]) := upd_same
            generalize upd G' u (.tup [.str (S e.1), .ref e.2.1]) = G3 at b3 e3 ⊢
            have eD3 := b3.at eD
            have lx : xs.length ≤ 4 := by
              have h1 := hxs.1
              have h2 := congrArg List.length em3
              rw [List.length_map, List.length_take, List.length_reverse] at h2
              omega
            have st : ys.reverse.take (i + 1) = ys.reverse.take i ++ [S e.1] := by rw [List.take_add_one, hy]; rfl
            refine ⟨_, eD3, szt (by omega), (b.trans b3).put0 hD, xs ++ [.ref u], es3 ++ [e], upd_same, ((hxs.mono fun _ _ z => z.keep b3).snoc (R := PairV G3) (v := .ref u) (x := e) ⟨u, rfl, e3⟩).mono fun _ _ z => PairV.upd (o := .lst (xs ++ [.ref u])) eD3 z, ?_, fun e' he' => ?_⟩
            · rw [st, List.map_append, em3]; rfl
            · rcases List.mem_append.mp he' with z | z
              · exact fr3 e' z
              · rw [List.mem_singleton.mp z]; exact he
          · rw [List.length_map, List.take_length] at em3
            obtain ⟨ps, hps, hpr⟩ := pairs_of (K := K) hxs
            have nd3 : (es3.map (·.1)).Nodup := by
              have h1 : (es3.map (fun e => S e.1)).Nodup := by
                rw [em3]
                refine (List.reverse_perm ys).nodup_iff.mpr (hperm.nodup_iff.mpr ?_)
                rw [show (fun e : Cn.T × Addr × List Cells => S e.1) = S ∘ (fun e => e.1) from rfl, ← List.map_map]
                exact List.pairwise_map.mpr (List.Pairwise.imp (fun a e => a (S_inj e)) (show (es2.map (·.1)).Nodup from by rw [en2]; exact ndn))
              refine List.pairwise_map.mpr (List.Pairwise.imp (fun a e => a (by rw [e])) (List.pairwise_map.mp h1))
            have l3 : es3.length ≤ 4 := by
              have := congrArg List.length em3
              rw [List.length_map, List.length_reverse] at this
              omega
            refine ⟨D, ps, es3.map kvE, rfl, by rw [← hps]; exact SqL.of eD, hpr, fun u hu => ?_⟩
            rw [merge_es nd3]
            have b3 := newB (o := .dK (es3.map kvE)) hu
            have e3 : (upd G u (.dK (es3.map kvE))) u = some (.dK ((es3.map dbE).map ekv)) := by rw [upd_same, ekv_dbE]; rfl
            have dbG := (db2.keep b).keep b3
            obtain ⟨o, m1, m2, m3⟩ : Done K w (upd G u (.dK (es3.map kvE))) u := done_of e3 (fun x hx => by
              obtain ⟨e, he, rfl⟩ := List.mem_map.mp hx
              exact entG dbG _ (List.mem_map.mpr ⟨e, fr3 e he, rfl⟩)) (by rw [List.length_map]; omega)
            have bq := b12.trans (b.trans b3)
            show D'.rt _ _
            rw [ert]
            exact k _ _ o (b09.trans (But.of bq)) (f9.keep bq) m1 m2 m3
        refine way_if (K := K) (w := w) (H := H) (H9 := H9) 9 w9 (fun en D' ert nxt v9 v10 => ?_) (fun σ G w10 => ?_)
        · have dg9 : DGet H9 F (sv t.name) (some (.ref e0.2.1)) := by rw [← hval]; exact .inl ⟨_, .inr (S t.name), .inl db9.at_, rfl, rfl⟩
          obtain ⟨ys, ey, hy⟩ := id r0
          refine ⟨_, rfl, _, rfl, F, _, rfl, dg9, _, rfl, _, rfl, szl (by simp), fun l hl => ?_⟩
          have b1 := newB (o := .lst [.ref r, .ref r]) hl
          have e1 : (upd H9 l (.lst [.ref r, .ref r])) l = some (.lst [.ref r, .ref r]) := upd_same
          generalize upd H9 l (.lst [.ref r, .ref r]) = G1 at b1 e1 ⊢
          have rv : RowV G1 (.ref r) (List.replicate t.cols.length (some 5)) := ⟨r, rfl, b1.at er⟩
          exact cat_way D' nxt (by omega) v9 v10 b1 e1 (each_consK rv (each_consK rv Each.nil)) (fun q hq => by
            have : q = List.replicate t.cols.length (some 5) := by simpa using hq
            rw [this]; exact five) (by simp)
        obtain ⟨⟨v9, v10, rfl⟩, hc⟩ := w10
        refine ⟨_, rfl, ?_⟩
        have dn : But [a] H G ∧ FeedR G a ∧ Done K w G F := by
          rcases hc with ⟨_, rfl⟩ | ⟨_, z⟩
          · exact ⟨b09, f9, done_of hat9 entOk (by rw [List.length_map]; omega)⟩
          · exact z
        obtain ⟨bz, fz, o, m1, m2, m3⟩ := dn
        exact k G _ o bz fz m1 m2 m3
end
end Cn
set_option Elab.async false
set_option linter.all false
set_option maxRecDepth 100000
set_option maxHeartbeats 4000000
/-! what is a database: the law -/
namespace Cn
open PySem L2
theorem sum_le {m : Nat} : ∀ {ls : List Cn.T}, (∀ x ∈ ls, x.length ≤ m) → (ls.map List.length).sum ≤ m * ls.length
  | [], _ => by simp
  | x :: r, h => by
    have h1 := h x List.mem_cons_self
    have h2 := sum_le (ls := r) fun y hy => h y (List.mem_cons_of_mem _ hy)
    rw [List.map_cons, List.sum_cons, List.length_cons, Nat.mul_add, Nat.mul_one]
    omega
theorem joinT_sum8 (c : Nat) : ∀ ps : List Cn.T, (joinT [c] ps).length ≤ (ps.map List.length).sum + ps.length
  | [] => by simp [joinT]
  | [p] => by simp [joinT]
  | p :: q :: r => by
    have ih := joinT_sum8 c (q :: r)
    simp only [joinT, List.length_append, List.map_cons, List.sum_cons, List.length_cons, List.length_nil] at ih ⊢
    omega
theorem text_room {ts : List Tbl} (h5 : ts.length ≤ 5) (wf : ∀ t ∈ ts, WfT t) : (schemaText ts).length ≤ 100000 := by
  have r := all_room h5 wf
  have h1 := sum_le r.2
  have h2 := joinT_sum8 10 (ts.flatMap tableRows)
  have h3 : (schemaText ts).length = (joinT [10] (ts.flatMap tableRows)).length := rfl
  omega
theorem SchR.fixK {CR CS CT : Addr} {H H' : Hp} {v : V} {ts : List Tbl} (n : CT ≠ CR) (nS : CS ≠ CR) (f : Fix CR H H') (h : SchR CS CT H v ts) : SchR CS CT H' v ts := by
  obtain ⟨a, dx, tt, vt, e, h1, h2, h3⟩ := h
  exact ⟨a, dx, tt, vt, e, f a _ h1 nS, f tt _ h2 trivial, h3.mono fun _ _ z => z.fix n f⟩
theorem fixF {CR x : Addr} {xs : List V} {H H' : Hp} (b : But [x] H H') (e : H x = some (.lst xs)) : Fix CR H H' := b.fix fun a z o e' i => by
  rw [List.mem_singleton.mp z, e] at e'
  cases e'
  exact i
theorem een_dbE (es : List (Cn.T × Addr × List Cells)) : ((es.map dbE).map (·.1)) = es.map fun e => (.inr (S e.1) : Key) := by rw [List.map_map]; rfl
theorem keys_nd {es : List (Cn.T × Addr × List Cells)} (nd : (es.map (·.1)).Nodup) : (es.map fun e => (.inr (S e.1) : Key)).Nodup := by
  rw [show (fun e : Cn.T × Addr × List Cells => (.inr (S e.1) : Key)) = (fun x => (Sum.inr (S x) : Key)) ∘ (fun e => e.1) from rfl, ← List.map_map]
  exact List.pairwise_map.mpr (List.Pairwise.imp (fun a e => a (S_inj (Sum.inr.inj e))) nd)
theorem dbB_dict {n : Nat} {ls : List (Str × Nat)} {es : List (NK × PyData)} : dbB n ls (.dict es) = ((es.length == n) && ls.all fun t => match valE es (.text t.1) with
    | none => false
    | some e => rowsB t.2 e) := rfl
theorem db_true {ts : List Tbl} {es : List (Cn.T × Addr × List Cells)} (all : DbAll ts es) (nd : (ts.map (·.name)).Nodup) : dbB ts.length (tlen ts) (.dict ((es.map dbE).map een)) = true := by
  have les : es.length = ts.length := by have := congrArg List.length all.1; rwa [List.length_map, List.length_map] at this
  have ndE : (es.map (·.1)).Nodup := by rw [all.1]; exact nd
  rw [dbB_dict, Bool.and_eq_true]
  refine ⟨by rw [List.length_map, List.length_map, les]; exact beq_self_eq_true _, ?_⟩
  unfold tlen
  rw [List.all_map, List.all_eq_true]
  intro t ht
  obtain ⟨i, hi⟩ := List.mem_iff_getElem?.mp ht
  have il := (List.getElem?_eq_some_iff.mp hi).1
  have he : es[i]? = some (es[i]'(by omega)) := List.getElem?_eq_getElem (by omega)
  generalize es[i]'(by omega) = e at he
  obtain ⟨o1, o2, _⟩ := all.2 i t e hi he
  have tn : e.1 = t.name := by
    have h1 : (es.map (·.1))[i]? = some e.1 := by rw [List.getElem?_map, he]; rfl
    rw [all.1, List.getElem?_map, hi] at h1
    exact (Option.some.inj h1).symm
  have hv : valE ((es.map dbE).map een) (.text (S t.name)) = some (.list (e.2.2.map rowD)) := valE_at (x := dbE e) (by rw [een_dbE]; exact keys_nd ndE) (List.mem_map.mpr ⟨e, List.mem_of_getElem? he, rfl⟩) (by rw [← tn]; rfl)
  show (match valE ((es.map dbE).map een) (.text (S t.name)) with
    | none => false
    | some e => rowsB t.cols.length e) = true
  rw [hv]
  exact rowsB_rows o1 o2
theorem db_false {ts : List Tbl} {es : List (Cn.T × Addr × List Cells)} {e0 : Cn.T × Addr × List Cells} {t : Tbl} {ds : List PyData} (all : DbAll ts es) (nd : (ts.map (·.name)).Nodup) (he : e0 ∈ es) (ht : t ∈ ts) (en : e0.1 = t.name) (bad : rowsB t.cols.length (.list ds) = false) :
    dbB ts.length (tlen ts) (.dict ((chE es e0.2.1 ds).map een)) = false := by
  have ndE : (es.map (·.1)).Nodup := by rw [all.1]; exact nd
  have ek : (chE es e0.2.1 ds).map (·.1) = es.map fun e => (.inr (S e.1) : Key) := by
    unfold chE
    rw [List.map_map]
    refine List.map_congr_left fun e _ => ?_
    show (if e.2.1 = e0.2.1 then ((.inr (S e.1), .ref e.2.1, .list ds) : Ent) else dbE e).1 = _
    split <;> rfl
  have hv : valE ((chE es e0.2.1 ds).map een) (.text (S t.name)) = some (.list ds) := valE_at (x := (.inr (S e0.1), .ref e0.2.1, .list ds)) (by rw [ek]; exact keys_nd ndE) (List.mem_map.mpr ⟨e0, he, by rw [if_pos rfl]⟩) (by rw [en])
  rw [dbB_dict]
  refine Bool.and_eq_false_iff.mpr (.inr ?_)
  refine List.all_eq_false.mpr ⟨(S t.name, t.cols.length), List.mem_map.mpr ⟨t, ht, rfl⟩, ?_⟩
  show ¬ (match valE ((chE es e0.2.1 ds).map een) (.text (S t.name)) with
    | none => false
    | some e => rowsB t.cols.length e) = true
  rw [hv]
  show ¬ rowsB t.cols.length (.list ds) = true
  rw [bad]
  exact Bool.false_ne_true
theorem rows_bad {n : Nat} {ds : List PyData} {d : PyData} (hd : d ∈ ds) (hb : rowB n d = false) : rowsB n (.list ds) = false := by
  show (ds.all (rowB n) && decide ((ds.map toCells).Nodup)) = false
  rw [show ds.all (rowB n) = false from List.all_eq_false.mpr ⟨d, hd, by rw [hb]; exact Bool.false_ne_true⟩, Bool.false_and]
section
variable {P : Program} {w : World} {K : PySem.W.Frag} {mg : Str → Option Value} {base : Heap} {CR CT CS CI : Addr} {f : Addr} {fd : FuncData}
theorem sc_law : FnScope ["script", "index", "feed", "tables", "schema", "database", "turn", "other", "before", "found", "rows"] ["script"] (defScope s_law) := ⟨rfl, rfl, rfl, by decide +kernel, rfl, by decide +kernel, by decide +kernel⟩
def sp_law (K : PySem.W.Frag) : Sp := fun vs H Q _ => ∃ (a : Addr) (ns : List Int), vs = [.ref a] ∧ SqL K H a (ns.map V.int) ∧ ∀ H', Q (.bl true) H'
theorem ok_law (F : Fun K "law" "law" s_law f fd) (T : LTx K mg CR CT CS CI) (c__law_feed : Cal P w K mg base 1 "_law_feed" (sp_feed K)) (c__law_schema : Cal P w K mg base 5 "_law_schema" sp_schemaD) (c__law_schema_text : Cal P w K mg base 1 "_law_schema_text" sp_stext)
    (k_Schema_parse : CMt P w K mg base 8 CS "parse" (sp_parse CT CS CI)) (c__law_database : Cal P w K mg base 4 "_law_database" sp_dbD) (c_is_database : Cal P w K mg base 5 "is_database" (sp_isdb K w CS CT)) (c__law_other : Cal P w K mg base 3 "_law_other" (sp_otherD K w)) (c__law_is_database : Cal P w K mg base 2 "_law_is_database" (sp_lisdb K w)) :
    FnG P w K mg base 9 f fd ["script"] (sp_law K) := by
  refine okG F sc_law (fun vs H Q E h => ?_) (fun cdv A outer s H vs Q E hg hr h => ?_)
  · obtain ⟨a, ns, rfl, _⟩ := h
    rfl
  · obtain ⟨a, ns, rfl, hs, k⟩ := h
    refine ⟨_, (pss_cons (ps_for (passes_of rfl) (by rfl) (pi_range1 (by rfl) T.b_range (pa_cons (pe_callB (call_max2 (by rfl)) (by rfl) T.b_max (by decide +kernel) (pa_cons pe_int (pa_cons (pe_callB (call_min2 (by rfl)) (by rfl) T.b_min (by decide +kernel) (pa_cons pe_int (pa_cons (pe_callB (call_len_seqK K rfl) (by rfl) T.b_len (by decide +kernel) (pa_cons (pv 0) pa_nil)) pa_nil))) pa_nil))) pa_nil)) (pg_name (i := 1) sc_law.nd rfl (Or.inl rfl))
  (pss_cons (ps_set (i := 2) sc_law.nd rfl (Or.inl rfl) (p_call E c__law_feed hr (by decide) (by rfl) (passX rfl rfl rfl (takes_of rfl rfl rfl rfl)) (pa_cons (pv 0) (pa_cons (pv 1) pa_nil))))
  (pss_cons (ps_set (i := 3) sc_law.nd rfl (Or.inl rfl) (p_call E c__law_schema hr (by decide) (by rfl) (passX rfl rfl rfl (takes_of rfl rfl rfl rfl)) (pa_cons (pv 2) pa_nil)))
  (pss_cons (ps_set (i := 4) sc_law.nd rfl (Or.inl rfl) (p_cmt (E := fun _ => E) (pe_glob (v := .ref CS) rfl T.g_Schema rfl) k_Schema_parse hr (by decide) (fun σ => passE (passX rfl rfl rfl (takes_of rfl rfl rfl rfl)) σ) (pa_cons (p_call E c__law_schema_text hr (by decide) (by rfl) (passX rfl rfl rfl (takes_of rfl rfl rfl rfl)) (pa_cons (pv 3) pa_nil)) pa_nil)))
  (pss_cons (ps_set (i := 5) sc_law.nd rfl (Or.inl rfl) (p_call E c__law_database hr (by decide) (by rfl) (passX rfl rfl rfl (takes_of rfl rfl rfl rfl)) (pa_cons (pv 2) (pa_cons (pv 3) (pa_cons pe_int pa_nil)))))
  (pss_cons (ps_if (pt_cmpR op_isnot_bl (p_call E c_is_database hr (by decide) (by rfl) (passX rfl rfl rfl (takes_of rfl rfl rfl rfl)) (pa_cons (pv 4) (pa_cons (pv 5) pa_nil))) pe_bl (nomark _))
  (pss_one (ps_ret pe_bl))
  pss_nil)
  (pss_cons (ps_for (passes_of rfl) (by rfl) (pi_range1 (by rfl) T.b_range (pa_cons pe_int pa_nil)) (pg_name (i := 6) sc_law.nd rfl (Or.inl rfl))
  (pss_cons (ps_set (i := 7) sc_law.nd rfl (Or.inl rfl) (p_call E c__law_other hr (by decide) (by rfl) (passX rfl rfl rfl (takes_of rfl rfl rfl rfl)) (pa_cons (pv 2) (pa_cons (pv 3) (pa_cons (pv 5) pa_nil)))))
  (pss_cons (ps_set (i := 8) sc_law.nd rfl (Or.inl rfl) (pe_callB (call_reprX (K := K) (w := w) rfl rfl hg hr.units) (by rfl) T.b_repr (by decide +kernel) (pa_cons (pv 7) pa_nil)))
  (pss_cons (ps_set (i := 9) sc_law.nd rfl (Or.inl rfl) (p_call E c_is_database hr (by decide) (by rfl) (passX rfl rfl rfl (takes_of rfl rfl rfl rfl)) (pa_cons (pv 4) (pa_cons (pv 7) pa_nil))))
  (pss_one (ps_if (PW.pt (pw_or (pt_not (pt_val (pe_callB (call_isiK' K rfl) (by rfl) T.b_isinstance (by decide +kernel) (pa_cons (pv 9) (pa_cons (pe_bltn (v := .ty "bool") (by rfl) T.b_bool (by decide +kernel) rfl) pa_nil))))) (pw_or (pt_cmpR op_ne (pv 9) (p_call E c__law_is_database hr (by decide) (by rfl) (passX rfl rfl rfl (takes_of rfl rfl rfl rfl)) (pa_cons (pv 3) (pa_cons (pv 7) pa_nil))) (nomark _)) (pw_or1 (pt_cmpR op_ne (pe_callB (call_reprX (K := K) (w := w) rfl rfl hg hr.units) (by rfl) T.b_repr (by decide +kernel) (pa_cons (pv 7) pa_nil)) (pv 8) (nomark _))))))
  (pss_one (ps_ret pe_bl))
  pss_nil))))))
  (pss_cons (ps_set (i := 10) sc_law.nd rfl (Or.inl rfl) (pe_xget (w := w) rfl hr.units (pv 5) (pe_ix (ix_seqK K rfl) (pe_ix (ix_listK K rfl) (pv 3) pe_int (fun _ _ => rfl)) pe_int (fun _ _ => rfl)) (fun _ _ => rfl)))
  (pss_cons (ps_expr (pe_bm PySem.F.plainAttrs_list PySem.F.slot_list_append PySem.F.type_list_append mt_append (pv 10) (pa_cons (pe_op op_repT (pe_tup (pa_cons pe_int pa_nil)) pe_int) pa_nil)))
  (pss_cons (ps_if (pt_cmpR op_isnot_bl (p_call E c_is_database hr (by decide) (by rfl) (passX rfl rfl rfl (takes_of rfl rfl rfl rfl)) (pa_cons (pv 4) (pa_cons (pv 5) pa_nil))) pe_bl (nomark _))
  (pss_one (ps_ret pe_bl))
  pss_nil)
  (pss_cons (ps_expr (pe_bm0 PySem.F.plainAttrs_list PySem.F.slot_list_pop PySem.F.type_list_pop mt_pop (pv 10)))
  (pss_one (ps_if (pt_cmpR op_isnot_bl (p_call E c_is_database hr (by decide) (by rfl) (passX rfl rfl rfl (takes_of rfl rfl rfl rfl)) (pa_cons (pv 4) (pa_cons (pv 5) pa_nil))) pe_bl (nomark _))
  (pss_one (ps_ret pe_bl))
  pss_nil)))))))))))))
  (pss_one (ps_ret pe_bl))), ?_⟩
    have rng : ∀ z : Nat, ∃ y : Nat, y ≤ 3 ∧ (if (if (z : Int) < 3 then (z : Int) else 3) > 1 then (if (z : Int) < 3 then (z : Int) else 3) else 1) = (y : Int) := fun z => by
      by_cases h1 : (z : Int) < 3
      · rw [if_pos h1]
        by_cases h2 : (z : Int) > 1
        · rw [if_pos h2]; exact ⟨z, by omega, rfl⟩
        · rw [if_neg h2]; exact ⟨1, by omega, rfl⟩
      · rw [if_neg h1]; exact ⟨3, by omega, rfl⟩
    obtain ⟨y, y3, ey⟩ := rng (ns.map V.int).length
    refine ⟨_, rfl, a, _, rfl, .inl hs, _, _, rfl, _, _, rfl, _, rfl, ?_⟩
    rw [ey]
    refine ⟨by omega, by omega, ?_⟩
    rw [Int.toNat_natCast]
    refine for_it (walk_range (lo := 0) (n := y)) (fun _ σ H' => (∃ v1 v2 v3 v4 v5 v6 v7 v8 v9 v10, σ = [some (.ref a), v1, v2, v3, v4, v5, v6, v7, v8, v9, v10]) ∧ But [] H H') ⟨⟨_, _, _, _, _, _, _, _, _, _, rfl⟩, But.refl⟩ (fun _ σ H' _ _ => trivial) (fun m x σ H1 H1' hm ⟨⟨v1, v2, v3, v4, v5, v6, v7, v8, v9, v10, es⟩, b1⟩ yy => ?_) (fun σ H1 _ => k H1)
    obtain ⟨rfl, rfl⟩ := yy
    subst es
    have em : V.int (0 + (m : Int)) = V.int ((m : Nat) : Int) := by rw [Int.zero_add]
    refine ⟨_, rfl, _, rfl, a, ns, m, by show [V.ref a, V.int (0 + (m : Int))] = _; rw [em], by omega, sql_keep b1 hs, fun H2 fa b2 nfa hfa => ?_⟩
    refine ⟨_, rfl, fa, rfl, hfa, fun H3 tl vt ts b3 f3 ntl etl htd ok ne l4 nd => ?_⟩
    have ntf : tl ≠ fa := fun z => by obtain ⟨d, s0, e⟩ := hfa; rw [z, e] at ntl; cases ntl
    have wf := (parseRows_ok (parse_rt ok ne (by omega))).2.2
    refine ⟨rfl, _, rfl, tl, vt, ts, rfl, etl, htd, by omega, wf, fun H4 b4 => ⟨schemaText ts, rfl, by have := text_room (ts := ts) (by omega) wf; omega, ?_⟩⟩
    rw [text_read ok ne (by omega)]
    intro H5 sv5 b5 hs5
    try dsimp only
    have b35 := b4.trans b5
    obtain ⟨d3, s3, ea3⟩ := id f3
    have f5 : FeedR H5 fa := f3.keep b35
    have cols5 : ∀ t ∈ ts, t.cols.length ≤ 5 := fun t ht => (okTs_refs ok t ht).2.1
    have htd5 : ∀ {G : Hp}, But [fa] H5 G → Each (TabR G) vt ts := fun b => htd.mono fun _ _ z => z.fix (fixL ((But.of b35).trans b) ea3)
    refine ⟨_, rfl, _, rfl, fa, tl, vt, ts, rfl, f5, b35.at etl, ntf, htd5 But.refl, ok, l4, nd, fun H6 d es_ b6 f6 nd6 db6 all6 fr6 => ?_⟩
    have hs6 := hs5.fixK T.nT T.nS (fixF b6 (b35.at ea3))
    have eok : ∀ e ∈ es_, RowsOk e.2.2 ∧ ((∀ c ∈ e.1, c < 256) ∧ e.1.length ≤ 41) := fun e he => by
      obtain ⟨j, hj⟩ := List.mem_iff_getElem?.mp he
      have jl := (List.getElem?_eq_some_iff.mp hj).1
      have les : es_.length = ts.length := by have := congrArg List.length all6.1; rwa [List.length_map, List.length_map] at this
      obtain ⟨t', ht'⟩ : ∃ t', ts[j]? = some t' := ⟨ts[j]'(by omega), List.getElem?_eq_getElem (by omega)⟩
      obtain ⟨o1, _, o3⟩ := all6.2 j t' e ht' hj
      have tn : e.1 = t'.name := by
        have h1 : (es_.map (·.1))[j]? = some e.1 := by rw [List.getElem?_map, hj]; rfl
        rw [all6.1, List.getElem?_map, ht'] at h1
        exact (Option.some.inj h1).symm
      have c5 := cols5 t' (List.mem_of_getElem? ht')
      refine ⟨⟨fun r hr => ⟨by have := (o1 r hr).1; omega, (o1 r hr).2⟩, by omega⟩, ?_⟩
      rw [tn]
      have := name_small (okTs_name ok t' (List.mem_of_getElem? ht'))
      exact ⟨this.1, by omega⟩
    have les : es_.length ≤ 4 := by
      have := congrArg List.length all6.1
      rw [List.length_map, List.length_map] at this
      omega
    have may : ∀ {G : Hp}, DbR G d es_ → MayR K w G (.ref d) (.dict ((es_.map dbE).map een)) ∧ BndO (.dict ((es_.map dbE).map een)) := fun {G} db => may_of (by rw [ekv_dbE]; exact db.at_) (fun x hx => by
      obtain ⟨e, he, rfl⟩ := List.mem_map.mp hx
      exact dbE_ok (db.rows e he) (eok e he).1 (eok e he).2)
    have tru := db_true all6 nd
    refine ⟨_, rfl, _, rfl, sv5, .ref d, ts, _, rfl, hs6, (may db6).1, (may db6).2, cols5, by omega, fun H7 b7 => ?_⟩
    rw [tru]
    refine ⟨true, true, rfl, rfl, _, rfl, ?_⟩
    have d1 : (!decide (true = true)) = false := rfl
    rw [d1]
    refine iteF ?_
    obtain ⟨d6, s6, ea6⟩ := id f6
    have fr6a : ∀ e ∈ es_, e.2.1 ≠ fa := fun e he z => by have := fr6 e he; rw [z, b35.at ea3] at this; cases this
    have b67 : But [fa] H5 H7 := b6.trans (But.of b7)
    have f7 := f6.keep b7
    have db7 := db6.keep b7
    obtain ⟨d7, s7, ea7⟩ := id f7
    have nda : d ≠ fa := fun z => by have := db7.at_; rw [z, ea7] at this; cases this
    refine ⟨10, rfl, by decide, by decide, ?_⟩
    refine for_it (walk_range (lo := 0) (n := 10)) (fun _ σ G => (∃ v6 v7 v8 v9 v10, σ = [some (.ref a), some (.int (0 + (m : Int))), some (.ref fa), some (.ref tl), some sv5, some (.ref d), v6, v7, v8, v9, v10]) ∧ But [fa] H7 G ∧ FeedR G fa) ⟨⟨_, _, _, _, _, rfl⟩, But.refl, f7⟩ (fun _ σ H' _ _ => trivial) (fun j x σ G G' hj ⟨⟨v6, v7, v8, v9, v10, es⟩, b8, f8⟩ yy => ?_) (fun σ G ⟨⟨v6, v7, v8, v9, v10, es⟩, b8, f8⟩ => ?_)
    · obtain ⟨rfl, rfl⟩ := yy
      subst es
      have b58 := b67.trans b8
      have db8 := db7.keepL b8 ea7 fr6a
      refine ⟨_, rfl, _, rfl, _, rfl, fa, tl, d, vt, ts, _, rfl, f8, b58.at1 (b35.at etl) ntf, ntf, htd5 b58, ok, ne, l4, nd, db8, all6, fr6a, fun G2 v o b9 f9 m9 bd gx => ?_⟩
      have b59 := b58.trans b9
      refine ⟨_, rfl, v, o.data, rfl, m9.show, gx, ?_⟩
      refine ⟨_, rfl, _, rfl, sv5, v, ts, o, rfl, hs5.fixK T.nT T.nS (fixF b59 (b35.at ea3)), m9, bd, cols5, by omega, fun G3 b10 => ?_⟩
      dsimp only [gName]
      refine ⟨_, rfl, ⟨.bl (dbB ts.length (tlen ts) o), .ty "bool", _, _, _, rfl, .ty _, .base (.bl _), kit_ty (.bool (dbB ts.length (tlen ts) o)) (by simp), _, rfl, ?_⟩⟩
      refine iteF ?_
      refine ⟨_, rfl, _, rfl, _, rfl, tl, vt, v, ts, o, rfl, (b59.trans (But.of b10)).at1 (b35.at etl) ntf, htd5 (b59.trans (But.of b10)), m9.later b10, bd, cols5, by omega, fun G4 b11 => ?_⟩
      have e1 : ∀ b : Bool, (!decide (V.bl b = V.bl b)) = false := fun b => by simp
      refine ⟨rfl, _, rfl, ?_⟩
      rw [e1]
      refine iteF ?_
      have b9G : But [fa] H5 G4 := b59.trans (But.of (b10.trans b11))
      refine ⟨_, rfl, v, o.data, rfl, (m9.later (b10.trans b11)).show, gx, _, rfl, rfl, _, rfl, ?_⟩
      rw [show (!decide (V.str o.data.shown = V.str o.data.shown)) = false by simp]
      refine iteF ?_
      refine ⟨⟨_, _, _, _, _, rfl⟩, (b8.trans b9).trans (But.of (b10.trans b11)), f9.keep (b10.trans b11)⟩
    · subst es
      have b58 := b67.trans b8
      have db8 := db7.keepL b8 ea7 fr6a
      obtain ⟨t0, rest, ets⟩ : ∃ t0 rest, ts = t0 :: rest := by
        cases h : ts with
        | nil => exact absurd h ne
        | cons x y => exact ⟨x, y, rfl⟩
      have ht8 := htd5 b58
      have l0 : 0 < vt.length := by rw [ht8.1, ets]; simp
      have hv0 : vt[0]? = some (vt[0]'l0) := List.getElem?_eq_getElem l0
      obtain ⟨t, htt, ta, ca, ua, ra, uk, rk, eta, h1, _⟩ := ht8.at hv0
      rw [eta] at hv0
      have t0t : t = t0 := by rw [ets] at htt; exact (Option.some.inj htt).symm
      refine ⟨_, rfl, _, rfl, tl, vt, 0, _, rfl, rfl, SqL.of (b58.at1 (b35.at etl) ntf), atI_nat hv0, .inr (.inl ⟨ta, _, 0, _, rfl, rfl, SqT.of h1, rfl, ?_⟩)⟩
      have tm := List.mem_of_getElem? htt
      obtain ⟨e0, he0, en0⟩ : ∃ e0 ∈ es_, e0.1 = t.name := by
        have : t.name ∈ es_.map (·.1) := by rw [all6.1]; exact List.mem_map.mpr ⟨t, tm, rfl⟩
        obtain ⟨e0, h1, h2⟩ := List.mem_map.mp this
        exact ⟨e0, h1, h2⟩
      have hval : valV (es_.map fun e => ((.inr (S e.1) : Key), V.ref e.2.1)) (.inr (S t.name)) = some (.ref e0.2.1) := by
        rw [← en0]
        exact valV_at (n := e0.1) (by rw [all6.1]; exact nd) he0
      refine ⟨d, es_.length, fun z => valV (es_.map fun e => ((.inr (S e.1) : Key), V.ref e.2.1)) (.inr z), _, _, rfl, rfl, .inl ⟨_, db8.at_, by rw [List.length_map], fun _ => rfl⟩, hval, ?_⟩
      obtain ⟨ys, ey, hy⟩ := db8.rows e0 he0
      dsimp only [gName]
      refine ⟨_, rfl, tyLs ey, szl (by simp), fun p1 hp1 => ?_⟩
      have b9 := newB (o := .tup [.int 1]) hp1
      have e9 : (upd G p1 (.tup [.int 1])) p1 = some (.tup [.int 1]) := upd_same
      generalize upd G p1 (.tup [.int 1]) = G1 at b9 e9 ⊢
      refine ⟨p1, 9, _, rfl, rfl, SqT.of e9, by simp, by decide, by decide, by simp, fun p2 hp2 => ?_⟩
      rw [show (List.replicate (9 : Int).toNat [V.int 1]).flatten = cellVs (List.replicate 9 (some 1)) from rfl]
      have b10 := newB (o := .tup (cellVs (List.replicate 9 (some 1)))) hp2
      have e10 : (upd G1 p2 (.tup (cellVs (List.replicate 9 (some 1))))) p2 = some (.tup (cellVs (List.replicate 9 (some 1)))) := upd_same
      generalize upd G1 p2 (.tup (cellVs (List.replicate 9 (some 1)))) = G2 at b10 e10 ⊢
      have b82 := b9.trans b10
      have db2 := db8.keep b82
      have ey2 := b82.at ey
      have hy2 : Each (RowV G2) ys e0.2.2 := hy.mono fun _ _ z => z.fix (CR := CR) b82.fix0
      have eo0 := (eok e0 he0).1
      have lys : ys.length ≤ 9 := by have := hy.1; have := eo0.2; omega
      have lrow : e0.2.2.length ≤ 3 := by
        obtain ⟨j, hj⟩ := List.mem_iff_getElem?.mp he0
        have jl := (List.getElem?_eq_some_iff.mp hj).1
        have les : es_.length = ts.length := by have := congrArg List.length all6.1; rwa [List.length_map, List.length_map] at this
        obtain ⟨t', ht'⟩ : ∃ t', ts[j]? = some t' := ⟨ts[j]'(by omega), List.getElem?_eq_getElem (by omega)⟩
        exact (all6.2 j t' e0 ht' hj).2.2
      refine ⟨e0.2.1, ys, .ref p2, rfl, rfl, ey2, szt (by omega), ?_⟩
      have np2 : p2 ≠ e0.2.1 := fun z => by rw [z, ey2] at e10; cases e10
      obtain ⟨c1, c2⟩ := ch_ok (K := K) (zs := ys ++ [.ref p2]) (ds := e0.2.2.map rowD ++ [rowD (List.replicate 9 (some 1))]) db2 eok he0
        (Each.snoc (rows_each (K := K) ey2 hy2) (.inl (RowV.dp (RowV.upd ey2 ⟨p2, rfl, e10⟩)))) (fun q hq => by
          rcases List.mem_append.mp hq with z | z
          · exact rows_k eo0 q z
          · rw [List.mem_singleton.mp z]
            exact RowK.row (by simp) (fun x hx => by rw [(List.mem_replicate.mp hx).2]; exact ⟨by decide, by decide⟩)) (by simp; omega)
      obtain ⟨m1, m2⟩ := may_of (w := w) c2 c1
      have ndl : d ≠ e0.2.1 := fun z => by have := db2.at_; rw [z, ey2] at this; cases this
      have fa2 : fa ≠ e0.2.1 := (fr6a e0 he0).symm
      have bl : But [e0.2.1] G2 (upd G2 e0.2.1 (.lst (ys ++ [.ref p2]))) := But.refl.put (by simp)
      have e3 : (upd G2 e0.2.1 (.lst (ys ++ [.ref p2]))) e0.2.1 = some (.lst (ys ++ [.ref p2])) := upd_same
      have b52 : But [fa] H5 G2 := b58.trans (But.of b82)
      have hs2 := hs5.fixK T.nT T.nS (fixF b52 (b35.at ea3))
      have hs3 := hs2.fixK T.nT T.nS (fixF bl ey2)
      generalize upd G2 e0.2.1 (.lst (ys ++ [.ref p2])) = G3 at m1 bl e3 hs3 ⊢
      refine ⟨_, rfl, _, rfl, sv5, .ref d, ts, _, rfl, hs3, m1, m2, cols5, by omega, fun G4 b11 => ?_⟩
      rw [db_false all6 nd he0 tm en0 (rows_bad (d := rowD (List.replicate 9 (some 1))) (by simp) (by
        have c5 := cols5 t tm
        show ((((List.replicate 9 (some (1 : Int))).map cellD).length == t.cols.length) && _) = false
        rw [show (((List.replicate 9 (some (1 : Int))).map cellD).length == t.cols.length) = false from by rw [List.length_map, List.length_replicate, beq_eq_false_iff_ne]; omega, Bool.false_and]))]
      refine ⟨false, false, rfl, rfl, _, rfl, ?_⟩
      rw [show (!decide (false = false)) = false from rfl]
      refine iteF ?_
      refine ⟨_, rfl, tyLs (b11.at e3), e0.2.1, _, .ref p2, rfl, rfl, b11.at e3, (by rw [List.length_append, List.length_singleton, Nat.add_sub_cancel, List.getElem?_concat_length]), ?_⟩
      rw [List.dropLast_concat]
      have b25 : But [] G2 (upd G4 e0.2.1 (.lst ys)) := fun x o _ h => by
        by_cases z : x = e0.2.1
        · rw [z] at h ⊢
          rw [upd_same]
          exact ey2.symm.trans h
        · rw [upd_ne z]
          exact b11.at (bl.at1 h z)
      generalize upd G4 e0.2.1 (.lst ys) = G5 at b25 ⊢
      obtain ⟨m3, m4⟩ := may (db2.keep b25)
      refine ⟨_, rfl, _, rfl, sv5, .ref d, ts, _, rfl, hs2.fixK T.nT T.nS b25.fix0, m3, m4, cols5, by omega, fun G6 b12 => ?_⟩
      rw [tru]
      refine ⟨true, true, rfl, rfl, _, rfl, ?_⟩
      rw [d1]
      refine iteF ?_
      have bz : But [fa] H2 G6 := ((b3.trans (But.of b35)).trans b52).trans (But.of (b25.trans b12))
      exact ⟨⟨_, _, _, _, _, _, _, _, _, _, rfl⟩, b1.trans (((But.of b2).trans bz).drop nfa)⟩
end
end Cn
set_option Elab.async false
set_option linter.all false
set_option maxRecDepth 100000
set_option maxHeartbeats 0
namespace Cn
open PySem L2
structure Says (K : PySem.W.Frag) : Prop where
  fact : ∀ (i : Nat) {f : He.Fa}, faAll[i]? = some f → f.ok K = true
  ex : ExR K
  def_ : ∀ (i : Nat) {d : He5.DefA}, fnAll[i]? = some d → ∃ fd, L2.FunD K d.name d.qual d.params d.body d.scope (d.dvs K) (d.kws K) (d.at_ K) fd
theorem says_of {K : PySem.W.Frag} (c : SaysZ exK fnAll K) : Says K := by
  have c0 := He.ba (show (exK K && fnAll.all fun d => d.ok K) = true from congrArg (fun z : He.AlD => z.1) c)
  have c1 := He.ba (show ((faAll.all fun f => f.ok K) && exL K) = true from c0.1)
  refine ⟨fun i f h => List.all_eq_true.mp c1.1 f (List.mem_of_getElem? h), exL_ok c1.2, fun i d h => ?_⟩
  have e : fnAll.map (fun d => He5.fnA K (d.at_ K)) = fnAll.map He5.DefA.val := congrArg (fun z : He.AlD => z.2) c
  have e2 : (fnAll.map fun d => He5.fnA K (d.at_ K))[i]? = (fnAll.map He5.DefA.val)[i]? := by rw [e]
  rw [List.getElem?_map, List.getElem?_map, h] at e2
  exact He5.DefA.funD (Option.some.inj e2) (List.all_eq_true.mp c0.2 d (List.mem_of_getElem? h))
def d1 : He5.DefA := fnAll[1]
def d3 : He5.DefA := fnAll[3]
def d4 : He5.DefA := fnAll[4]
def d5 : He5.DefA := fnAll[5]
def d6 : He5.DefA := fnAll[6]
def d7 : He5.DefA := fnAll[7]
def d8 : He5.DefA := fnAll[8]
def d9 : He5.DefA := fnAll[9]
def d10 : He5.DefA := fnAll[10]
def d12 : He5.DefA := fnAll[12]
def d13 : He5.DefA := fnAll[13]
def d14 : He5.DefA := fnAll[14]
def d16 : He5.DefA := fnAll[16]
def d18 : He5.DefA := fnAll[18]
def d19 : He5.DefA := fnAll[19]
def d20 : He5.DefA := fnAll[20]
def d21 : He5.DefA := fnAll[21]
def d22 : He5.DefA := fnAll[22]
def d23 : He5.DefA := fnAll[23]
def d24 : He5.DefA := fnAll[24]
def d25 : He5.DefA := fnAll[25]
def d26 : He5.DefA := fnAll[26]
def d27 : He5.DefA := fnAll[27]
def d28 : He5.DefA := fnAll[28]
def d29 : He5.DefA := fnAll[29]
def d30 : He5.DefA := fnAll[30]
def d31 : He5.DefA := fnAll[31]
def d32 : He5.DefA := fnAll[32]
def d33 : He5.DefA := fnAll[33]
def d34 : He5.DefA := fnAll[34]
def d35 : He5.DefA := fnAll[35]
def d36 : He5.DefA := fnAll[36]
def d37 : He5.DefA := fnAll[37]
def d38 : He5.DefA := fnAll[38]
def d39 : He5.DefA := fnAll[39]
def d40 : He5.DefA := fnAll[40]
def d41 : He5.DefA := fnAll[41]
def d42 : He5.DefA := fnAll[42]
def d43 : He5.DefA := fnAll[43]
def d44 : He5.DefA := fnAll[44]
def d45 : He5.DefA := fnAll[45]
def d46 : He5.DefA := fnAll[46]
theorem facts {P : Program} {w : World} {K : PySem.W.Frag} {h : Heap} {mg : Str → Option Value} {f : Addr} (X : K.In h) (G : h.Ns mainGlobals mg) (hfa : mg ("law" : Str) = some (.ref f)) (c : Says K) :
    ∃ fd : FuncData, (∀ (s : Shared) (v : Value), BindsTo s fd ⟨[v], []⟩ [("script", v)]) ∧ ∀ base : Heap, K.In base → base.Ns mainGlobals mg → FnG P w K mg base 9 f fd ["script"] (sp_law K) := by
  obtain ⟨fdL, FL⟩ := c.def_ 46 (d := d46) rfl
  have eL := hfa.symm.trans (He.glo_ok X G (c.fact 79 rfl))
  cases eL
  have b := FunD.bindsA (ps := ["script"]) FL fun _ _ _ _ _ _ us hl => match us, hl with | [_], _ => rfl
  refine ⟨fdL, fun s v => b s [v] rfl, fun base _ _ => ?_⟩
  have e := c.ex
  have T0 : Txt K mg (He.ga K "Rows") (He.ga K "Table") (He.ga K "Schema") := {
    b_len := (He.free_ok X G (c.fact 0 rfl))
    b_all := (He.free_ok X G (c.fact 1 rfl))
    b_any := (He.free_ok X G (c.fact 2 rfl))
    b_tuple := (He.free_ok X G (c.fact 3 rfl))
    b_list := (He.free_ok X G (c.fact 4 rfl))
    b_str := (He.free_ok X G (c.fact 5 rfl))
    b_set := (He.free_ok X G (c.fact 6 rfl))
    b_isinstance := (He.free_ok X G (c.fact 7 rfl))
    clR := (He.cls_ok (c.fact 8 rfl))
    clT := (He.cls_ok (c.fact 9 rfl))
    clS := (He.cls_ok (c.fact 10 rfl))
    naR1 := (He.noat_ok (c.fact 11 rfl))
    naR2 := (He.noat_ok (c.fact 12 rfl))
    naT1 := (He.noat_ok (c.fact 13 rfl))
    naT2 := (He.noat_ok (c.fact 14 rfl))
    naT3 := (He.noat_ok (c.fact 15 rfl))
    naT4 := (He.noat_ok (c.fact 16 rfl))
    naS1 := (He.noat_ok (c.fact 17 rfl))
    naS2 := (He.noat_ok (c.fact 18 rfl))
    g_Schema := (He.glo_ok X G (c.fact 19 rfl))
    g_Table := (He.glo_ok X G (c.fact 20 rfl))
    g_MOST_TABLES := (He.int_ok X G (c.fact 21 rfl))
    g_MOST_COLUMNS := (He.int_ok X G (c.fact 22 rfl))
    g_MOST_KEYS := (He.int_ok X G (c.fact 23 rfl))
    g_MOST_KEY_COLUMNS := (He.int_ok X G (c.fact 24 rfl))
    g_MOST_REFERENCES := (He.int_ok X G (c.fact 25 rfl))
    nT := of_decide_eq_true e.nT, nS := of_decide_eq_true e.nS, nTS := of_decide_eq_true e.nTS }
  have T1 : LTx K mg (He.ga K "Rows") (He.ga K "Table") (He.ga K "Schema") (He.ga K "InvalidText") := { T0 with
    b_max := (He.free_ok X G (c.fact 26 rfl))
    b_min := (He.free_ok X G (c.fact 27 rfl))
    b_abs := (He.free_ok X G (c.fact 28 rfl))
    b_range := (He.free_ok X G (c.fact 29 rfl))
    b_int := (He.free_ok X G (c.fact 30 rfl))
    b_dict := (He.free_ok X G (c.fact 31 rfl))
    b_sorted := (He.free_ok X G (c.fact 32 rfl))
    b_sum := (He.free_ok X G (c.fact 33 rfl))
    b_enumerate := (He.free_ok X G (c.fact 34 rfl))
    b_repr := (He.free_ok X G (c.fact 35 rfl))
    b_bool := (He.free_ok X G (c.fact 36 rfl))
    g_HIGHEST := (He.int_ok X G (c.fact 37 rfl)) }
  obtain ⟨fd24, F24⟩ := c.def_ 24 (d := d24) rfl
  have B24 : Binds K fd24 ["columns", "others"] [] := FunD.bindsN F24 fun _ _ _ _ _ _ us hl => match us, hl with | [_, _], _ => rfl
  have c_has_all : Cal P w K mg base 1 "has_all" (sp_has_all K) := ⟨_, fd24, _, (ok_has_all (P := P) (w := w) (base := base) (He5.fun_of F24) T0), (He.glo_ok X G (c.fact 38 rfl)), F24.kp, B24⟩
  obtain ⟨fd23, F23⟩ := c.def_ 23 (d := d23) rfl
  have B23 : Binds K fd23 ["words", "columns"] [] := FunD.bindsN F23 fun _ _ _ _ _ _ us hl => match us, hl with | [_, _], _ => rfl
  have c_are_different : Cal P w K mg base 2 "are_different" (sp_are_diff K) := ⟨_, fd23, _, (ok_are_diff (P := P) (w := w) (base := base) (He5.fun_of F23) T0 c_has_all), (He.glo_ok X G (c.fact 39 rfl)), F23.kp, B23⟩
  obtain ⟨fd3, F3⟩ := c.def_ 3 (d := d3) rfl
  have B3 : Binds K fd3 ["word"] [] := FunD.bindsN F3 fun _ _ _ _ _ _ us hl => match us, hl with | [_], _ => rfl
  have c_is_name : Cal P w K mg base 1 "is_name" sp_is_name := ⟨_, fd3, _, (ok_is_name (P := P) (w := w) (base := base) (He5.fun_of F3) T0), (He.glo_ok X G (c.fact 40 rfl)), F3.kp, B3⟩
  obtain ⟨fd1, F1⟩ := c.def_ 1 (d := d1) rfl
  have B1 : Binds K fd1 ["self", "row"] [] := FunD.bindsN F1 fun _ _ _ _ _ _ us hl => match us, hl with | [_, _], _ => rfl
  have x_InvalidText : Xn P w K mg base 1 "InvalidText" "row" (He.ga K "InvalidText") := ⟨oexB_ok e.oeI, (He.glo_ok X G (c.fact 41 rfl)), _, fd1, _, of_decide_eq_true (He.ba e.xiI).1, of_decide_eq_true (He.ba e.xiI).2, (ok_InvalidText_init (P := P) (w := w) (base := base) (He5.fun_of F1) (oexB_ok e.oeI) (of_decide_eq_true e.noI)), B1⟩
  obtain ⟨fd4, F4⟩ := c.def_ 4 (d := d4) rfl
  have B4 : Binds K fd4 ["self", "text"] [] := FunD.bindsN F4 fun _ _ _ _ _ _ us hl => match us, hl with | [_, _], _ => rfl
  have m_Rows : Mak P w K mg base 1 "Rows" (He.ga K "Rows") (sp_Rows_init (He.ga K "Rows")) := ⟨_, fd4, _, He.mkr_ok (c.fact 42 rfl), (ok_Rows_init (P := P) (w := w) (base := base) (He5.fun_of F4) T0), (He.glo_ok X G (c.fact 43 rfl)), B4⟩
  obtain ⟨fd5, F5⟩ := c.def_ 5 (d := d5) rfl
  have B5 : Binds K fd5 ["self"] [] := FunD.bindsN F5 fun _ _ _ _ _ _ us hl => match us, hl with | [_], _ => rfl
  have c_Rows_all_read : Met P w K mg base 1 (He.ga K "Rows") "all_read" (sp_all_read (He.ga K "Rows")) := ⟨_, fd5, _, (He.cls_ok (c.fact 8 rfl)), He.meth_ok (c.fact 44 rfl), (ok_all_read (P := P) (w := w) (base := base) (He5.fun_of F5) T0), B5⟩
  obtain ⟨fd6, F6⟩ := c.def_ 6 (d := d6) rfl
  have B6 : Binds K fd6 ["self", "start"] [] := FunD.bindsN F6 fun _ _ _ _ _ _ us hl => match us, hl with | [_, _], _ => rfl
  have c_Rows_begins : Met P w K mg base 2 (He.ga K "Rows") "begins" (sp_begins (He.ga K "Rows")) := ⟨_, fd6, _, (He.cls_ok (c.fact 8 rfl)), He.meth_ok (c.fact 45 rfl), (ok_begins (P := P) (w := w) (base := base) (He5.fun_of F6) T0 c_Rows_all_read), B6⟩
  obtain ⟨fd7, F7⟩ := c.def_ 7 (d := d7) rfl
  have B7 : Binds K fd7 ["self", "start"] [] := FunD.bindsN F7 fun _ _ _ _ _ _ us hl => match us, hl with | [_, _], _ => rfl
  have c_Rows_words : Met P w K mg base 3 (He.ga K "Rows") "words" (sp_words (He.ga K "Rows") (He.ga K "InvalidText")) := ⟨_, fd7, _, (He.cls_ok (c.fact 8 rfl)), He.meth_ok (c.fact 46 rfl), (ok_words (P := P) (w := w) (base := base) (He5.fun_of F7) T0 c_Rows_begins x_InvalidText), B7⟩
  obtain ⟨fd8, F8⟩ := c.def_ 8 (d := d8) rfl
  have B8 : Binds K fd8 ["self", "holds"] [] := FunD.bindsN F8 fun _ _ _ _ _ _ us hl => match us, hl with | [_, _], _ => rfl
  have c_Rows_need : Met P w K mg base 3 (He.ga K "Rows") "need" (sp_need (He.ga K "Rows") (He.ga K "InvalidText")) := ⟨_, fd8, _, (He.cls_ok (c.fact 8 rfl)), He.meth_ok (c.fact 47 rfl), (ok_need (P := P) (w := w) (base := base) (He5.fun_of F8) T0 x_InvalidText), B8⟩
  obtain ⟨fd9, F9⟩ := c.def_ 9 (d := d9) rfl
  have B9 : Binds K fd9 ["self", "start", "taken"] [] := FunD.bindsN F9 fun _ _ _ _ _ _ us hl => match us, hl with | [_, _, _], _ => rfl
  have c_Rows_new_name : Met P w K mg base 4 (He.ga K "Rows") "new_name" (sp_new_name K (He.ga K "Rows") (He.ga K "InvalidText")) := ⟨_, fd9, _, (He.cls_ok (c.fact 8 rfl)), He.meth_ok (c.fact 48 rfl), (ok_new_name (P := P) (w := w) (base := base) (He5.fun_of F9) T0 c_Rows_words c_Rows_need c_is_name), B9⟩
  obtain ⟨fd10, F10⟩ := c.def_ 10 (d := d10) rfl
  have B10 : Binds K fd10 ["self", "row"] [] := FunD.bindsN F10 fun _ _ _ _ _ _ us hl => match us, hl with | [_, _], _ => rfl
  have c_Rows_exactly : Met P w K mg base 3 (He.ga K "Rows") "exactly" (sp_exactly (He.ga K "Rows") (He.ga K "InvalidText")) := ⟨_, fd10, _, (He.cls_ok (c.fact 8 rfl)), He.meth_ok (c.fact 49 rfl), (ok_exactly (P := P) (w := w) (base := base) (He5.fun_of F10) T0 c_Rows_all_read x_InvalidText), B10⟩
  obtain ⟨fd21, F21⟩ := c.def_ 21 (d := d21) rfl
  have B21 : Binds K fd21 ["rows"] [] := FunD.bindsN F21 fun _ _ _ _ _ _ us hl => match us, hl with | [_], _ => rfl
  have c_read_columns : Cal P w K mg base 5 "read_columns" (sp_read_columns (He.ga K "Rows") (He.ga K "InvalidText")) := ⟨_, fd21, _, (ok_read_columns (P := P) (w := w) (base := base) (He5.fun_of F21) T0 c_Rows_begins c_Rows_need c_Rows_new_name), (He.glo_ok X G (c.fact 50 rfl)), F21.kp, B21⟩
  obtain ⟨fd22, F22⟩ := c.def_ 22 (d := d22) rfl
  have B22 : Binds K fd22 ["rows", "columns"] [] := FunD.bindsN F22 fun _ _ _ _ _ _ us hl => match us, hl with | [_, _], _ => rfl
  have c_read_keys : Cal P w K mg base 4 "read_keys" (sp_read_keys (He.ga K "Rows") (He.ga K "InvalidText")) := ⟨_, fd22, _, (ok_read_keys (P := P) (w := w) (base := base) (He5.fun_of F22) T0 c_Rows_begins c_Rows_need c_Rows_words c_are_different c_has_all), (He.glo_ok X G (c.fact 51 rfl)), F22.kp, B22⟩
  obtain ⟨fd26, F26⟩ := c.def_ 26 (d := d26) rfl
  have B26 : Binds K fd26 ["rows", "table", "above"] [] := FunD.bindsN F26 fun _ _ _ _ _ _ us hl => match us, hl with | [_, _, _], _ => rfl
  have c_read_reference : Cal P w K mg base 4 "read_reference" (sp_read_reference (He.ga K "Rows") (He.ga K "Table") (He.ga K "InvalidText")) := ⟨_, fd26, _, (ok_read_reference (P := P) (w := w) (base := base) (He5.fun_of F26) T0 c_Rows_begins c_Rows_need c_Rows_words c_are_different), (He.glo_ok X G (c.fact 52 rfl)), F26.kp, B26⟩
  obtain ⟨fd25, F25⟩ := c.def_ 25 (d := d25) rfl
  have B25 : Binds K fd25 ["rows", "table", "above"] [] := FunD.bindsN F25 fun _ _ _ _ _ _ us hl => match us, hl with | [_, _, _], _ => rfl
  have c_read_references : Cal P w K mg base 5 "read_references" (sp_read_references (He.ga K "Rows") (He.ga K "Table") (He.ga K "InvalidText")) := ⟨_, fd25, _, (ok_read_references (P := P) (w := w) (base := base) (He5.fun_of F25) T0 c_Rows_begins c_Rows_need c_read_reference), (He.glo_ok X G (c.fact 53 rfl)), F25.kp, B25⟩
  obtain ⟨fd12, F12⟩ := c.def_ 12 (d := d12) rfl
  have B12 : Binds K fd12 ["self", "name", "columns", "unique", "refers"] [] := FunD.bindsN F12 fun _ _ _ _ _ _ us hl => match us, hl with | [_, _, _, _, _], _ => rfl
  have m_Table : Mak P w K mg base 1 "Table" (He.ga K "Table") (sp_Table_init (He.ga K "Table")) := ⟨_, fd12, _, He.mkr_ok (c.fact 54 rfl), (ok_Table_init (P := P) (w := w) (base := base) (He5.fun_of F12) T0), (He.glo_ok X G (c.fact 20 rfl)), B12⟩
  obtain ⟨fd20, F20⟩ := c.def_ 20 (d := d20) rfl
  have B20 : Binds K fd20 ["rows", "above"] [] := FunD.bindsN F20 fun _ _ _ _ _ _ us hl => match us, hl with | [_, _], _ => rfl
  have c_read_table : Cal P w K mg base 6 "read_table" (sp_read_table (He.ga K "Rows") (He.ga K "Table") (He.ga K "InvalidText")) := ⟨_, fd20, _, (ok_read_table (P := P) (w := w) (base := base) (He5.fun_of F20) T0 c_Rows_need c_Rows_new_name c_Rows_exactly c_read_columns c_read_keys c_read_references m_Table), (He.glo_ok X G (c.fact 55 rfl)), F20.kp, B20⟩
  obtain ⟨fd19, F19⟩ := c.def_ 19 (d := d19) rfl
  have B19 : Binds K fd19 ["rows"] [] := FunD.bindsN F19 fun _ _ _ _ _ _ us hl => match us, hl with | [_], _ => rfl
  have c_read_tables : Cal P w K mg base 7 "read_tables" (sp_read_tables (He.ga K "Rows") (He.ga K "Table") (He.ga K "InvalidText")) := ⟨_, fd19, _, (ok_read_tables (P := P) (w := w) (base := base) (He5.fun_of F19) T0 c_Rows_all_read c_read_table), (He.glo_ok X G (c.fact 56 rfl)), F19.kp, B19⟩
  obtain ⟨fd18, F18⟩ := c.def_ 18 (d := d18) rfl
  have B18 : Binds K fd18 ["table"] [] := FunD.bindsN F18 fun _ _ _ _ _ _ us hl => match us, hl with | [_], _ => rfl
  have c_table_rows : Cal P w K mg base 1 "table_rows" (sp_table_rows (He.ga K "Table")) := ⟨_, fd18, _, (ok_table_rows (P := P) (w := w) (base := base) (He5.fun_of F18) T0), (He.glo_ok X G (c.fact 57 rfl)), F18.kp, B18⟩
  obtain ⟨fd13, F13⟩ := c.def_ 13 (d := d13) rfl
  have B13 : Binds K fd13 ["self", "tables"] [] := FunD.bindsN F13 fun _ _ _ _ _ _ us hl => match us, hl with | [_, _], _ => rfl
  have m_Schema : Mak P w K mg base 2 "Schema" (He.ga K "Schema") (sp_Schema_init (He.ga K "Schema") (He.ga K "Table")) := ⟨_, fd13, _, He.mkr_ok (c.fact 58 rfl), (ok_Schema_init (P := P) (w := w) (base := base) (He5.fun_of F13) T0 c_table_rows), (He.glo_ok X G (c.fact 19 rfl)), B13⟩
  obtain ⟨fd14, F14⟩ := c.def_ 14 (d := d14) rfl
  have B14 : Binds K fd14 ["cls", "text"] [] := FunD.bindsN F14 fun _ _ _ _ _ _ us hl => match us, hl with | [_, _], _ => rfl
  have k_Schema_parse : CMt P w K mg base 8 (He.ga K "Schema") "parse" (sp_parse (He.ga K "Table") (He.ga K "Schema") (He.ga K "InvalidText")) := ⟨_, _, _, cread_of2 e.rdS, He5.cmet_of e.wrS e.wfS, (((ok_parse (P := P) (w := w) (base := base) (He5.fun_of F14) T0 m_Rows m_Schema c_read_tables).raw B14 .nil).imp fun vs H Q E h => by rw [List.append_nil]; exact h)⟩
  obtain ⟨fd16, F16⟩ := c.def_ 16 (d := d16) rfl
  have B16 : Binds K fd16 ["self"] [] := FunD.bindsN F16 fun _ _ _ _ _ _ us hl => match us, hl with | [_], _ => rfl
  have c_Schema_str : Met P w K mg base 1 (He.ga K "Schema") "__str__" (sp_str (He.ga K "Table") (He.ga K "Schema")) := ⟨_, fd16, _, (He.cls_ok (c.fact 10 rfl)), He.meth_ok (c.fact 59 rfl), (ok_str (P := P) (w := w) (base := base) (He5.fun_of F16) T0), B16⟩
  obtain ⟨fd33, F33⟩ := c.def_ 33 (d := d33) rfl
  have B33 : Binds K fd33 ["feed", "size"] [] := FunD.bindsN F33 fun _ _ _ _ _ _ us hl => match us, hl with | [_, _], _ => rfl
  have c__law_take : Cal P w K mg base 1 "_law_take" sp_take := ⟨_, fd33, _, (ok_take (P := P) (w := w) (base := base) (He5.fun_of F33) T1), (He.glo_ok X G (c.fact 60 rfl)), F33.kp, B33⟩
  obtain ⟨fd32, F32⟩ := c.def_ 32 (d := d32) rfl
  have B32 : Binds K fd32 ["script", "index"] [] := FunD.bindsN F32 fun _ _ _ _ _ _ us hl => match us, hl with | [_, _], _ => rfl
  have c__law_feed : Cal P w K mg base 1 "_law_feed" (sp_feed K) := ⟨_, fd32, _, (ok_feed (P := P) (w := w) (base := base) (He5.fun_of F32) T1), (He.glo_ok X G (c.fact 61 rfl)), F32.kp, B32⟩
  obtain ⟨fd34, F34⟩ := c.def_ 34 (d := d34) rfl
  have B34 : Binds K fd34 ["feed", "options"] [] := FunD.bindsN F34 fun _ _ _ _ _ _ us hl => match us, hl with | [_, _], _ => rfl
  have c__law_pick : Cal P w K mg base 2 "_law_pick" sp_pickL := ⟨_, fd34, _, (ok_pickL (P := P) (w := w) (base := base) (He5.fun_of F34) T1 c__law_take), (He.glo_ok X G (c.fact 62 rfl)), F34.kp, B34⟩
  obtain ⟨fd35, F35⟩ := c.def_ 35 (d := d35) rfl
  have B35 : Binds K fd35 ["feed", "size"] [] := FunD.bindsN F35 fun _ _ _ _ _ _ us hl => match us, hl with | [_, _], _ => rfl
  have c__law_names : Cal P w K mg base 3 "_law_names" sp_names := ⟨_, fd35, _, (ok_names (P := P) (w := w) (base := base) (He5.fun_of F35) T1 c__law_take c__law_pick), (He.glo_ok X G (c.fact 63 rfl)), F35.kp, B35⟩
  obtain ⟨fd36, F36⟩ := c.def_ 36 (d := d36) rfl
  have B36 : Binds K fd36 ["feed", "size"] [] := FunD.bindsN F36 fun _ _ _ _ _ _ us hl => match us, hl with | [_, _], _ => rfl
  have c__law_words : Cal P w K mg base 4 "_law_words" sp_wordsD := ⟨_, fd36, _, (ok_wordsD (P := P) (w := w) (base := base) (He5.fun_of F36) T1 c__law_take c__law_names), (He.glo_ok X G (c.fact 64 rfl)), F36.kp, B36⟩
  obtain ⟨fd38, F38⟩ := c.def_ 38 (d := d38) rfl
  have B38 : Binds K fd38 ["feed", "name", "keys", "other", "free"] [] := FunD.bindsN F38 fun _ _ _ _ _ _ us hl => match us, hl with | [_, _, _, _, _], _ => rfl
  have c__law_refer : Cal P w K mg base 2 "_law_refer" sp_refer := ⟨_, fd38, _, (ok_refer (P := P) (w := w) (base := base) (He5.fun_of F38) T1 c__law_take), (He.glo_ok X G (c.fact 65 rfl)), F38.kp, B38⟩
  obtain ⟨fd37, F37⟩ := c.def_ 37 (d := d37) rfl
  have B37 : Binds K fd37 ["feed", "name", "above", "words"] [] := FunD.bindsN F37 fun _ _ _ _ _ _ us hl => match us, hl with | [_, _, _, _], _ => rfl
  have c__law_table : Cal P w K mg base 3 "_law_table" sp_tableD := ⟨_, fd37, _, (ok_tableD (P := P) (w := w) (base := base) (He5.fun_of F37) T1 c__law_take c__law_pick c__law_refer), (He.glo_ok X G (c.fact 66 rfl)), F37.kp, B37⟩
  obtain ⟨fd39, F39⟩ := c.def_ 39 (d := d39) rfl
  have B39 : Binds K fd39 ["feed"] [] := FunD.bindsN F39 fun _ _ _ _ _ _ us hl => match us, hl with | [_], _ => rfl
  have c__law_schema : Cal P w K mg base 5 "_law_schema" sp_schemaD := ⟨_, fd39, _, (ok_schemaK (P := P) (w := w) (base := base) (He5.fun_of F39) T1 c__law_take c__law_words c__law_table), (He.glo_ok X G (c.fact 67 rfl)), F39.kp, B39⟩
  obtain ⟨fd40, F40⟩ := c.def_ 40 (d := d40) rfl
  have B40 : Binds K fd40 ["tables"] [] := FunD.bindsN F40 fun _ _ _ _ _ _ us hl => match us, hl with | [_], _ => rfl
  have c__law_schema_text : Cal P w K mg base 1 "_law_schema_text" sp_stext := ⟨_, fd40, _, (ok_stext (P := P) (w := w) (base := base) (He5.fun_of F40) T1), (He.glo_ok X G (c.fact 68 rfl)), F40.kp, B40⟩
  obtain ⟨fd34, F34⟩ := c.def_ 34 (d := d34) rfl
  have B34 : Binds K fd34 ["feed", "options"] [] := FunD.bindsN F34 fun _ _ _ _ _ _ us hl => match us, hl with | [_, _], _ => rfl
  have c__law_pickQ : Cal P w K mg base 2 "_law_pick" (sp_pickQ K) := ⟨_, fd34, _, (ok_pickQ (P := P) (w := w) (base := base) (He5.fun_of F34) T1 c__law_take), (He.glo_ok X G (c.fact 62 rfl)), F34.kp, B34⟩
  obtain ⟨fd41, F41⟩ := c.def_ 41 (d := d41) rfl
  have B41 : Binds K fd41 ["feed", "table"] [] := FunD.bindsN F41 fun _ _ _ _ _ _ us hl => match us, hl with | [_, _], _ => rfl
  have c__law_row : Cal P w K mg base 3 "_law_row" sp_row := ⟨_, fd41, _, (ok_row (P := P) (w := w) (base := base) (He5.fun_of F41) T1 c__law_take c__law_pickQ), (He.glo_ok X G (c.fact 69 rfl)), F41.kp, B41⟩
  obtain ⟨fd42, F42⟩ := c.def_ 42 (d := d42) rfl
  have B42 : Binds K fd42 ["feed", "tables", "size"] [] := FunD.bindsN F42 fun _ _ _ _ _ _ us hl => match us, hl with | [_, _, _], _ => rfl
  have c__law_database : Cal P w K mg base 4 "_law_database" sp_dbD := ⟨_, fd42, _, (ok_dbD (P := P) (w := w) (base := base) (He5.fun_of F42) T1 c__law_take c__law_row), (He.glo_ok X G (c.fact 70 rfl)), F42.kp, B42⟩
  obtain ⟨fd27, F27⟩ := c.def_ 27 (d := d27) rfl
  have B27 : Binds K fd27 ["value"] [] := FunD.bindsN F27 fun _ _ _ _ _ _ us hl => match us, hl with | [_], _ => rfl
  have c_is_integer : Cal P w K mg base 1 "is_integer" (sp_isint K) := ⟨_, fd27, _, (ok_isint (P := P) (w := w) (base := base) (He5.fun_of F27) T1), (He.glo_ok X G (c.fact 71 rfl)), F27.kp, B27⟩
  obtain ⟨fd28, F28⟩ := c.def_ 28 (d := d28) rfl
  have B28 : Binds K fd28 ["value"] [] := FunD.bindsN F28 fun _ _ _ _ _ _ us hl => match us, hl with | [_], _ => rfl
  have c_is_cell : Cal P w K mg base 2 "is_cell" (sp_iscell K) := ⟨_, fd28, _, (ok_iscell (P := P) (w := w) (base := base) (He5.fun_of F28) T1 c_is_integer), (He.glo_ok X G (c.fact 72 rfl)), F28.kp, B28⟩
  obtain ⟨fd43, F43⟩ := c.def_ 43 (d := d43) rfl
  have B43 : Binds K fd43 ["value"] [] := FunD.bindsN F43 fun _ _ _ _ _ _ us hl => match us, hl with | [_], _ => rfl
  have c__law_is_cell : Cal P w K mg base 1 "_law_is_cell" (sp_iscell K) := ⟨_, fd43, _, (ok_liscell (P := P) (w := w) (base := base) (He5.fun_of F43) T1), (He.glo_ok X G (c.fact 73 rfl)), F43.kp, B43⟩
  obtain ⟨fd29, F29⟩ := c.def_ 29 (d := d29) rfl
  have B29 : Binds K fd29 ["table", "value"] [] := FunD.bindsN F29 fun _ _ _ _ _ _ us hl => match us, hl with | [_, _], _ => rfl
  have c_is_row : Cal P w K mg base 3 "is_row" (sp_isrow K (He.ga K "Table")) := ⟨_, fd29, _, (ok_isrow (P := P) (w := w) (base := base) (He5.fun_of F29) T1 c_is_cell), (He.glo_ok X G (c.fact 74 rfl)), F29.kp, B29⟩
  obtain ⟨fd30, F30⟩ := c.def_ 30 (d := d30) rfl
  have B30 : Binds K fd30 ["table", "value"] [] := FunD.bindsN F30 fun _ _ _ _ _ _ us hl => match us, hl with | [_, _], _ => rfl
  have c_are_rows : Cal P w K mg base 4 "are_rows" (sp_arerows K (He.ga K "Table")) := ⟨_, fd30, _, (ok_arerows (P := P) (w := w) (base := base) (He5.fun_of F30) T1 c_is_row), (He.glo_ok X G (c.fact 75 rfl)), F30.kp, B30⟩
  obtain ⟨fd31, F31⟩ := c.def_ 31 (d := d31) rfl
  have B31 : Binds K fd31 ["schema", "value"] [] := FunD.bindsN F31 fun _ _ _ _ _ _ us hl => match us, hl with | [_, _], _ => rfl
  have c_is_database : Cal P w K mg base 5 "is_database" (sp_isdb K w (He.ga K "Schema") (He.ga K "Table")) := ⟨_, fd31, _, (ok_isdb (P := P) (w := w) (base := base) (He5.fun_of F31) T1 c_are_rows), (He.glo_ok X G (c.fact 76 rfl)), F31.kp, B31⟩
  obtain ⟨fd44, F44⟩ := c.def_ 44 (d := d44) rfl
  have B44 : Binds K fd44 ["tables", "value"] [] := FunD.bindsN F44 fun _ _ _ _ _ _ us hl => match us, hl with | [_, _], _ => rfl
  have c__law_is_database : Cal P w K mg base 2 "_law_is_database" (sp_lisdb K w) := ⟨_, fd44, _, (ok_lisdb (P := P) (w := w) (base := base) (He5.fun_of F44) T1 c__law_is_cell), (He.glo_ok X G (c.fact 77 rfl)), F44.kp, B44⟩
  obtain ⟨fd45, F45⟩ := c.def_ 45 (d := d45) rfl
  have B45 : Binds K fd45 ["feed", "tables", "database"] [] := FunD.bindsN F45 fun _ _ _ _ _ _ us hl => match us, hl with | [_, _, _], _ => rfl
  have c__law_other : Cal P w K mg base 3 "_law_other" (sp_otherD K w) := ⟨_, fd45, _, (ok_otherD (P := P) (w := w) (base := base) (He5.fun_of F45) T1 c__law_take c__law_pick), (He.glo_ok X G (c.fact 78 rfl)), F45.kp, B45⟩
  exact (ok_law (P := P) (w := w) (base := base) (He5.fun_of FL) T1 c__law_feed c__law_schema c__law_schema_text k_Schema_parse c__law_database c_is_database c__law_other c__law_is_database)
end Cn
set_option Elab.async false
set_option linter.all false
set_option maxRecDepth 100000
set_option maxHeartbeats 0
open PySem PySem.W PySem.Calls PyProof.Rows
theorem PySem.Challenge.cw_countonce_k20_what_is_a_database_holds : PySem.Challenge.rw_countonce_k20_what_is_a_database.Holds := by
  w_on; o_law
  refine HandSHeadRun.head_any (r := OpenLaw.row PySem.Challenge.rw_countonce_k20_what_is_a_database) (q := view (OpenLaw.row PySem.Challenge.rw_countonce_k20_what_is_a_database).prog [47]) (H := Cn.hookZ 5 Cn.exK Cn.fnAll) (ob := Cn.ob) (M := 6000) (loose := Cn.loose) (d := HandSHeadRun.topDef (OpenLaw.row PySem.Challenge.rw_countonce_k20_what_is_a_database).prog 47) (kwd := []) Cn.ob_eq
    (by kernel_rfl) (fun s => by kernel_rfl) Cn.run (by kernel_rfl) (by kernel_rfl) (by kernel_rfl) (by rfl) (by first | assumption | decide +kernel) (by decide +kernel) ⟨rfl, rfl, rfl, rfl, rfl, by decide +kernel⟩ ?hw ?hc
  case hw => w_witness2
  case hc =>
    refine Cn.walkG (l := PySem.Challenge.rw_countonce_k20_what_is_a_database) (n := 63) (k := 9) (x := "script") rfl (by decide) (by kernel_rfl) ⟨rfl, by decide, by decide⟩ ?F
    intro w mg fa h Y G hmg0
    obtain ⟨K, KX, c⟩ := Y
    have hmg : mg ("law" : PySem.Str) = some (.ref fa) := by
      have e : (HandSHeadRun.topDef (OpenLaw.row PySem.Challenge.rw_countonce_k20_what_is_a_database).prog 47).name = ("law" : PySem.Str) := by kernel_rfl
      rw [← e]
      exact hmg0
    obtain ⟨fd, hb, hF⟩ := Cn.facts (P := (PySem.Challenge.rw_countonce_k20_what_is_a_database).prog) (w := w) KX G hmg (Cn.says_of c)
    exact ⟨K, fd, Cn.sp_law K, KX, hb, fun H a ns hl _ hS => ⟨a, ns, rfl, hS, fun _ => rfl⟩, hF⟩
