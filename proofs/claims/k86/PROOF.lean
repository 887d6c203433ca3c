import PyProof.Rows.All
import Wide.All
import OpenK.AllK
import Wide.FinOn
import HandS.ForMost
import HandS.IsInst
import HandS.Defaults
import HandS.Zip
import HandS.Strs
import HandS.Style
import HandS.Flow
import HandS.WideBits
import HandS.EndBits
import HandS.SetFor
import HandS.SortKw
import HandS.SortInts
import HandS.Property
import HandS.OwnEq
import HandS.FStr
import PyProof.ReprRoads
import PyProof.InstNe
import KE.GoesEnum
import HandS.MakeKwOnly
import HandS.ClsMeth
import HandS.Conv
import HandS.Small
import HandS.TupAny
import HandS.RevTup
import PySem.Challenge.RW_owncontraries_k86_whole_vectors_listed
set_option Elab.async false
set_option linter.all false
set_option maxRecDepth 100000
set_option maxHeartbeats 4000000
namespace Vf
open PySem PySem.Spec PyProof.Rows L2
/-! ### defs that ask that no repr is under way -/
/-- a def's promise, kept where no guard is up -/
structure GnOk (P : Program) (w : World) (K : PySem.W.Frag) (mg : Str → Option Value) (base : Heap)
    (k : Nat) (f : Addr) (fd : FuncData) (ps : List Str) (sp : Sp) : Prop where
  len : ∀ vs H Q E, sp vs H Q E → vs.length = ps.length
  go : ∀ (A : Around) (outer : List Env) (s : Shared) (H : Hp) (args : Args) (us : List Value) (vs : List V) (Q : VK) (E : XK),
    A.guards = some [] → Room k A → Env0 P w K mg base A outer s H → BindsTo s fd args (ps.zip us) → Vals vs us →
    sp vs H Q E → codeAny (model P w) A (.call (.ref f) args) (CR CX0 outer P w H s Q E) s
theorem GnOk.of {P : Program} {w : World} {K : PySem.W.Frag} {mg : Str → Option Value} {base : Heap} {k : Nat} {f : Addr} {fd : FuncData} {ps : List Str} {sp : Sp}
    (F : FnOk P w K mg base CX0 k f fd ps sp) : GnOk P w K mg base k f fd ps sp :=
  ⟨F.len, fun A outer s H args us vs Q E _ => F.run A outer s H args us vs Q E⟩
theorem deeper_guards {A : Around} {env : Env} (h : A.guards = some []) : (A.deeper env).guards = some [] := by
  first | exact h | simpa [Around.deeper] using h
section
variable {P : Program} {w : World} {K : PySem.W.Frag} {mg : Str → Option Value} {base : Heap}
/-- a def of the text by its body, its guards told -/
theorem gn_ok {x qual : Str} {st : Stmt} {f : Addr} {fd : FuncData} {N ps : List Str} {k : Nat} {sp : Sp}
    (F : Fun K x qual st f fd) (S : FnScope N ps (defScope st)) (len : ∀ vs H Q E, sp vs H Q E → vs.length = ps.length)
    (hb : ∀ (cdv : Value) (A : Around) (outer : List Env) (s : Shared) (H : Hp) (vs : List V) (Q : VK) (E : XK),
      (A.deeper (envOfC qual (defScope st) s.heap.objs.size f cdv)).guards = some [] →
      Room k (A.deeper (envOfC qual (defScope st) s.heap.objs.size f cdv)) → sp vs H Q E →
      ∃ t, PSs (cxOf CX0 P w K mg base N qual (defScope st) f cdv A outer s H E).nox (defBody st) t ∧
        t { nx := fun _ H' => Q .non H', rt := Q } (start N vs) H) : GnOk P w K mg base (k + 1) f fd ps sp := by
  refine ⟨len, fun A outer s H args us vs Q E hg hr e0 hbd rv hs => ?_⟩
  -- the body is walked at this around alone
  obtain ⟨oc, od, kV, doc, pm, an, cdv, ct, osl, rfl, lk, hcd⟩ := F.ex
  let sp1 : Sp := fun vs' H' Q' E' => sp vs' H' Q' E'
  have lenU : vs.length = ps.length := len _ _ _ _ hs
  have kin : K.In s.heap := e0.mod.kin.keeps fun b o e => (e0.bs b o e).1
  have nolim : s.heap.NoLimit := e0.mod.nolimit.keeps fun b o e => (e0.bs b o e).1
  have kinds : ∀ y ∈ ps.zip us, (defScope st).names.lookup y.1 = some .local ∨
      ((defScope st).names.lookup y.1 = some .cell ∧
        ((cellsFrom (s.heap.objs.size + 1) (defScope st).names []).lookup y.1).isSome = true) := by
    rintro ⟨n, v⟩ hy
    cases S.par n (List.of_mem_zip hy).1 with
    | inl q => exact .inl q
    | inr q => exact .inr ⟨q, PySem.W.cellsFrom_some _ _ _ (.inl q)⟩
  refine codeAny_call_function hr.depth (kin _ _ lk) rfl S.co S.gen rfl
    (PySem.W.codeRec_of kin hcd) (hbd _ _ _ _ ?_)
  refine wpAny_newFunctionEnv_cells S.kind kinds fun env he s1 y => ?_
  subst he
  refine ⟨nolim.keeps y.toInCall.keep, codeAny_func ?_⟩
  obtain ⟨t, ht, hq⟩ := hb cdv A outer s H vs Q E (deeper_guards hg) (hr.deeper _) hs
  have I0 := inv_start (CX := CX0) (P := P) (w := w) (K := K) (mg := mg) (base := base) (N := N) (qual := qual)
    (f := f) (cd := cdv) (A := A) (outer := outer) (s := s) (H := H) (E := E) S hr.hd e0 lenU rv y
  refine wpAny_mono (ht.nox.run [] s1 (start N vs) H _ I0 hq) (fun fl s' hh => ?_) fun e s' hh => hh
  cases fl with
  | next =>
    obtain ⟨σ', H', J, q⟩ := hh
    exact ⟨V.non, H', J.os, J.bare, J.base, J.hok, rfl, q⟩
  | ret u =>
    obtain ⟨v, σ', H', J, r2, q⟩ := hh
    exact ⟨v, H', J.os, J.bare, J.base, J.hok, r2, q⟩
  | brk => obtain ⟨_, _, _, q⟩ := hh; exact q.elim
  | cont => obtain ⟨_, _, _, q⟩ := hh; exact q.elim
end
section
variable {X : Cx} {k : Nat} {f : Addr} {fd : FuncData} {ps ks : List Str} {sp : Sp} {E : XK} {x : Str} {p pos : Pos}
  {e : Expr} {es : List Expr} {kws : List Keyword} {t tk : TA} {g : List Value → List Value → List Value} {gV : List V → List V → List V}
theorem run_gn {pins : List (Addr × Obj)} {σ : L2.St} {H : Hp} {s : Shared} {Q : VK} {us : List Value} {vs : List V}
    (F : GnOk X.prog X.w X.K X.mg X.base k f fd ps sp) (hg : X.A.guards = some []) (hr : Room k X.A) (hb : Binds X.K fd ps [])
    (I : Inv X pins σ H s) (r : Vals vs us) (h : sp vs H Q E0) :
    wpAny (model X.prog X.w) X.A (call (.ref f) us) (EP X pins σ Q) X.xe s := by
  have ln : (us ++ ([] : List Value)).length = ps.length := by
    rw [List.append_nil, ← r.length]
    exact F.len _ _ _ _ h
  have bb := hb s us I.kIn ln
  rw [List.append_nil] at bb
  refine wpAny_call (codeAny_mono (F.go X.A X.stack s H ⟨us, []⟩ us vs Q E0 hg hr I.env0 bb r h) fun res s' hq => ?_)
  cases res with
  | error e => exact hq.elim
  | ok fl =>
    cases fl with
    | next => exact hq.elim
    | brk => exact hq.elim
    | cont => exact hq.elim
    | ret u => exact I.after hq
/-- f(e, ..) of such a def -/
theorem pe_gn (F : GnOk X.prog X.w X.K X.mg X.base k f fd ps sp) (gg : X.A.guards = some []) (hr : Room k X.A) (hg : Gl X x)
    (hm : X.mg x = some (.ref f)) (hk : PySem.W.keepIn X.K (.ref f) = true) (hb : Binds X.K fd ps [])
    (ha : PA X (e :: es) t) (hdb : (x == ("__debug__" : Str)) = false := by decide)
    (he : starEach (e :: es) X.env = (false, eval e X.env) :: starEach es X.env := by rfl)
    (hpl : (backTo pos (starEach es X.env)).any (·.1) = false := by rfl) :
    PE X (.Call (.Name x p) (e :: es) [] pos) (fun σ H Q => t σ H fun vs H1 => sp vs H1 Q E0) := by
  refine ⟨fun pins s σ H Q I h => wpAny_Call_Name_kw (ld_glob I hg hm ?_ hdb)⟩
  exact PySem.W.callWith_K (h₀ := X.base) I.ok.mod.kin hk
    (thn (ha.run pos pins s σ H _ I h) fun us s1 ⟨vs, H1, I1, r, q⟩ => ⟨I1.kIn, run_gn F gg hr hb I1 r q⟩) he hpl
/-- f(k = v, ..): keywords alone -/
theorem pe_callKw {CX : CXT} (F : FnOk X.prog X.w X.K X.mg X.base CX k f fd ps sp) (hr : Room k X.A) (hg : Gl X x)
    (hm : X.mg x = some (.ref f)) (hk : PySem.W.keepIn X.K (.ref f) = true) (hb : KBn X.K fd ps 0 ks g gV) (hx : Passes CX X E)
    (hkw : PK X kws tk) (hall : (backToKw pos (keywordEach kws X.env)).all (·.1.isSome) = true := by rfl)
    (hks : (backToKw pos (keywordEach kws X.env)).filterMap (·.1) = ks := by rfl)
    (hdb : (x == ("__debug__" : Str)) = false := by decide)
    (hpl : ((backTo pos (starEach [] X.env)).any (·.1) || (backToKw pos (keywordEach kws X.env)).any (·.1.isNone)) = false := by rfl) :
    PE X (.Call (.Name x p) [] kws pos) (fun σ H Q => tk σ H fun zs H1 => zs.length = ks.length ∧ sp (gV [] zs) H1 Q E) := by
  refine ⟨fun pins s σ H Q I h => wpAny_Call_Name_kw (ld_glob I hg hm ?_ hdb)⟩
  refine PySem.W.callWith_KW0 (h₀ := X.base) I.ok.mod.kin hk hall ?_ hpl
  refine thn (hkw.run pos pins s σ H _ I h) fun ws s2 ⟨zs, H2, I2, rz, l2, q2⟩ => ⟨I2.kIn, ?_⟩
  rw [hks]
  exact run_fnN (us := []) (vs := []) F hr hb hx I2 .nil rz rfl l2 q2
/-- repr of data -/
structure rRepr (K : PySem.W.Frag) (xs : List V) (H : Hp) (Q : VK) : Prop where
  ex : ∃ a d, xs = [.ref a] ∧ Dp K H (.ref a) d ∧ d.showable = true ∧ d.hasDict = false ∧ d.depth ≤ 60 ∧
    d.shown.length ≤ sizeLine ∧ Q (.str d.shown) H
theorem call_repr (hg : X.A.guards = some []) (hu : X.A.units + 64 < cLine) : CallR X (.builtin "repr") (rRepr X.K) := by
  intro pins s σ H xs us Q I r h
  obtain ⟨a, d, rfl, hD, hs, hn, hd, hz, q⟩ := h.ex
  obtain ⟨u1, rfl, r1⟩ := vals1 r
  cases (show u1 = Value.ref a from r1)
  obtain ⟨as, rd⟩ := Dp.reads I d _ _ hD rfl
  refine repr_of_reads' rd hs (fun z => ?_) hg (by omega) (fun _ _ e => e) (fun h' u tk hk => ?_) hz
  · rw [hn] at z
    cases z
  · exact ⟨.str d.shown, H, I.kept (fun b o e => hk b o e), ⟨u, rfl⟩, q⟩
end
end Vf
namespace Vf
open PySem PySem.Spec PyProof.Rows L2
/-! ### the end of a law whose promise wants the guards -/
theorem law_run {P : Program} {w : World} {K : PySem.W.Frag} {mg mb : Str → Option Value} {k : Nat} {fa a : Addr} {fd : FuncData}
    {x : Str} {sp : Sp} {s₁ : Shared} {vs : List Value} {ns : List Int} (kin : K.In s₁.heap)
    (hns : s₁.heap.Ns mainGlobals mg) (hb : s₁.heap.Ns builtinsNs mb) (hbb : ∀ x : Str, x ≠ "__name__" → mb x = bootBuiltins x)
    (hlim : s₁.heap.NoLimit) (hg : s₁.gens = #[]) (ha : s₁.heap.get? a = some { cls := .type "list", data := .seq vs.toArray })
    (hi : IntsAre vs ns) (hl : ns.length ≤ sizeLine) (hr : Room k callerA)
    (F : ∀ base : Heap, K.In base → base.Ns mainGlobals mg → GnOk P w K mg base k fa fd [x] sp)
    (hbind : ∀ (s : Shared) (u : Value), BindsTo s fd ⟨[u], []⟩ [(x, u)])
    (hsp : ∀ H : Hp, Only H → SqL K H a (ns.map V.int) → sp [.ref a] H (fun v _ => v = .bl true) E0) :
    codeAny (model P w) callerA (.call (.ref fa) ⟨[.ref a], []⟩)
      (fun r s' => r = .ok (.ret (.bool true)) ∧ OldK s₁.heap s'.heap ∧ s'.os = s₁.os ∧ AllBare s'.gens) s₁ := by
  have rv : Vals (ns.map V.int) vs := vals_ints hi
  have hlen : vs.length = ns.length := hi.length
  -- once the tracked heap is chosen
  have main : ∀ H : Hp, Only H → SqL K H a (ns.map V.int) → HOk P w H s₁.heap → (∀ b u, H b = some u → b = a) →
      (∀ u, H a = some u → K.lookup a = none) → codeAny (model P w) callerA (.call (.ref fa) ⟨[.ref a], []⟩)
      (fun r s' => r = .ok (.ret (.bool true)) ∧ OldK s₁.heap s'.heap ∧ s'.os = s₁.os ∧ AllBare s'.gens) s₁ := by
    intro H only seq ok onlyA notK
    have free : ∀ {b : Addr}, b ≠ a → H b = none := fun {b} nb => by
      cases q : H b with
      | none => rfl
      | some u => exact absurd (onlyA b u q) nb
    have seen : ∀ {b : Addr} {m : Str → Option Value}, s₁.heap.Ns b m → (hidT s₁.heap H).Ns b m := by
      rintro b m ⟨o, es, ep, e, d, r⟩
      refine ⟨o, es, ep, hidT_get e (free ?_), d, r⟩
      rintro rfl
      rw [ha] at e
      cases e
      exact absurd (show Data.seq vs.toArray _ = Data.dict es ep from d) (by intro z; cases z)
    have kinb : K.In (hidT s₁.heap H) := by
      intro b o e
      refine hidT_get (kin b o e) ?_
      cases q : H b with
      | none => rfl
      | some u =>
        obtain rfl := onlyA b u q
        rw [notK u q] at e
        cases e
    have md : Mod K mg (hidT s₁.heap H) := by
      obtain ⟨mc, h1, h2⟩ := hlim
      exact ⟨kinb, seen hns, ⟨mb, seen hb, hbb⟩, ⟨mc, seen h1, h2⟩⟩
    have e0 : Env0 P w K mg (hidT s₁.heap H) callerA [] s₁ H :=
      ⟨rfl, md, fun b o e => of_hidT e, Nat.le_of_eq (hidT_size _ _), trivial, fun b z => (List.not_mem_nil z).elim, ok, .of_eq hg⟩
    have run := (F _ kinb (seen hns)).go callerA [] s₁ H ⟨[.ref a], []⟩ [.ref a] [.ref a] _ _ rfl hr e0 (hbind s₁ (.ref a))
      (.cons rfl .nil) (hsp H only seq)
    refine codeAny_mono run fun r s' h => ?_
    cases r with
    | error e => exact h.elim
    | ok fl =>
      cases fl with
      | ret u =>
        obtain ⟨v, H', os, bare, un, ok', r', q⟩ := h
        obtain rfl : v = .bl true := q
        obtain rfl : u = Value.bool true := r'
        refine ⟨rfl, .of_keep fun b o e => ?_, os, bare⟩
        cases only b with
        | inl z => exact un.keep b o e z (fun z => (List.not_mem_nil z).elim) (fun z => (List.not_mem_nil z).elim)
        | inr z =>
          obtain ⟨ob, xs, z⟩ := z
          have f1 := (ok b _ z).1
          have f2 := (ok' b _ (un.frzs b ob _ z)).1
          rw [e] at f1
          cases f1
          exact f2
      | next => exact h.elim
      | brk => exact h.elim
      | cont => exact h.elim
  cases hk : K.lookup a with
  | none =>
    refine main (fun b => if b = a then some (.frz { cls := .type "list", data := .seq vs.toArray } (.lst (ns.map V.int))) else none)
      (fun b => ?_) (.inl (.inr ⟨_, if_pos rfl⟩)) (fun b u z => ?_) (fun b u z => ?_) fun _ _ => hk
    · by_cases hb : b = a
      · exact .inr ⟨_, _, if_pos hb⟩
      · exact .inl (if_neg hb)
    · by_cases hb : b = a
      · subst hb
        cases (if_pos rfl).symm.trans z
        refine ⟨ha, ?_, vs, _, rv, ha⟩
        rw [List.length_map]
        exact hl
      · cases (if_neg hb).symm.trans z
    · by_cases hb : b = a
      · exact hb
      · cases (if_neg hb).symm.trans z
  | some o =>
    have e := kin a o hk
    rw [ha] at e
    cases e
    refine main (fun _ => none) (fun _ => .inl rfl) (.inr ⟨_, vs.toArray, _, hk, rfl, rfl, rfl, ?_, by simpa using rv⟩)
      (fun b u z => ?_) (fun b u z => ?_) fun u z => ?_
    · rw [List.size_toArray, hlen]
      exact hl
    · cases (show (none : Option HO) = some u from z)
    · cases (show (none : Option HO) = some u from z)
    · cases (show (none : Option HO) = some u from z)
theorem walk_gn {l : PySem.W.OpenLaw} {n k : Nat} {q : Program} {loose : List Str} {XP : (Str → Option Value) → Heap → Prop}
    {YP : World → Heap → Prop} {d : DefRec} {K : Params → PySem.W.Frag} {sp : World → Sp} {x : Str}
    (hn : l.most = some n) (hn2 : n ≤ sizeLine) (hdf : d.params.defaults = []) (hr : Room k callerA)
    (hY : ∀ (w : World) (h : Heap), YP w h → (K w.params).In h)
    (F : ∀ (w : World) (mg : Str → Option Value) (fa : Addr) (h : Heap), (K w.params).In h → h.Ns mainGlobals mg → mg d.name = some (.ref fa) →
      ∃ fd : FuncData, (∀ (s : Shared) (u : Value), BindsTo s fd ⟨[u], []⟩ [(x, u)]) ∧
        ∀ base : Heap, (K w.params).In base → base.Ns mainGlobals mg → GnOk l.prog w (K w.params) mg base k fa fd [x] (sp w))
    (hsp : ∀ (w : World) (H : Hp) (a : Addr) (ns : List Int), ns.length ≤ n → (∀ k ∈ ns, Builtin.Int.intBits k ≤ 1048576) → Only H →
      SqL (K w.params) H a (ns.map V.int) → sp w [.ref a] H (fun v _ => v = .bl true) E0) :
    PySem.W.WalkO q loose XP YP l.row.toRowW d [] (fun f vs => PySem.call f vs) := by
  refine Att.attach_callB hn hdf fun w s₀ s₁ mg mb fa o pm cd doc a vs ns G Y ho hd hcd hmg hobj hints hlen hbits hg => ?_
  obtain ⟨fd, hb, hF⟩ := F w mg fa _ (hY w _ Y) G.T.g hmg
  exact law_run (hY w _ Y) G.T.g G.T.b G.T.builtins G.T.nolimit hg hobj hints (Nat.le_trans hlen hn2) hr hF hb
    fun H hO hS => hsp w H a ns hlen hbits hO hS
end Vf
namespace Vf
/-! ### how many places are on -/
def pcK : Nat → Nat → Nat
  | 0, _ => 0
  | k + 1, n => n % 2 + pcK k (n / 2)
def spotsK (k n : Nat) : List Nat := (List.range k).filter fun i => n.testBit i
theorem spotsK_succ (k n : Nat) : spotsK (k + 1) n = (if n % 2 = 1 then [0] else []) ++ (spotsK k (n / 2)).map (· + 1) := by
  unfold spotsK
  rw [List.range_succ_eq_map, List.filter_cons, List.filter_map]
  have e : ((fun i => n.testBit i) ∘ Nat.succ) = fun i => (n / 2).testBit i := by
    funext i
    show n.testBit (i + 1) = _
    rw [Nat.testBit_succ]
  rw [e]
  rw [Nat.testBit_zero]
  by_cases h : n % 2 = 1
  · simp [h]
  · simp [h]
theorem spotsK_len : ∀ k n, (spotsK k n).length = pcK k n
  | 0, _ => rfl
  | k + 1, n => by
    rw [spotsK_succ, List.length_append, List.length_map, spotsK_len k]
    show _ = n % 2 + pcK k (n / 2)
    by_cases h : n % 2 = 1
    · rw [if_pos h, h]; rfl
    · rw [if_neg h]
      have : n % 2 = 0 := by omega
      rw [this]; rfl
theorem pcK_zero : ∀ k, pcK k 0 = 0
  | 0 => rfl
  | k + 1 => by
    show 0 % 2 + pcK k (0 / 2) = 0
    rw [show (0 : Nat) / 2 = 0 from rfl, pcK_zero k]
theorem and_mod2 (a b : Nat) : (a &&& b) % 2 = (a % 2) * (b % 2) := by
  have h := Nat.testBit_and a b 0
  rw [Nat.testBit_zero, Nat.testBit_zero, Nat.testBit_zero] at h
  rcases Nat.mod_two_eq_zero_or_one (a &&& b) with hc | hc <;> rcases Nat.mod_two_eq_zero_or_one a with ha | ha <;>
    rcases Nat.mod_two_eq_zero_or_one b with hb | hb <;> rw [hc, ha, hb] at h <;> rw [hc, ha, hb] <;> first | rfl | exact absurd h (by decide)
theorem xor_mod2 (a b : Nat) : (a ^^^ b) % 2 = (a + b) % 2 := by
  have h := Nat.testBit_xor a b 0
  rw [Nat.testBit_zero, Nat.testBit_zero, Nat.testBit_zero] at h
  rcases Nat.mod_two_eq_zero_or_one (a ^^^ b) with hc | hc <;> rcases Nat.mod_two_eq_zero_or_one a with ha | ha <;>
    rcases Nat.mod_two_eq_zero_or_one b with hb | hb <;> rw [hc, ha, hb] at h <;> first | omega | exact absurd h (by decide)
theorem and_div2 (a b : Nat) : (a &&& b) / 2 = (a / 2) &&& (b / 2) := by
  apply Nat.eq_of_testBit_eq
  intro i
  rw [← Nat.testBit_succ, Nat.testBit_and, Nat.testBit_and, Nat.testBit_succ, Nat.testBit_succ]
theorem xor_div2 (a b : Nat) : (a ^^^ b) / 2 = (a / 2) ^^^ (b / 2) := by
  apply Nat.eq_of_testBit_eq
  intro i
  rw [← Nat.testBit_succ, Nat.testBit_xor, Nat.testBit_xor, Nat.testBit_succ, Nat.testBit_succ]
theorem pcK_two : ∀ k a b, pcK k a + pcK k b = pcK k (a ^^^ b) + 2 * pcK k (a &&& b)
  | 0, _, _ => rfl
  | k + 1, a, b => by
    have ih := pcK_two k (a / 2) (b / 2)
    show a % 2 + pcK k (a / 2) + (b % 2 + pcK k (b / 2)) = (a ^^^ b) % 2 + pcK k ((a ^^^ b) / 2) + 2 * ((a &&& b) % 2 + pcK k ((a &&& b) / 2))
    rw [and_mod2, xor_mod2, and_div2, xor_div2]
    rcases Nat.mod_two_eq_zero_or_one a with ha | ha <;> rcases Nat.mod_two_eq_zero_or_one b with hb | hb <;> rw [ha, hb] <;> omega
theorem pcK_off : ∀ k n, 0 < n → n < 2 ^ k → pcK k (n &&& (n - 1)) + 1 = pcK k n
  | 0, n, h0, h => by
    have : n < 1 := h
    omega
  | k + 1, n, h0, h => by
    rw [Nat.pow_succ] at h
    show (n &&& (n - 1)) % 2 + pcK k ((n &&& (n - 1)) / 2) + 1 = n % 2 + pcK k (n / 2)
    rw [and_mod2, and_div2]
    rcases Nat.mod_two_eq_zero_or_one n with hn | hn
    · have e1 : (n - 1) / 2 = n / 2 - 1 := by omega
      have ih := pcK_off k (n / 2) (by omega) (by omega)
      rw [hn, e1]
      omega
    · have e1 : (n - 1) / 2 = n / 2 := by omega
      have e2 : (n - 1) % 2 = 0 := by omega
      rw [hn, e1, e2, Nat.and_self]
      omega
theorem off_lt {n : Nat} (h : 0 < n) : n &&& (n - 1) < n := Nat.lt_of_le_of_lt Nat.and_le_right (by omega)
/-! ### words of 24 places -/
def pc (n : Nat) : Nat := pcK 24 n
def spots (n : Nat) : List Nat := spotsK 24 n
theorem spots_len (n : Nat) : (spots n).length = pc n := spotsK_len 24 n
theorem spots_nd (n : Nat) : (spots n).Nodup := List.Nodup.sublist List.filter_sublist List.nodup_range
theorem pc_off {n : Nat} (h0 : 0 < n) (h : n < 2 ^ 24) : pc (n &&& (n - 1)) + 1 = pc n := pcK_off 24 n h0 h
theorem pc_two (a b : Nat) : pc a + pc b = pc (a ^^^ b) + 2 * pc (a &&& b) := pcK_two 24 a b
theorem pc_zero : pc 0 = 0 := pcK_zero 24
theorem pc_dist (a b c : Nat) : pc ((a ^^^ c) &&& b) % 2 = (pc (a &&& b) + pc (c &&& b)) % 2 := by
  have e : (a ^^^ c) &&& b = (a &&& b) ^^^ (c &&& b) := by
    apply Nat.eq_of_testBit_eq
    intro i
    simp only [Nat.testBit_and, Nat.testBit_xor]
    cases a.testBit i <;> cases b.testBit i <;> cases c.testBit i <;> rfl
  have := pc_two (a &&& b) (c &&& b)
  rw [e]
  omega
end Vf
namespace Vf
/-! ### rooms: words under ^^^ -/
def Lin (S : Nat → Prop) : Prop := S 0 ∧ ∀ a b, S a → S b → S (a ^^^ b)
/-- the room that the words make -/
def span (ws : List Nat) (v : Nat) : Prop := ∀ S : Nat → Prop, Lin S → (∀ w ∈ ws, S w) → S v
theorem span_zero (ws : List Nat) : span ws 0 := fun _ h _ => h.1
theorem span_xor {ws : List Nat} {a b : Nat} (ha : span ws a) (hb : span ws b) : span ws (a ^^^ b) := fun S h k => h.2 _ _ (ha S h k) (hb S h k)
theorem span_mem {ws : List Nat} {a : Nat} (h : a ∈ ws) : span ws a := fun _ _ k => k a h
theorem span_lin (ws : List Nat) : Lin (span ws) := ⟨span_zero ws, fun _ _ => span_xor⟩
theorem span_sub {ws vs : List Nat} (h : ∀ w ∈ ws, span vs w) {a : Nat} (ha : span ws a) : span vs a := ha _ (span_lin vs) h
theorem span_iff {ws vs : List Nat} (h : ∀ w ∈ ws, span vs w) (h' : ∀ w ∈ vs, span ws w) (a : Nat) : span ws a ↔ span vs a := ⟨span_sub h, span_sub h'⟩
theorem span_perm {ws vs : List Nat} (h : ws.Perm vs) (a : Nat) : span ws a ↔ span vs a := span_iff (fun _ k => span_mem (h.mem_iff.mp k)) (fun _ k => span_mem (h.mem_iff.mpr k)) a
theorem xor_cancel (a b : Nat) : (a ^^^ b) ^^^ b = a := by rw [Nat.xor_assoc, Nat.xor_self, Nat.xor_zero]
theorem span_nil {a : Nat} (h : span [] a) : a = 0 := h (fun v => v = 0) ⟨rfl, fun a b h1 h2 => by rw [h1, h2]; rfl⟩ (fun _ k => (List.not_mem_nil k).elim)
theorem span_cons {w : Nat} {ws : List Nat} {a : Nat} : span (w :: ws) a ↔ span ws a ∨ span ws (a ^^^ w) := by
  constructor
  · intro h
    refine h (fun v => span ws v ∨ span ws (v ^^^ w)) ⟨.inl (span_zero ws), fun a b ha hb => ?_⟩ fun v hv => ?_
    · rcases ha with ha | ha <;> rcases hb with hb | hb
      · exact .inl (span_xor ha hb)
      · refine .inr ?_
        rw [Nat.xor_assoc]
        exact span_xor ha hb
      · refine .inr ?_
        rw [Nat.xor_assoc, Nat.xor_comm b w, ← Nat.xor_assoc]
        exact span_xor ha hb
      · refine .inl ?_
        have := span_xor ha hb
        rw [Nat.xor_assoc, Nat.xor_comm b w, ← Nat.xor_assoc w, Nat.xor_self, Nat.zero_xor] at this
        exact this
    · rcases List.mem_cons.mp hv with rfl | hv
      · refine .inr ?_
        rw [Nat.xor_self]
        exact span_zero ws
      · exact .inl (span_mem hv)
  · have up : ∀ {v}, span ws v → span (w :: ws) v := fun h => span_sub (fun v k => span_mem (List.mem_cons_of_mem _ k)) h
    rintro (h | h)
    · exact up h
    · have := span_xor (up h) (span_mem (ws := w :: ws) List.mem_cons_self)
      rwa [xor_cancel] at this
theorem span_append_of {ws vs : List Nat} {a : Nat} (h : ∀ v ∈ vs, span ws v) : span (ws ++ vs) a ↔ span ws a :=
  span_iff (fun w k => (List.mem_append.mp k).elim span_mem (h w)) (fun w k => span_mem (List.mem_append_left _ k)) a
theorem span_lt {ws : List Nat} {n a : Nat} (h : ∀ w ∈ ws, w < 2 ^ n) (ha : span ws a) : a < 2 ^ n :=
  ha (fun v => v < 2 ^ n) ⟨Nat.two_pow_pos n, fun _ _ => Nat.xor_lt_two_pow⟩ h
/-! ### tops -/
theorem top_bit {b : Nat} (h : b ≠ 0) : b.testBit b.log2 = true := by
  have h1 := Nat.log2_self_le h
  have h2 : b < 2 ^ (b.log2 + 1) := (Nat.log2_lt h).mp (Nat.lt_succ_self _)
  rw [Nat.testBit_eq_decide_div_mod_eq]
  have h3 : b / 2 ^ b.log2 = 1 := by
    rw [Nat.pow_succ] at h2
    apply Nat.div_eq_of_lt_le
    · omega
    · omega
  rw [h3]
  rfl
theorem bit_above {b i : Nat} (h : b.log2 < i) : b.testBit i = false := by
  by_cases h0 : b = 0
  · subst h0
    exact Nat.zero_testBit i
  · apply Nat.testBit_lt_two_pow
    exact (Nat.log2_lt h0).mp h
theorem log_of {b i : Nat} (h1 : b.testBit i = true) (h2 : ∀ j, i < j → b.testBit j = false) : b ≠ 0 ∧ b.log2 = i := by
  have h0 : b ≠ 0 := by
    rintro rfl
    rw [Nat.zero_testBit] at h1
    cases h1
  refine ⟨h0, ?_⟩
  have a := top_bit h0
  rcases Nat.lt_trichotomy b.log2 i with h | h | h
  · rw [bit_above h] at h1
    cases h1
  · exact h
  · rw [h2 _ h] at a
    cases a
theorem lt_xor {b u : Nat} (hu : u ≠ 0) (h : b.testBit u.log2 = false) : b < b ^^^ u := by
  have e1 : (b ^^^ u) >>> u.log2 = (b >>> u.log2) ^^^ (u >>> u.log2) := Nat.shiftRight_xor_distrib ..
  have e2 : u >>> u.log2 = 1 := by
    rw [Nat.shiftRight_eq_div_pow]
    have h1 := Nat.log2_self_le hu
    have h2 : u < 2 ^ (u.log2 + 1) := (Nat.log2_lt hu).mp (Nat.lt_succ_self _)
    rw [Nat.pow_succ] at h2
    apply Nat.div_eq_of_lt_le <;> omega
  have e3 : (b >>> u.log2) % 2 = 0 := by
    rw [Nat.testBit_eq_decide_div_mod_eq] at h
    have := of_decide_eq_false h
    rw [Nat.shiftRight_eq_div_pow]
    omega
  rw [e2] at e1
  have m1 := xor_mod2 (b >>> u.log2) 1
  have m2 := xor_div2 (b >>> u.log2) 1
  rw [show 1 / 2 = 0 from rfl, Nat.xor_zero] at m2
  rw [← e1] at m1 m2
  have lt : b >>> u.log2 < (b ^^^ u) >>> u.log2 := by omega
  rw [Nat.shiftRight_eq_div_pow, Nat.shiftRight_eq_div_pow] at lt
  refine Nat.lt_of_not_le fun k => ?_
  have := Nat.div_le_div_right (c := 2 ^ u.log2) k
  omega
theorem lt_pow_log {b n : Nat} (h : b ≠ 0) : b < 2 ^ n ↔ b.log2 < n := (Nat.log2_lt h).symm
/-! ### plain bases -/
def Off (b c : Nat) : Prop := c.testBit b.log2 = false ∧ b.testBit c.log2 = false
/-- each top is off in all others -/
def Piv (B : List Nat) : Prop := B.Pairwise Off ∧ ∀ b ∈ B, b ≠ 0
def Plain (B : List Nat) : Prop := Piv B ∧ B.Pairwise (· > ·)
theorem Off.symm {b c : Nat} (h : Off b c) : Off c b := ⟨h.2, h.1⟩
theorem piv_nodup {B : List Nat} (h : Piv B) : B.Nodup := by
  refine h.1.imp_of_mem fun {a b} ha hb o e => ?_
  subst e
  have := top_bit (h.2 a ha)
  rw [o.1] at this
  cases this
theorem piv_perm {B C : List Nat} (p : B.Perm C) (h : Piv B) : Piv C :=
  ⟨p.pairwise h.1 fun h => h.symm, fun b k => h.2 b (p.mem_iff.mpr k)⟩
theorem piv_off {B : List Nat} (h : Piv B) {b c : Nat} (hb : b ∈ B) (hc : c ∈ B) (n : b ≠ c) : c.testBit b.log2 = false := by
  obtain ⟨i, hi, rfl⟩ := List.getElem_of_mem hb
  obtain ⟨j, hj, rfl⟩ := List.getElem_of_mem hc
  rcases Nat.lt_trichotomy i j with k | k | k
  · exact (List.pairwise_iff_getElem.mp h.1 i j hi hj k).1
  · subst k
    exact absurd rfl n
  · exact (List.pairwise_iff_getElem.mp h.1 j i hj hi k).2
def rest1 (r b : Nat) : Nat := if r.testBit b.log2 = true then r ^^^ b else r
def restOf (w : Nat) (B : List Nat) : Nat := B.foldl rest1 w
/-- the sum of the basis words whose tops are on -/
def comb (v : Nat) : List Nat → Nat
  | [] => 0
  | b :: B => (if v.testBit b.log2 = true then b else 0) ^^^ comb v B
theorem comb_nil (v : Nat) : comb v [] = 0 := rfl
theorem comb_cons (v b : Nat) (B : List Nat) : comb v (b :: B) = (if v.testBit b.log2 = true then b else 0) ^^^ comb v B := rfl
theorem comb_same {v u : Nat} : ∀ {B : List Nat}, (∀ b ∈ B, v.testBit b.log2 = u.testBit b.log2) → comb v B = comb u B
  | [], _ => rfl
  | b :: B, h => by
    rw [comb_cons, comb_cons, h b List.mem_cons_self, comb_same fun c k => h c (List.mem_cons_of_mem _ k)]
theorem rest_eq : ∀ {B : List Nat} (w : Nat), Piv B → restOf w B = w ^^^ comb w B
  | [], w, _ => (Nat.xor_zero w).symm
  | b :: B, w, h => by
    have hB : Piv B := ⟨(List.pairwise_cons.mp h.1).2, fun c k => h.2 c (List.mem_cons_of_mem _ k)⟩
    have ho := (List.pairwise_cons.mp h.1).1
    show restOf (rest1 w b) B = _
    rw [rest_eq _ hB]
    have e : comb (rest1 w b) B = comb w B := comb_same fun c k => by
      unfold rest1
      split
      · rw [Nat.testBit_xor, (ho c k).2, Bool.xor_false]
      · rfl
    rw [e]
    rw [comb_cons]
    unfold rest1
    split
    · rw [Nat.xor_assoc]
    · rw [Nat.zero_xor]
theorem comb_xor (a b : Nat) : ∀ B : List Nat, comb (a ^^^ b) B = comb a B ^^^ comb b B
  | [] => by rw [comb_nil, comb_nil, comb_nil]; rfl
  | c :: B => by
    rw [comb_cons, comb_cons, comb_cons, comb_xor a b B, Nat.testBit_xor]
    apply Nat.eq_of_testBit_eq
    intro i
    cases a.testBit c.log2 <;> cases b.testBit c.log2 <;> simp [Nat.testBit_xor] <;> cases c.testBit i <;> cases (comb a B).testBit i <;> cases (comb b B).testBit i <;> rfl
theorem comb_off {v : Nat} : ∀ {B : List Nat}, (∀ b ∈ B, v.testBit b.log2 = false) → comb v B = 0
  | [], _ => rfl
  | b :: B, h => by
    rw [comb_cons]
    rw [h b List.mem_cons_self, comb_off fun c k => h c (List.mem_cons_of_mem _ k), if_neg (by simp)]
    rfl
theorem comb_self : ∀ {B : List Nat} {b : Nat}, Piv B → b ∈ B → comb b B = b
  | c :: B, b, h, k => by
    have hB : Piv B := ⟨(List.pairwise_cons.mp h.1).2, fun c k => h.2 c (List.mem_cons_of_mem _ k)⟩
    have ho := (List.pairwise_cons.mp h.1).1
    rw [comb_cons]
    rcases List.mem_cons.mp k with rfl | k
    · rw [top_bit (h.2 b List.mem_cons_self), if_pos rfl, comb_off fun d kd => (ho d kd).2, Nat.xor_zero]
    · rw [(ho b k).1, comb_self hB k, if_neg (by simp)]
      exact Nat.zero_xor b
theorem comb_zero (B : List Nat) : comb 0 B = 0 := comb_off fun _ _ => Nat.zero_testBit _
theorem comb_span : ∀ (v : Nat) (B : List Nat), span B (comb v B)
  | _, [] => span_zero []
  | v, b :: B => by
    have up := span_sub (ws := B) (vs := b :: B) (fun w k => span_mem (List.mem_cons_of_mem _ k)) (comb_span v B)
    rw [comb_cons]
    split
    · exact span_xor (span_mem List.mem_cons_self) up
    · rw [Nat.zero_xor]
      exact up
theorem span_comb {B : List Nat} (h : Piv B) {v : Nat} (hv : span B v) : comb v B = v :=
  hv (fun v => comb v B = v) ⟨comb_zero B, fun a b (ha : comb a B = a) (hb : comb b B = b) => by show comb (a ^^^ b) B = a ^^^ b; rw [comb_xor, ha, hb]⟩ fun b k => comb_self h k
theorem rest_zero {B : List Nat} (h : Piv B) (w : Nat) : restOf w B = 0 ↔ span B w := by
  rw [rest_eq w h]
  constructor
  · intro e
    have e2 : w = comb w B := by
      have := congrArg (· ^^^ comb w B) e
      simpa [xor_cancel] using this
    rw [e2]
    exact comb_span w B
  · intro hw
    rw [span_comb h hw, Nat.xor_self]
theorem comb_bit {B : List Nat} (h : Piv B) (w : Nat) {b : Nat} (hb : b ∈ B) : (comb w B).testBit b.log2 = w.testBit b.log2 := by
  induction B with
  | nil => cases hb
  | cons c B ih =>
    have hB : Piv B := ⟨(List.pairwise_cons.mp h.1).2, fun c k => h.2 c (List.mem_cons_of_mem _ k)⟩
    have ho := (List.pairwise_cons.mp h.1).1
    rw [comb_cons]
    rcases List.mem_cons.mp hb with rfl | hb
    · have e : (comb w B).testBit b.log2 = false := by
        have : ∀ C : List Nat, (∀ c ∈ C, c.testBit b.log2 = false) → (comb w C).testBit b.log2 = false := by
          intro C
          induction C with
          | nil => intro _; exact Nat.zero_testBit _
          | cons d C ih2 =>
            intro hC
            rw [comb_cons]
            rw [Nat.testBit_xor, ih2 fun c k => hC c (List.mem_cons_of_mem _ k), Bool.xor_false]
            split
            · exact hC d List.mem_cons_self
            · exact Nat.zero_testBit _
        exact this B fun c k => (ho c k).1
      rw [Nat.testBit_xor, e, Bool.xor_false]
      cases hw : w.testBit b.log2
      · rw [if_neg (by simp)]
        exact Nat.zero_testBit _
      · rw [if_pos rfl]
        exact top_bit (h.2 b List.mem_cons_self)
    · rw [Nat.testBit_xor, ih hB hb]
      split
      · rw [(ho b hb).2, Bool.false_xor]
      · rw [Nat.zero_testBit, Bool.false_xor]
theorem rest_off {B : List Nat} (h : Piv B) (w : Nat) {b : Nat} (hb : b ∈ B) : (restOf w B).testBit b.log2 = false := by
  rw [rest_eq w h, Nat.testBit_xor, comb_bit h w hb, Bool.xor_self]
theorem rest_span {B : List Nat} (h : Piv B) (w : Nat) : span B (w ^^^ restOf w B) := by
  rw [rest_eq w h, ← Nat.xor_assoc, Nat.xor_self, Nat.zero_xor]
  exact comb_span w B
/-! ### a word more -/
def clear1 (r b : Nat) : Nat := if b.testBit r.log2 = true then b ^^^ r else b
theorem clear_log {r b : Nat} (hb : b ≠ 0) (hr : r ≠ 0) (h : r.testBit b.log2 = false) : clear1 r b ≠ 0 ∧ (clear1 r b).log2 = b.log2 := by
  unfold clear1
  split
  · rename_i k
    have l : r.log2 < b.log2 := by
      rcases Nat.lt_trichotomy r.log2 b.log2 with l | l | l
      · exact l
      · have := top_bit hr
        rw [l, h] at this
        cases this
      · rw [bit_above l] at k
        cases k
    refine log_of ?_ fun j hj => ?_
    · rw [Nat.testBit_xor, top_bit hb, h]
      rfl
    · rw [Nat.testBit_xor, bit_above hj, bit_above (Nat.lt_trans l hj)]
      rfl
  · exact ⟨hb, rfl⟩
theorem clear_bit {r b i : Nat} (h : r.testBit i = false) : (clear1 r b).testBit i = b.testBit i := by
  unfold clear1
  split
  · rw [Nat.testBit_xor, h, Bool.xor_false]
  · rfl
theorem clear_off {r b : Nat} (hr : r ≠ 0) : (clear1 r b).testBit r.log2 = false := by
  unfold clear1
  split
  · rename_i k
    rw [Nat.testBit_xor, k, top_bit hr]
    rfl
  · rename_i k
    simpa using k
/-- the basis with the rest put in, in any sequence -/
theorem put_piv {B : List Nat} {r : Nat} (h : Piv B) (hr : r ≠ 0) (ho : ∀ b ∈ B, r.testBit b.log2 = false) : Piv (B.map (clear1 r) ++ [r]) := by
  constructor
  · rw [List.pairwise_append]
    refine ⟨?_, List.pairwise_singleton _ _, fun a ha b hb => ?_⟩
    · rw [List.pairwise_map]
      refine h.1.imp_of_mem fun {a b} ha hb o => ?_
      have la := (clear_log (h.2 a ha) hr (ho a ha)).2
      have lb := (clear_log (h.2 b hb) hr (ho b hb)).2
      exact ⟨by rw [la, clear_bit (ho a ha)]; exact o.1, by rw [lb, clear_bit (ho b hb)]; exact o.2⟩
    · rw [List.mem_singleton.mp hb]
      obtain ⟨c, hc, rfl⟩ := List.mem_map.mp ha
      have lc := (clear_log (h.2 c hc) hr (ho c hc)).2
      exact ⟨by rw [lc]; exact ho c hc, clear_off hr⟩
  · intro b hb
    rcases List.mem_append.mp hb with hb | hb
    · obtain ⟨c, hc, rfl⟩ := List.mem_map.mp hb
      exact (clear_log (h.2 c hc) hr (ho c hc)).1
    · rw [List.mem_singleton.mp hb]
      exact hr
theorem clear_span {C : List Nat} {r b : Nat} (hr : span C r) : span C (clear1 r b) ↔ span C b := by
  unfold clear1
  split
  · constructor
    · intro k
      have := span_xor k hr
      rwa [xor_cancel] at this
    · exact fun k => span_xor k hr
  · exact Iff.rfl
theorem put_span (B : List Nat) (r a : Nat) : span (B.map (clear1 r) ++ [r]) a ↔ span (r :: B) a := by
  refine span_iff (fun w hw => ?_) (fun w hw => ?_) a
  · rcases List.mem_append.mp hw with hw | hw
    · obtain ⟨c, hc, rfl⟩ := List.mem_map.mp hw
      exact (clear_span (span_mem List.mem_cons_self)).mpr (span_mem (List.mem_cons_of_mem _ hc))
    · rw [List.mem_singleton.mp hw]
      exact span_mem List.mem_cons_self
  · have hr : span (B.map (clear1 r) ++ [r]) r := span_mem (List.mem_append_right _ List.mem_cons_self)
    rcases List.mem_cons.mp hw with rfl | hw
    · exact hr
    · exact (clear_span hr).mp (span_mem (List.mem_append_left _ (List.mem_map_of_mem hw)))
/-- the room of the basis with the rest is that with the word -/
theorem rest_room {B : List Nat} (h : Piv B) (w a : Nat) : span (restOf w B :: B) a ↔ span (w :: B) a := by
  have up : ∀ {u v}, span B v → span (u :: B) v := fun k => span_sub (fun v k => span_mem (List.mem_cons_of_mem _ k)) k
  refine span_iff (fun v hv => ?_) (fun v hv => ?_) a
  · rcases List.mem_cons.mp hv with rfl | hv
    · have := span_xor (up (u := w) (rest_span h w)) (span_mem (ws := w :: B) List.mem_cons_self)
      rwa [Nat.xor_comm w, xor_cancel] at this
    · exact up (span_mem hv)
  · rcases List.mem_cons.mp hv with rfl | hv
    · have := span_xor (up (u := restOf v B) (rest_span h v)) (span_mem (ws := restOf v B :: B) List.mem_cons_self)
      rwa [xor_cancel] at this
    · exact up (span_mem hv)
/-! ### a plain basis is told by its room -/
theorem plain_logs {B : List Nat} (h : Plain B) : B.Pairwise fun b c => c.log2 < b.log2 := by
  refine (List.Pairwise.and h.1.1 h.2).imp_of_mem fun {b c} hb hc k => ?_
  obtain ⟨o, gt⟩ := k
  rcases Nat.lt_trichotomy c.log2 b.log2 with l | l | l
  · exact l
  · have := top_bit (h.1.2 c hc)
    rw [l, o.1] at this
    cases this
  · exfalso
    have h1 : b < 2 ^ c.log2 := (lt_pow_log (h.1.2 b hb)).mpr l
    have h2 := Nat.log2_self_le (h.1.2 c hc)
    have h3 : b > c := gt
    omega
theorem comb_log : ∀ {B : List Nat} {u : Nat}, (∀ b ∈ B, b ≠ 0) → B.Pairwise (fun b c => c.log2 < b.log2) → comb u B ≠ 0 → ∃ c ∈ B, u.testBit c.log2 = true ∧ (comb u B).log2 = c.log2
  | [], u, _, _, h => absurd (comb_nil u) h
  | b :: B, u, h0, hp, h => by
    have hp2 := List.pairwise_cons.mp hp
    cases k : u.testBit b.log2 with
    | true =>
      refine ⟨b, List.mem_cons_self, k, ?_⟩
      have small : comb u B < 2 ^ b.log2 := by
        refine span_lt (ws := B) (fun c hc => (lt_pow_log (h0 c (List.mem_cons_of_mem _ hc))).mpr (hp2.1 c hc)) (comb_span u B)
      rw [comb_cons, if_pos k]
      refine (log_of ?_ fun j hj => ?_).2
      · rw [Nat.testBit_xor, top_bit (h0 b List.mem_cons_self), Nat.testBit_lt_two_pow small]
        rfl
      · rw [Nat.testBit_xor, bit_above hj, Nat.testBit_lt_two_pow (Nat.lt_trans small (Nat.pow_lt_pow_right (by decide) hj))]
        rfl
    | false =>
      have e : comb u (b :: B) = comb u B := by
        rw [comb_cons, k, if_neg (by simp), Nat.zero_xor]
      rw [e] at h ⊢
      obtain ⟨c, hc, r⟩ := comb_log (fun c hc => h0 c (List.mem_cons_of_mem _ hc)) hp2.2 h
      exact ⟨c, List.mem_cons_of_mem _ hc, r⟩
theorem span_log {B : List Nat} (h : Plain B) {u : Nat} (hu : span B u) (h0 : u ≠ 0) : ∃ c ∈ B, u.log2 = c.log2 := by
  have e := span_comb h.1 hu
  obtain ⟨c, hc, _, l⟩ := comb_log (u := u) h.1.2 (plain_logs h) (by rw [e]; exact h0)
  rw [e] at l
  exact ⟨c, hc, l⟩
theorem basis_least {B : List Nat} (h : Plain B) {b v : Nat} (hb : b ∈ B) (hv : span B v) (h0 : v ≠ 0) (l : v.log2 = b.log2) : b ≤ v := by
  by_cases e : v = b
  · omega
  · have hu : span B (v ^^^ b) := span_xor hv (span_mem hb)
    have u0 : v ^^^ b ≠ 0 := fun z => e (by
      have := congrArg (· ^^^ b) z
      simpa [xor_cancel] using this)
    obtain ⟨c, hc, lc⟩ := span_log h hu u0
    have n : c ≠ b := by
      rintro rfl
      have t := top_bit u0
      rw [lc, Nat.testBit_xor, top_bit (h.1.2 c hb), ← l, top_bit h0] at t
      cases t
    have off : b.testBit (v ^^^ b).log2 = false := by
      rw [lc]
      exact piv_off h.1 hc hb n
    have := lt_xor u0 off
    rw [Nat.xor_comm v b, ← Nat.xor_assoc, Nat.xor_self, Nat.zero_xor] at this
    omega
/-- the words of a plain basis: of each top the least word of the room -/
theorem basis_iff {B : List Nat} (h : Plain B) (v : Nat) : v ∈ B ↔ span B v ∧ v ≠ 0 ∧ ∀ u, span B u → u < v → u < 2 ^ v.log2 := by
  constructor
  · intro hv
    refine ⟨span_mem hv, h.1.2 v hv, fun u hu lt => ?_⟩
    by_cases u0 : u = 0
    · rw [u0]
      exact Nat.two_pow_pos _
    · refine (lt_pow_log u0).mpr ?_
      rcases Nat.lt_trichotomy u.log2 v.log2 with l | l | l
      · exact l
      · have := basis_least h hv hu u0 l
        omega
      · have h1 : v < 2 ^ u.log2 := (lt_pow_log (h.1.2 v hv)).mpr l
        have h2 := Nat.log2_self_le u0
        omega
  · rintro ⟨hv, h0, least⟩
    obtain ⟨c, hc, l⟩ := span_log h hv h0
    have le := basis_least h hc hv h0 l
    rcases Nat.lt_or_ge c v with lt | ge
    · have := least c (span_mem hc) lt
      have h2 := Nat.log2_self_le (h.1.2 c hc)
      rw [l] at this
      omega
    · have : v = c := by omega
      rw [this]
      exact hc
theorem asc_eq : ∀ {l m : List Nat}, l.Pairwise (· > ·) → m.Pairwise (· > ·) → (∀ x, x ∈ l ↔ x ∈ m) → l = m
  | [], [], _, _, _ => rfl
  | [], x :: m, _, _, h => ((List.not_mem_nil ((h x).mpr List.mem_cons_self))).elim
  | x :: l, [], _, _, h => ((List.not_mem_nil ((h x).mp List.mem_cons_self))).elim
  | x :: l, y :: m, hl, hm, h => by
    have h1 := List.pairwise_cons.mp hl
    have h2 := List.pairwise_cons.mp hm
    have e : x = y := by
      rcases List.mem_cons.mp ((h x).mp List.mem_cons_self) with k | k
      · exact k
      · rcases List.mem_cons.mp ((h y).mpr List.mem_cons_self) with k2 | k2
        · exact k2.symm
        · have := h2.1 x k
          have := h1.1 y k2
          omega
    subst e
    congr 1
    refine asc_eq h1.2 h2.2 fun z => ⟨fun hz => ?_, fun hz => ?_⟩
    · rcases List.mem_cons.mp ((h z).mp (List.mem_cons_of_mem _ hz)) with k | k
      · have := h1.1 z hz
        omega
      · exact k
    · rcases List.mem_cons.mp ((h z).mpr (List.mem_cons_of_mem _ hz)) with k | k
      · have := h2.1 z hz
        omega
      · exact k
theorem plain_unique {B C : List Nat} (hB : Plain B) (hC : Plain C) (h : ∀ v, span B v ↔ span C v) : B = C :=
  asc_eq hB.2 hC.2 fun v => by
    rw [basis_iff hB, basis_iff hC, h v]
    constructor
    · rintro ⟨a, b, c⟩
      exact ⟨a, b, fun u hu => c u ((h u).mpr hu)⟩
    · rintro ⟨a, b, c⟩
      exact ⟨a, b, fun u hu => c u ((h u).mp hu)⟩
/-! ### all sums -/
def sumsOf (B : List Nat) : List Nat := B.foldl (fun s b => s ++ s.map (· ^^^ b)) [0]
theorem sums_gen : ∀ (B C s : List Nat), (∀ v, v ∈ s ↔ span C v) → s.Nodup → Piv (C ++ B) →
    (∀ v, v ∈ B.foldl (fun s b => s ++ s.map (· ^^^ b)) s ↔ span (C ++ B) v) ∧ (B.foldl (fun s b => s ++ s.map (· ^^^ b)) s).Nodup ∧ (B.foldl (fun s b => s ++ s.map (· ^^^ b)) s).length = s.length * 2 ^ B.length
  | [], C, s, h, nd, _ => ⟨by rw [List.append_nil]; exact h, nd, by simp⟩
  | b :: B, C, s, h, nd, hp => by
    have hCB : C ++ b :: B = (C ++ [b]) ++ B := by rw [List.append_assoc]; rfl
    have hC : Piv (C ++ [b]) := by
      rw [hCB] at hp
      exact ⟨(List.pairwise_append.mp hp.1).1, fun c hc => hp.2 c (List.mem_append_left _ hc)⟩
    have pv : Piv C := ⟨(List.pairwise_append.mp hC.1).1, fun c hc => hC.2 c (List.mem_append_left _ hc)⟩
    have nb : ¬ span C b := fun k => by
      have := (rest_zero pv b).mpr k
      rw [rest_eq b pv, comb_off fun c hc => ((List.pairwise_append.mp hC.1).2.2 c hc b List.mem_cons_self).1, Nat.xor_zero] at this
      exact hC.2 b (List.mem_append_right _ List.mem_cons_self) this
    have key : ∀ v, v ∈ s ++ s.map (· ^^^ b) ↔ span (C ++ [b]) v := fun v => by
      rw [List.mem_append, h, List.mem_map, (span_perm (List.perm_append_comm (l₁ := C) (l₂ := [b])) v)]
      show _ ↔ span (b :: C) v
      rw [span_cons]
      refine or_congr Iff.rfl ⟨?_, fun k => ⟨v ^^^ b, (h _).mpr k, xor_cancel v b⟩⟩
      rintro ⟨u, hu, rfl⟩
      rw [xor_cancel]
      exact (h u).mp hu
    have nd2 : (s ++ s.map (· ^^^ b)).Nodup := by
      rw [List.nodup_append]
      refine ⟨nd, ?_, fun x hx y hy e => ?_⟩
      · unfold List.Nodup
        rw [List.pairwise_map]
        exact nd.imp fun n e => n (by
          have := congrArg (· ^^^ b) e
          simpa [xor_cancel] using this)
      · subst e
        obtain ⟨u, hu, e⟩ := List.mem_map.mp hy
        apply nb
        have := span_xor ((h u).mp hu) ((h x).mp hx)
        rw [← e, ← Nat.xor_assoc, Nat.xor_self, Nat.zero_xor] at this
        exact this
    have r := sums_gen B (C ++ [b]) _ key nd2 (by rw [← hCB]; exact hp)
    rw [← hCB] at r
    refine ⟨r.1, r.2.1, ?_⟩
    show (List.foldl _ (s ++ s.map (· ^^^ b)) B).length = _
    rw [r.2.2, List.length_append, List.length_map, List.length_cons, Nat.pow_succ]
    rw [← Nat.mul_two, Nat.mul_assoc, Nat.mul_comm 2]
theorem sums_ok {B : List Nat} (h : Piv B) : (∀ v, v ∈ sumsOf B ↔ span B v) ∧ (sumsOf B).Nodup ∧ (sumsOf B).length = 2 ^ B.length := by
  have r := sums_gen B [] [0] (fun v => ⟨fun k => by rw [List.mem_singleton.mp k]; exact span_zero _, fun k => List.mem_singleton.mpr (span_nil k)⟩) (by simp) h
  refine ⟨r.1, r.2.1, ?_⟩
  rw [show (sumsOf B).length = _ from r.2.2]
  simp
end Vf
namespace Vf
open PySem PySem.Spec PyProof.Rows L2
/-! ### a def that is called: what a caller needs of it -/
def Cal (P : Program) (w : World) (K : PySem.W.Frag) (mg : Str → Option Value) (base : Heap) (x : Str) (k : Nat) (ps : List Str) (dvs : List V) (sp : Sp) : Prop :=
  ∃ (f : Addr) (fd : FuncData) (ds : List Value), FnOk P w K mg base CX0 k f fd ps sp ∧ mg x = some (.ref f) ∧ PySem.W.keepIn K (.ref f) = true ∧ Binds K fd ps ds ∧ Vals dvs ds
def CalK (P : Program) (w : World) (K : PySem.W.Frag) (mg : Str → Option Value) (base : Heap) (x : Str) (k : Nat) (ps ks : List Str) (gV : List V → List V → List V) (sp : Sp) : Prop :=
  ∃ (f : Addr) (fd : FuncData) (g : List Value → List Value → List Value), FnOk P w K mg base CX0 k f fd ps sp ∧ mg x = some (.ref f) ∧ PySem.W.keepIn K (.ref f) = true ∧ KBn K fd ps 0 ks g gV
section
variable {X : Cx} {k : Nat} {ps ks : List Str} {dvs : List V} {sp : Sp} {x : Str} {p pos : Pos}
  {e : Expr} {es : List Expr} {kws : List Keyword} {t tk : TA} {gV : List V → List V → List V}
theorem pe_cal (C : Cal X.prog X.w X.K X.mg X.base x k ps dvs sp) (hr : Room k X.A) (hg : Gl X x) (ha : PA X (e :: es) t)
    (hdb : (x == ("__debug__" : Str)) = false := by decide) (he : starEach (e :: es) X.env = (false, eval e X.env) :: starEach es X.env := by rfl)
    (hpl : (backTo pos (starEach es X.env)).any (·.1) = false := by rfl) : PE X (.Call (.Name x p) (e :: es) [] pos) (tCall sp dvs E0 t) := by
  obtain ⟨f, fd, ds, F, gm, kp, b, hv⟩ := C
  exact pe_call F hr hg gm kp b hv pass0 ha hdb he hpl
theorem pe_calKw (C : CalK X.prog X.w X.K X.mg X.base x k ps ks gV sp) (hr : Room k X.A) (hg : Gl X x) (hkw : PK X kws tk)
    (hall : (backToKw pos (keywordEach kws X.env)).all (·.1.isSome) = true := by rfl)
    (hks : (backToKw pos (keywordEach kws X.env)).filterMap (·.1) = ks := by rfl)
    (hdb : (x == ("__debug__" : Str)) = false := by decide)
    (hpl : ((backTo pos (starEach [] X.env)).any (·.1) || (backToKw pos (keywordEach kws X.env)).any (·.1.isNone)) = false := by rfl) :
    PE X (.Call (.Name x p) [] kws pos) (fun σ H Q => tk σ H fun zs H1 => zs.length = ks.length ∧ sp (gV [] zs) H1 Q E0) := by
  obtain ⟨f, fd, g, F, gm, kp, b⟩ := C
  exact pe_callKw F hr hg gm kp b pass0 hkw hall hks hdb hpl
end
/-! ### heaps -/
theorem same_new {H : Hp} {p : Addr} {o : HO} (h : H p = none) : Same H (upd H p o) := fun b x e => by
  rw [upd_ne (ne_of_none e h)]
  exact e
/-- all that was tracked stands, but what is at p -/
def But (p : Addr) (H H' : Hp) : Prop := ∀ b o, b ≠ p → H b = some o → H' b = some o
theorem But.refl (p : Addr) (H : Hp) : But p H H := fun _ _ _ h => h
theorem But.trans {p : Addr} {H H1 H2 : Hp} (a : But p H H1) (b : But p H1 H2) : But p H H2 := fun c o n h => b c o n (a c o n h)
theorem But.of {p : Addr} {H H' : Hp} (s : Same H H') : But p H H' := fun b o _ h => s b o h
theorem But.upd {p : Addr} {H H' : Hp} {o : HO} (s : But p H H') : But p H (upd H' p o) := fun b x n h => by
  rw [upd_ne n]
  exact s b x n h
theorem But.seq {K : PySem.W.Frag} {p a : Addr} {H H' : Hp} {xs : List V} (s : But p H H') (h : SqL K H a xs) (hp : ∀ o, H p = some o → a ≠ p) (hx : (∃ o, H p = some o)) : SqL K H' a xs := by
  obtain ⟨o, ho⟩ := hx
  have n := hp o ho
  rcases h with (h | ⟨u, h⟩) | h
  · exact .inl (.inl (s _ _ n h))
  · exact .inl (.inr ⟨u, s _ _ n h⟩)
  · exact .inr h
/-- naturals as a list of values -/
def vs (l : List Nat) : List V := l.map fun i => V.int (i : Nat)
theorem vs_int (l : List Nat) : vs l = (l.map fun i : Nat => (i : Int)).map V.int := by
  unfold vs
  rw [List.map_map]
  rfl
theorem bl_t {p : Prop} [Decidable p] (h : p) : V.bl (decide p) = V.bl true := by rw [decide_eq_true h]
theorem bl_f {p : Prop} [Decidable p] (h : ¬ p) : V.bl (decide p) = V.bl false := by rw [decide_eq_false h]
theorem sl_lt {n : Nat} (h : n ≤ 100000) : n < sizeLine := Nat.lt_of_le_of_lt h (by decide)
end Vf
namespace Vf
open PySem PySem.Spec PyProof.Rows L2
/-! ### len(set(t)), t a tuple of unlike ints -/
def tLenSetT (K : PySem.W.Frag) (ta : TE) : TE := fun σ H Q => ta σ H fun x H1 => ∃ (l : Addr) (ns : List Int),
  x = .ref l ∧ SqT K H1 l (ns.map V.int) ∧ ns.Nodup ∧ ns.length ≤ 1000 ∧ Q (.int (ns.length : Nat)) H1
theorem pe_lenSetT {X : Cx} {a : Expr} {ta : TE} {p p2 q pos : Pos} (hg : Gl X "len") (hm : X.mg "len" = none)
    (hg2 : Gl X "set") (hm2 : X.mg "set" = none) (ha : PE X a ta) (hc : X.calm = true := by rfl)
    (na : starEach [a] X.env = (false, eval a X.env) :: starEach [] X.env := by rfl) :
    PE X (.Call (.Name "len" p) [.Call (.Name "set" p2) [a] [] q] [] pos) (tLenSetT X.K ta) := by
  refine ⟨fun pins s σ H Q I h => Call_ (ld_blt I hg hm PySem.boot_len ?_)⟩
  refine callWith_builtin1 (args_cons (Call_ (ld_blt I hg2 hm2 PyProof.Rows.boot_set ?_)) rfl) rfl rfl
  refine callWith_type1 (args_cons (thn (ha.run pins s σ H _ I h) fun v s1 z => args_nil ?_) na) na rfl
  obtain ⟨x, H1, I1, r1, l, ns, rfl, hq, nd, hl, q1⟩ := z
  cases r1
  obtain ⟨its, rv, pt, hz⟩ := I1.tuple hq
  have hi : IntsAre its.toArray.toList ns := ints_of_vals rv
  refine call_set_tupI ns (I1.ok.hd hc) (show s1.heap.IsTuple l its.toArray from pt) hi (by unfold scanBound; omega) fun h' tk c R1 hcn k => ?_
  obtain ⟨o, es, ep, t, ho, hex, hdt, g, nd2, hm3, hb, hf, hn, hr, hl2⟩ := R1
  have e1 : es.size = ns.length := by
    have pm : (es.toList.map keyOf).Perm ns := (List.perm_ext_iff_of_nodup nd2 nd).mpr fun z => by
      rw [← hm3 z]
      exact decide_eq_true_iff
    have := pm.length_eq
    rw [List.length_map, Array.length_toList] at this
    exact this
  have I2 : Inv X pins σ H1 { s1 with heap := h', toks := tk } := I1.kept fun b o e => k b o e
  refine args_nil (call_len_set ho hex hdt hf (by rw [e1]; omega) ⟨.int ns.length, H1, I2.tok _, ⟨_, by rw [e1]⟩, q1⟩)
/-! ### operators on numbers that are not negative -/
section
variable {X : Cx}
theorem op_andN : OpR X (binaryOp .BitAnd) (fun x y H Q => ∃ a b : Nat, x = .int a ∧ y = .int b ∧ Q (.int ((a &&& b : Nat) : Int)) H) := by
  rintro pins s σ H x y v u Q I rx ry ⟨a, b, rfl, rfl, q⟩
  refine op_and pins s σ H _ _ v u Q I rx ry ⟨a, b, rfl, rfl, ?_⟩
  show Q (.int (Builtin.bitAnd a b)) H
  rw [bitAnd_pp (by omega) (by omega)]
  exact q
theorem op_xorN : OpR X (binaryOp .BitXor) (fun x y H Q => ∃ a b : Nat, x = .int a ∧ y = .int b ∧ Q (.int ((a ^^^ b : Nat) : Int)) H) := by
  rintro pins s σ H x y v u Q I rx ry ⟨a, b, rfl, rfl, q⟩
  refine op_xor pins s σ H _ _ v u Q I rx ry ⟨a, b, rfl, rfl, ?_⟩
  show Q (.int (Builtin.bitXor a b)) H
  rw [Bits.bitXor_pp (by omega) (by omega)]
  exact q
theorem op_modNN : OpR X (binaryOp .Mod) (fun x y H Q => ∃ a b : Nat, x = .int a ∧ y = .int b ∧ 0 < b ∧ Q (.int ((a % b : Nat) : Int)) H) := by
  rintro pins s σ H x y v u Q I rx ry ⟨a, b, rfl, rfl, hb, q⟩
  refine op_modN pins s σ H _ _ v u Q I rx ry ⟨a, b, rfl, rfl, by show (b : Int) ≠ 0; omega, ?_⟩
  show Q (.int (Int.fmod (a : Int) b)) H
  rw [Int.fmod_eq_emod_of_nonneg _ (by omega)]
  exact q
theorem op_eqN : OpR X (compareOp .Eq) (fun x y H Q => ∃ a b : Nat, x = .int a ∧ y = .int b ∧ Q (.bl (decide (a = b))) H) := by
  rintro pins s σ H x y v u Q I rx ry ⟨a, b, rfl, rfl, q⟩
  refine op_eq pins s σ H _ _ v u Q I rx ry ⟨rfl, ?_⟩
  have e : decide (V.int (a : Int) = V.int (b : Int)) = decide (a = b) := decide_eq_decide.mpr ⟨fun z => by injection z with z; omega, fun z => by rw [z]⟩
  rw [e]
  exact q
theorem op_neN : OpR X (compareOp .NotEq) (fun x y H Q => ∃ a b : Nat, x = .int a ∧ y = .int b ∧ Q (.bl (!decide (a = b))) H) := by
  rintro pins s σ H x y v u Q I rx ry ⟨a, b, rfl, rfl, q⟩
  refine op_ne pins s σ H _ _ v u Q I rx ry ⟨rfl, ?_⟩
  have e : decide (V.int (a : Int) = V.int (b : Int)) = decide (a = b) := decide_eq_decide.mpr ⟨fun z => by injection z with z; omega, fun z => by rw [z]⟩
  rw [e]
  exact q
theorem op_ltN : OpR X (compareOp .Lt) (fun x y H Q => ∃ a b : Nat, x = .int a ∧ y = .int b ∧ Q (.bl (decide (a < b))) H) := by
  rintro pins s σ H x y v u Q I rx ry ⟨a, b, rfl, rfl, q⟩
  refine op_lt pins s σ H _ _ v u Q I rx ry ⟨a, b, rfl, rfl, ?_⟩
  have e : decide ((a : Int) < b) = decide (a < b) := decide_eq_decide.mpr (by omega)
  show Q (.bl (decide ((a : Int) < b))) H
  rw [e]
  exact q
theorem op_gtN : OpR X (compareOp .Gt) (fun x y H Q => ∃ a b : Nat, x = .int a ∧ y = .int b ∧ Q (.bl (decide (b < a))) H) := by
  rintro pins s σ H x y v u Q I rx ry ⟨a, b, rfl, rfl, q⟩
  refine op_gt pins s σ H _ _ v u Q I rx ry ⟨a, b, rfl, rfl, ?_⟩
  have e : decide ((b : Int) < a) = decide (b < a) := decide_eq_decide.mpr (by omega)
  show Q (.bl (decide ((b : Int) < a))) H
  rw [e]
  exact q
theorem op_pow2 : OpR X (binaryOp .LShift) (fun x y H Q => ∃ k : Nat, x = .int 1 ∧ y = .int (k : Int) ∧ k ≤ 1000 ∧ Q (.int ((2 ^ k : Nat) : Int)) H) := by
  rintro pins s σ H x y v u Q I rx ry ⟨k, rfl, rfl, hk, q⟩
  refine op_oneShl pins s σ H _ _ v u Q I rx ry ⟨k, rfl, rfl, by omega, ?_⟩
  have e : (2 : Int) ^ k = ((2 ^ k : Nat) : Int) := by rw [Int.natCast_pow] <;> rfl
  rw [e]
  exact q
/-- an int as a test -/
def tInt (ta : TE) : TT := fun σ H Q => ta σ H fun x H' => ∃ n : Nat, x = .int (n : Int) ∧ Q (decide (n ≠ 0)) H'
theorem pt_int {a : Expr} {ta : TE} (ha : PE X a ta) (he : ∀ whole, isTrue a X.env whole = (do let v ← whole; standAt a.pos; holding [v] (truthy v))) : PT X a (tInt ta) := by
  refine ⟨fun pins s σ H Q I h => isTrue_plain (thn (ha.run pins s σ H _ I h) fun v s1 z => ?_) (he _)⟩
  obtain ⟨x, H1, I1, r1, n, rfl, q⟩ := z
  obtain ⟨t, rfl⟩ := r1
  have e : ((n : Int) != 0) = decide (n ≠ 0) := by cases n <;> rfl
  exact PySem.P.truthy_int ⟨H1, I1, by rw [e]; exact q⟩
end
end Vf
namespace Vf
open PySem PySem.Spec PyProof.Rows L2
section
variable {X : Cx}
theorem call_intN : CallR X (.type "int") (fun xs H Q => ∃ n : Nat, xs = [.int (n : Int)] ∧ Q (.int (n : Int)) H) := by
  rintro pins s σ H xs us Q I r ⟨n, rfl, q⟩
  exact call_int1 pins s σ H _ us Q I r (.inl ⟨n, rfl, q⟩)
theorem call_divmodN : CallR X (.builtin "divmod") (fun xs H Q => ∃ a b : Nat, xs = [.int (a : Int), .int (b : Int)] ∧ 0 < b ∧ b < 1073741824 ∧
    ∀ p, H p = none → Q (.ref p) (upd H p (.tup [.int ((a / b : Nat) : Int), .int ((a % b : Nat) : Int)]))) := by
  rintro pins s σ H xs us Q I r ⟨a, b, rfl, h1, h2, q⟩
  refine call_divmod pins s σ H _ us Q I r ⟨a, b, rfl, ⟨by omega, by omega⟩, fun p hp => ?_⟩
  have e1 : (a : Int) / b = ((a / b : Nat) : Int) := (Int.natCast_ediv _ _).symm
  have e2 : (a : Int) % b = ((a % b : Nat) : Int) := (Int.natCast_emod _ _).symm
  rw [e1, e2]
  exact q p hp
end
/-- a pot: what is left of the cell's own digits, and the mixed number -/
def Pot (H : Hp) (p : Addr) : Prop := ∃ x y : Nat, H p = some (.lst [.int (x : Int), .int (y : Int)]) ∧ y < 2147483648
theorem Pot.same {H H' : Hp} {p : Addr} (s : Same H H') (h : Pot H p) : Pot H' p := by
  obtain ⟨x, y, e, l⟩ := h
  exact ⟨x, y, s _ _ e, l⟩
theorem Pot.upd {H : Hp} {p q : Addr} {o : HO} (n : p ≠ q) (h : Pot H p) : Pot (upd H q o) p := by
  obtain ⟨x, y, e, l⟩ := h
  exact ⟨x, y, by rw [upd_ne n]; exact e, l⟩
theorem Pot.some {H : Hp} {p : Addr} (h : Pot H p) : ∃ o, H p = some o := by
  obtain ⟨x, y, e, l⟩ := h
  exact ⟨_, e⟩
/-- changes at a new place alone -/
theorem But.new {p q : Addr} {H H' : Hp} {o : HO} (s : But p H H') (h : H q = none) : But p H (L2.upd H' q o) := fun b x n e => by
  show L2.upd H' q o b = _
  rw [upd_ne (ne_of_none e h)]
  exact s b x n e
end Vf
namespace Vf
open PySem PySem.Spec PyProof.Rows L2
/-! ### flat lists as data -/
def toD : V → PyData
  | .bl b => .bool b
  | .int i => .int i
  | _ => .none
def flat : V → Bool
  | .bl _ => true
  | .int _ => true
  | _ => false
def small : V → Bool
  | .bl _ => true
  | .int i => decide (i.natAbs.log2 < 1900)
  | _ => false
theorem dp_flat {K : PySem.W.Frag} {H : Hp} {x : V} (h : flat x = true) : Dp K H x (toD x) := by
  cases x with
  | bl b => exact .bl b
  | int i => exact .int i
  | _ => cases h
theorem dp_all {K : PySem.W.Frag} {H : Hp} : ∀ {xs : List V}, (∀ x ∈ xs, flat x = true) → DpAll K H xs (xs.map toD)
  | [], _ => .nil
  | x :: xs, h => .cons (dp_flat (h x List.mem_cons_self)) (dp_all fun y hy => h y (List.mem_cons_of_mem _ hy))
theorem canLay_all : ∀ {xs : List V}, (∀ x ∈ xs, flat x = true) → PyData.canLayAll0 (xs.map toD) = true
  | [], _ => rfl
  | x :: xs, h => by
    have h1 := h x List.mem_cons_self
    have h2 := canLay_all (xs := xs) fun y hy => h y (List.mem_cons_of_mem _ hy)
    rw [List.map_cons, PyData.canLayAll0, h2]
    cases x <;> first | rfl | cases h1
theorem depth_all : ∀ xs : List V, PyData.depthAll (xs.map toD) = 0
  | [] => rfl
  | x :: xs => by
    rw [List.map_cons, PyData.depthAll, depth_all xs]
    cases x <;> rfl
theorem shaped_flat {xs : List V} (h : ∀ x ∈ xs, flat x = true) : SeqAt.shaped (.list (xs.map toD)) = true := by
  unfold SeqAt.shaped
  rw [PyData.canLay0, canLay_all h, PyData.depth, depth_all]
  rfl
theorem flat_vs (l : List Nat) : ∀ x ∈ vs l, flat x = true := fun x hx => by
  obtain ⟨i, _, rfl⟩ := List.mem_map.mp hx
  rfl
/-! ### their texts -/
theorem text_len : ∀ (ts : List Str) (k : Nat) (acc : Str), (textFrom k acc ts).length ≤ acc.length + (ts.map fun t => t.length + 2).sum
  | [], k, acc => Nat.le_refl _
  | t :: r, k, acc => by
    have h := text_len r (k + 1) (acc ++ (if k > 0 then ", " else "" : String) ++ t)
    rw [strLen_append, strLen_append] at h
    have e : ((if k > 0 then ", " else "" : String) : Str).length ≤ 2 := by
      split
      · exact Nat.le_refl 2
      · exact Nat.zero_le 2
    show (textFrom (k + 1) _ r).length ≤ _
    rw [List.map_cons, List.sum_cons]
    exact Nat.le_trans h (by omega)
theorem small_nat {n : Nat} (h : n < 2 ^ 24) : small (.int (n : Int)) = true := by
  refine decide_eq_true ?_
  show n.log2 < 1900
  by_cases h0 : n = 0
  · rw [h0]
    decide
  · exact Nat.lt_of_lt_of_le ((Nat.log2_lt h0).mpr h) (by decide)
theorem small_len {x : V} (h : small x = true) : (toD x).shown.length ≤ 1921 := by
  cases x with
  | bl b => cases b <;> decide +kernel
  | int i =>
    have e := int_text_length_le (a := i) (k := 1900) (by decide) (of_decide_eq_true h)
    show (Str.ofString (toString i)).length ≤ 1921
    rw [PySem.ofString_length]
    omega
  | _ => cases h
theorem small_show {x : V} (h : small x = true) : (toD x).showable = true ∧ (toD x).hasDict = false := by
  cases x with
  | bl b => exact ⟨rfl, rfl⟩
  | int i =>
    have h2 : i.natAbs.log2 < 1900 := of_decide_eq_true h
    exact ⟨decide_eq_true (by omega), rfl⟩
  | _ => cases h
theorem shown_all : ∀ {xs : List V}, (∀ x ∈ xs, small x = true) → PyData.showableAll (xs.map toD) = true ∧ PyData.hasDictAll (xs.map toD) = false ∧
    ((PyData.shownAll (xs.map toD)).map fun t => t.length + 2).sum ≤ 1925 * xs.length
  | [], _ => ⟨rfl, rfl, Nat.le_refl _⟩
  | x :: xs, h => by
    obtain ⟨a, b, c⟩ := shown_all (xs := xs) fun y hy => h y (List.mem_cons_of_mem _ hy)
    have h1 := h x List.mem_cons_self
    have h2 := small_len h1
    rw [List.map_cons, PyData.showableAll, PyData.hasDictAll, PyData.shownAll, a, b, (small_show h1).1, (small_show h1).2, List.map_cons, List.sum_cons, List.length_cons]
    exact ⟨rfl, rfl, by omega⟩
/-- the text of such a list -/
def txt (xs : List V) : Str := (PyData.list (xs.map toD)).shown
theorem perm_vs {l' : List V} {l : List Nat} (h : l'.Perm (vs l)) : ∃ l2 : List Nat, l' = vs l2 ∧ l2.Perm l := by
  let g : V → Nat := fun x => match x with | .int i => i.toNat | _ => 0
  refine ⟨l'.map g, ?_, ?_⟩
  · have e : ∀ x ∈ l', V.int ((g x : Nat) : Int) = x := fun x hx => by
      obtain ⟨i, _, rfl⟩ := List.mem_map.mp (h.mem_iff.mp hx)
      rfl
    unfold vs
    rw [List.map_map]
    exact ((List.map_congr_left (g := id) e).trans (List.map_id l')).symm
  · have p := h.map g
    unfold vs at p
    rw [List.map_map] at p
    have e : (l.map (g ∘ fun i : Nat => V.int (i : Int))) = l := by
      rw [show (g ∘ fun i : Nat => V.int (i : Int)) = id from rfl, List.map_id]
    rw [e] at p
    exact p
end Vf
namespace Vf
open PySem PySem.Spec PyProof.Rows L2
def CalG (P : Program) (w : World) (K : PySem.W.Frag) (mg : Str → Option Value) (base : Heap) (x : Str) (k : Nat) (ps : List Str) (sp : Sp) : Prop :=
  ∃ (f : Addr) (fd : FuncData), GnOk P w K mg base k f fd ps sp ∧ mg x = some (.ref f) ∧ PySem.W.keepIn K (.ref f) = true ∧ Binds K fd ps []
def tGn (sp : Sp) (t : TA) : TE := fun σ H Q => t σ H fun vs H1 => sp vs H1 Q E0
theorem pe_calG {X : Cx} {k : Nat} {ps : List Str} {sp : Sp} {x : Str} {p pos : Pos} {e : Expr} {es : List Expr} {t : TA} (C : CalG X.prog X.w X.K X.mg X.base x k ps sp)
    (gg : X.A.guards = some []) (hr : Room k X.A) (hg : Gl X x) (ha : PA X (e :: es) t)
    (hdb : (x == ("__debug__" : Str)) = false := by decide) (he : starEach (e :: es) X.env = (false, eval e X.env) :: starEach es X.env := by rfl)
    (hpl : (backTo pos (starEach es X.env)).any (·.1) = false := by rfl) : PE X (.Call (.Name x p) (e :: es) [] pos) (tGn sp t) := by
  obtain ⟨f, fd, F, gm, kp, b⟩ := C
  exact pe_gn F gg hr hg gm kp b ha hdb he hpl
theorem But.free {p q : Addr} {H H' : Hp} (b : But p H H') (hp : Pot H' p) (h : H' q = none) : H q = none := by
  cases e : H q with
  | none => rfl
  | some o =>
    by_cases n : q = p
    · subst n
      obtain ⟨o2, e2⟩ := hp.some
      rw [h] at e2
      cases e2
    · rw [b q o n e] at h
      cases h
end Vf
set_option Elab.async false
set_option linter.all false
set_option maxRecDepth 100000
set_option maxHeartbeats 4000000
namespace Vf
open PySem PySem.Spec PyProof.Rows L2
/-! ### {xs} in an f-string, xs data -/
section
variable {X : Cx}
/-! ### repr of an own instance -/
/-! ### == and != by an own __eq__ -/
end
end Vf
set_option Elab.async false
set_option linter.all false
set_option maxRecDepth 100000
set_option maxHeartbeats 4000000
namespace Vf
open PySem PySem.Spec PyProof.Rows L2
/-! ### for i, x in enumerate(t), t a tuple -/
theorem meets_enumB {v : Value} {o : Obj} {H : Heap → Prop} (B : Begins v o H) :
    Meets (Builtin.«enumerate.__new__» ⟨[.type "enumerate", v], []⟩) (fun _ R s => H s.heap ∧ R (.ok (.ret (.ref (s.heap.push o).objs.size)))
      { s with heap := (s.heap.push o).push { cls := .type "enumerate", data := .fields #[.none, .bool false, .ref s.heap.objs.size, rawInt 0, .none, .none] } }) :=
  .of_wp fun prog w A R s h => by
    obtain ⟨hp, g, d, tk, os⟩ := s
    obtain ⟨h1, h⟩ := h
    have hsub := sub_enumerate
    have q1 : ∀ {A' : Around} {E : Value → Shared → Prop} {Q : Value → Shared → Prop}, Q (.ref hp.objs.size) ⟨hp.push o, g, d, tk, os⟩ →
        wpAny (model prog w) A' (pyIter v) Q E ⟨hp, g, d, tk, os⟩ := fun q => B.iter prog w _ _ ⟨hp, g, d, tk, os⟩ _ h1 q
    wp_walk using q1
    refine wpAny_stack_any fun st => wpAny_pure ?_
    split
    · rename_i c _ _ _ _ _
      cases (c == Value.type "enumerate") <;> (wp_walk using q1; exact ⟨_, rfl, h⟩)
    · wp_walk using q1
      exact ⟨_, rfl, h⟩
theorem call_enumT {prog : Program} {w : World} {A : Around} {E : Value → Shared → Prop} {s : Shared} {l : Addr} {items : Array Value} {Q : Value → Shared → Prop} (hT : s.heap.IsTuple l items)
    (h : ∀ h', IsEnum h' (s.heap.objs.size + 1) s.heap.objs.size 0 .none → h'.IsTupleIter s.heap.objs.size l 0 →
      (∀ b o, s.heap.get? b = some o → h'.get? b = some o) → Q (.ref (s.heap.objs.size + 1)) { s with heap := h' }) :
    wpAny (model prog w) A (call (.type "enumerate") [.ref l]) Q E s := by
  refine callType_new F.called_enumerate (by decide) (F.typeCall_enumerate_1 _) (F.newCall_enumerate_1 _) (fun obj => F.args_object_init_2 obj _) F.entry_enumerate_new
    (meets_enumB (begins_tuple l items)) ⟨hT, ?_⟩
  have hz : (s.heap.push { cls := .type "tuple_iterator", data := .fields #[.ref l, .int 0 0] }).objs.size = s.heap.objs.size + 1 := Heap.size_push ..
  show _ ∧ _
  rw [hz]
  have he : IsEnum ((s.heap.push { cls := .type "tuple_iterator", data := .fields #[.ref l, .int 0 0] }).push
      { cls := .type "enumerate", data := .fields #[.none, .bool false, .ref s.heap.objs.size, rawInt 0, .none, .none] }) (s.heap.objs.size + 1) s.heap.objs.size 0 .none := by
    have z := Heap.get?_push_size (s.heap.push { cls := .type "tuple_iterator", data := .fields #[.ref l, .int 0 0] })
      (o := { cls := .type "enumerate", data := .fields #[.none, .bool false, .ref s.heap.objs.size, rawInt 0, .none, .none] }) rfl
    rw [hz] at z
    exact z
  exact ⟨⟨_, he, rfl⟩, h _ he ⟨_, Heap.get?_push_of_some _ (Heap.get?_push_size _ rfl), rfl, rfl⟩ fun b o x => Heap.get?_push_of_some _ (Heap.get?_push_of_some _ x)⟩
def ItT (K : PySem.W.Frag) (a : Addr) : It :=
  ⟨fun i H => ∃ (xs : List V) (x : V), SqT K H a xs ∧ xs[i]? = some x,
   fun i H v H' => ∃ T x, v = .ref T ∧ H T = none ∧ H' = upd H T (.tup [.int (i : Nat), x]) ∧ ∀ xs, SqT K H a xs → xs[i]? = some x,
   fun i H => ∃ xs : List V, SqT K H a xs ∧ xs.length = i⟩
theorem turn_enumT {P : Program} {w : World} {K : PySem.W.Frag} {elts : List Expr} {kk : Nat} {tpos : Pos} (a e it : Addr) :
    Turn P w K (.Tuple elts kk tpos) (ItT K a) [e, it] e (fun i h => (∃ old, IsEnum h e it ((i : Nat) : Int) old) ∧ h.IsTupleIter it a i ∧ e ≠ it) where
  mem := by simp
  obj := by
    rintro i h ⟨⟨old, he⟩, ⟨o, ho, hc, hd⟩, _⟩ b hb
    rcases (show b = e ∨ b = it by simpa using hb) with rfl | rfl
    · exact ⟨_, he, fun v q => nomatch q⟩
    · exact ⟨o, ho, fun v q => by rw [hd] at q; cases q⟩
  keep := by
    rintro i h h' ⟨⟨old, he⟩, hi, hne⟩ k
    exact ⟨⟨old, k e (by simp) _ he⟩, hi.at fun o q => k it (by simp) o q, hne⟩
  item := by
    intro X hP hw hK hc i pins s σ H E I hf st hg
    subst hP hw hK
    obtain ⟨⟨old, he⟩, hit, hne⟩ := st
    obtain ⟨xs, x, hq, hx⟩ := hg
    obtain ⟨its, rv, p, hz⟩ := I.tuple hq
    obtain ⟨u, hu, ru⟩ := rv.get hx
    have hT0 : s.heap.IsTuple a its.toArray := p
    have nae : e ≠ a := by
      rintro rfl
      obtain ⟨o, h1, h2, _⟩ := p
      have he2 : s.heap.get? e = some _ := he
      rw [h1] at he2
      have e3 := congrArg Obj.cls (Option.some.inj he2)
      rw [h2] at e3
      injection e3 with e4
      exact absurd e4 (by decide)
    have nai : a ≠ it := by
      rintro rfl
      obtain ⟨o, h1, h2, _⟩ := p
      obtain ⟨o', h1', h2', _⟩ := hit
      rw [h1] at h1'
      cases h1'
      rw [h2] at h2'
      injection h2' with e4
      exact absurd e4 (by decide)
    have D : Draws X.prog X.w X.A.in1 it [it, a] its.toArray.size (fun i v => its.toArray[i]? = some v) (fun i h => h.IsTupleIter it a i ∧ h.IsTuple a its.toArray) :=
      Draws.tuple (show X.A.in1.handled = none from I.ok.hd hc) it a nai its.toArray
    have hlt : i < its.toArray.size := by
      have := (List.getElem?_eq_some_iff.mp hu).1
      simpa using this
    have hel : e < s.heap.objs.size := Heap.lt_size he
    have hil : it < s.heap.objs.size := by
      obtain ⟨_, q, _⟩ := hit
      exact Heap.lt_size q
    refine wpAny_pyNext_enum_itemD D he ⟨hit, hT0⟩ hlt hne (by simp [hne, nae]) fun y h' tk hy ho hst' hT hsz hk => ?_
    have ey : y = u := by
      have h1 : its[i]? = some y := by simpa using hy
      rw [hu] at h1
      exact (Option.some.inj h1).symm
    subst ey
    refine ⟨_, rfl, wpAny_letOwnedTupleGo_enum (s := { s with heap := h', toks := tk + 1 }) ho fun h'' he' sb => ?_⟩
    have hT2 : h''.get? s.heap.objs.size = some { cls := .type "tuple", data := .seq #[.int i tk, y] } := (sb.2 _ (Nat.ne_of_gt hel)).trans hT
    have new : ObjOk X.prog X.w (upd H s.heap.objs.size (.tup [.int (i : Nat), x])) h'' s.heap.objs.size (.tup [.int (i : Nat), x]) :=
      ⟨by show 2 ≤ sizeLine; decide, [.int i tk, y], .cons ⟨_, rfl⟩ (.cons ru .nil), ⟨_, hT2, rfl, _, rfl⟩⟩
    have I1 : Inv X pins σ (upd H s.heap.objs.size (.tup [.int (i : Nat), x])) { s with heap := h'', toks := tk + 1 } :=
      I.turnedNew (ch := [e, it]) (fun b ob hb q => (sb.2 b (fun z => hb (by simp [z]))).trans (hk b ob (fun z => hb (by simp [z])) (fun z => hb (by simp [z])) q)) hf (Nat.le_refl _) new
    refine ⟨.ref s.heap.objs.size, _, I1, rfl, ⟨_, x, rfl, I.hok.fresh (Nat.le_refl _), rfl, fun ys hy => by rw [I.tuple_inj hy hq]; exact hx⟩,
      ⟨⟨y, ?_⟩, hst'.1.at fun o q => (sb.2 it (Ne.symm hne)).trans q, hne⟩, fun b hb => ?_⟩
    · have e1 : ((i + 1 : Nat) : Int) = (i : Int) + 1 := by omega
      rw [e1]
      exact he'
    · have hb' : b < s.heap.objs.size := by
        rcases (show b = e ∨ b = it by simpa using hb) with rfl | rfl
        · exact hel
        · exact hil
      rw [upd_ne (Nat.ne_of_lt hb')]
      exact (hf b hb).1
  done := by
    intro X hP hw hK hc i pins s σ H E I hf st hg
    subst hP hw hK
    obtain ⟨⟨old, he⟩, hit, hne⟩ := st
    obtain ⟨xs, hq, hx⟩ := hg
    obtain ⟨its, rv, p, hz⟩ := I.tuple hq
    have hT0 : s.heap.IsTuple a its.toArray := p
    have nai : a ≠ it := by
      rintro rfl
      obtain ⟨o, h1, h2, _⟩ := p
      obtain ⟨o', h1', h2', _⟩ := hit
      rw [h1] at h1'
      cases h1'
      rw [h2] at h2'
      injection h2' with e4
      exact absurd e4 (by decide)
    have D : Draws X.prog X.w X.A.in1 it [it, a] its.toArray.size (fun i v => its.toArray[i]? = some v) (fun i h => h.IsTupleIter it a i ∧ h.IsTuple a its.toArray) :=
      Draws.tuple (show X.A.in1.handled = none from I.ok.hd hc) it a nai its.toArray
    obtain ⟨f0, f1, f2, f3, f4, f5⟩ := hf it (by simp)
    have hl : its.toArray.size = i := by
      rw [List.size_toArray, ← rv.length, hx]
    subst hl
    exact wpAny_pyNext_enum_endD D he ⟨hit, hT0⟩ fun h' eb => ⟨rfl, I.turned (t' := s.toks) (fun b o hb q => eb b o hb q) f0 f1 f3 f4 f5⟩
  self := fun A i s Q E st h => let ⟨⟨_, he⟩, _⟩ := st; wpAny_pyIter_enum he h
def iEnumT (K : PySem.W.Frag) (ta : TA) : TI := fun σ H R => ta σ H fun vs H1 => ∃ a xs, vs = [.ref a] ∧ SqT K H1 a xs ∧ R (ItT K a) H1
theorem pi_enumT {X : Cx} {e : Expr} {ta : TA} {p pos tpos : Pos} {elts : List Expr} {kk : Nat} (hg : Gl X "enumerate") (hm : X.mg "enumerate" = none) (ha : PA X [e] ta)
    (hs : starEach [e] X.env = [(false, eval e X.env)] := by rfl) : PI X (.Tuple elts kk tpos) (.Call (.Name "enumerate" p) [e] [] pos) (iEnumT X.K ta) := by
  refine ⟨fun pins s σ H R I h => Call_ (ld_blt I hg hm PyProof.Rows.boot_enumerate (callWith_type1 (thn (ha.run pos pins s σ H _ I h) fun us s1 z => ?_) hs rfl))⟩
  obtain ⟨vs, H1, I1, r1, a, xs, rfl, hq, q⟩ := z
  obtain rfl := Vals.ref1 r1
  obtain ⟨its, rv, p', hz⟩ := I1.tuple hq
  refine call_enumT (show s1.heap.IsTuple a its.toArray from p') fun h' he hit hk => wpAny_pyIter_enum he ?_
  have I2 : Inv X pins σ H1 { s1 with heap := h' } := I1.kept (t' := s1.toks) hk
  refine ⟨s1.heap.objs.size + 1, [s1.heap.objs.size + 1, s1.heap.objs.size], _, _, H1, rfl, I2, turn_enumT a (s1.heap.objs.size + 1) s1.heap.objs.size, ⟨⟨.none, he⟩, hit, Nat.succ_ne_self _⟩, fun b hb => ?_, q⟩
  have hle : s1.heap.objs.size ≤ b := by
    rcases (show b = s1.heap.objs.size + 1 ∨ b = s1.heap.objs.size by simpa using hb) with rfl | rfl
    · exact Nat.le_add_right _ _
    · exact Nat.le_refl _
  exact I1.fpOk hle (I1.hok.fresh hle)
/-! ### methods, properties and making, bundled -/
def MthC (P : Program) (w : World) (K : PySem.W.Frag) (mg : Str → Option Value) (base : Heap) (C : Addr) (m : Str) (k : Nat) (ps : List Str) (sp : Sp) : Prop :=
  ∃ (f : Addr) (fd : FuncData), FnOk P w K mg base CX0 k f fd ps sp ∧ Meth K C m f ∧ Binds K fd ps [] ∧ Cls K C
def PrpC (P : Program) (w : World) (K : PySem.W.Frag) (mg : Str → Option Value) (base : Heap) (C : Addr) (m : Str) (k : Nat) (sp : Sp) : Prop :=
  ∃ (p g : Addr) (fd : FuncData), FnOk P w K mg base CX0 k g fd ["self"] sp ∧ PropOf K C m p g ∧ Binds K fd ["self"] [] ∧ Cls K C
def MakC (P : Program) (w : World) (K : PySem.W.Frag) (mg : Str → Option Value) (base : Heap) (C : Addr) (x : Str) (k : Nat) (ps : List Str) (sp : Sp) : Prop :=
  ∃ (f : Addr) (fd : FuncData), FnOk P w K mg base CX0 k f fd ps sp ∧ Mk K C f ∧ mg x = some (.ref C) ∧ Binds K fd ps []
def EqC (P : Program) (w : World) (K : PySem.W.Frag) (mg : Str → Option Value) (base : Heap) (C : Addr) (k : Nat) (sp : Sp) : Prop :=
  ∃ (f : Addr) (fd : FuncData), FnOk P w K mg base CX0 k f fd ["self", "other"] sp ∧ PySem.W.findIn K (.ref C) "__eq__" = some (some (.ref f)) ∧ PySem.W.isFn K (.ref f) = true ∧ Binds K fd ["self", "other"] [] ∧
    PySem.W.findIn K (.ref C) "__ne__" = some (some (.builtin "object.__ne__")) ∧ PySem.W.mroIn K C (.type "object") = some true
section
variable {X : Cx} {C : Addr} {m x : Str} {k : Nat} {ps ks : List Str} {sp : Sp} {e o : Expr} {es : List Expr} {kws : List Keyword} {ta : TE} {t tk : TA} {p pos apos : Pos} {gV : List V → List V → List V}
theorem pe_propC (PC : PrpC X.prog X.w X.K X.mg X.base C m k sp) (hr : Room (k + 1) X.A) (he : PE X e ta) (hab : attributeBase e m X.env (eval e X.env) = eval e X.env) : PE X (.Attribute e m pos) (tProp C sp [] E0 ta) := by
  obtain ⟨p, g, fd, F, hp, b, c⟩ := PC
  exact pe_prop he c hp F hr b .nil pass0 hab
theorem pe_meth0C {pl : Sem Bool} (M : MthC X.prog X.w X.K X.mg X.base C m k ps sp) (hr : Room k X.A) (he : PE X o ta)
    (ht : eval (.Call (.Attribute o m apos) [] [] pos) X.env = (do
      let ov ← eval o X.env
      standAt apos.atName
      let (f, first) ← holding [ov] (getMethod ov m pl)
      callWith pos f first (backTo pos (starEach [] X.env)) (backToKw pos (keywordEach [] X.env))) := by rfl) :
    PE X (.Call (.Attribute o m apos) [] [] pos) (tMeth C m sp [] E0 ta tNil) := by
  obtain ⟨f, fd, F, hm, b, c⟩ := M
  exact pe_meth0 he c hm F hr b .nil pass0 ht
theorem pe_methC {pl : Sem Bool} (M : MthC X.prog X.w X.K X.mg X.base C m k ps sp) (hr : Room k X.A) (he : PE X o ta) (ha : PA X (e :: es) t)
    (hst : starEach (e :: es) X.env = (false, eval e X.env) :: starEach es X.env := by rfl) (hpl : (backTo pos (starEach es X.env)).any (·.1) = false := by rfl)
    (ht : eval (.Call (.Attribute o m apos) (e :: es) [] pos) X.env = (do
      let ov ← eval o X.env
      standAt apos.atName
      let (f, first) ← holding [ov] (getMethod ov m pl)
      callWith pos f first (backTo pos (starEach (e :: es) X.env)) (backToKw pos (keywordEach [] X.env))) := by rfl) :
    PE X (.Call (.Attribute o m apos) (e :: es) [] pos) (tMeth C m sp [] E0 ta t) := by
  obtain ⟨f, fd, F, hm, b, c⟩ := M
  exact pe_meth he c hm F hr b .nil pass0 ha hst hpl ht
theorem pe_mkC (M : MakC X.prog X.w X.K X.mg X.base C x k ps sp) (hr : Room (k + 1) X.A) (hg : Gl X x) (ha : PA X (e :: es) t) (hdb : (x == ("__debug__" : Str)) = false := by decide)
    (he : starEach (e :: es) X.env = (false, eval e X.env) :: starEach es X.env := by rfl) (hpl : (backTo pos (starEach es X.env)).any (·.1) = false := by rfl) :
    PE X (.Call (.Name x p) (e :: es) [] pos) (tMake C sp [] E0 t) := by
  obtain ⟨f, fd, F, mk, gm, b⟩ := M
  exact pe_make mk F hr hg gm b .nil pass0 ha hdb he hpl
end
end Vf
set_option Elab.async false
set_option linter.all false
set_option maxRecDepth 100000
set_option maxHeartbeats 4000000
namespace Vf
open PySem PySem.Spec PyProof.Rows L2
/-! ### defs whose promise is kept whatever reprs are under way -/
structure GgOk (P : Program) (w : World) (K : PySem.W.Frag) (mg : Str → Option Value) (base : Heap)
    (k : Nat) (f : Addr) (fd : FuncData) (ps : List Str) (sp : List Code → Sp) : Prop where
  len : ∀ g vs H Q E, sp g vs H Q E → vs.length = ps.length
  go : ∀ (g : List Code) (A : Around) (outer : List Env) (s : Shared) (H : Hp) (args : Args) (us : List Value) (vs : List V) (Q : VK) (E : XK),
    A.guards = some g → Room k A → Env0 P w K mg base A outer s H → BindsTo s fd args (ps.zip us) → Vals vs us →
    sp g vs H Q E → codeAny (model P w) A (.call (.ref f) args) (CR CX0 outer P w H s Q E) s
theorem GgOk.none {P : Program} {w : World} {K : PySem.W.Frag} {mg : Str → Option Value} {base : Heap} {k : Nat} {f : Addr} {fd : FuncData} {ps : List Str} {sp : List Code → Sp}
    (F : GgOk P w K mg base k f fd ps sp) : GnOk P w K mg base k f fd ps (sp []) := ⟨F.len [], F.go []⟩
theorem deeper_guardsG {A : Around} {env : Env} {g : List Code} (h : A.guards = some g) : (A.deeper env).guards = some g := by
  first | exact h | simpa [Around.deeper] using h
theorem gg_ok {P : Program} {w : World} {K : PySem.W.Frag} {mg : Str → Option Value} {base : Heap} {x qual : Str} {st : Stmt} {f : Addr} {fd : FuncData} {N ps : List Str} {k : Nat} {sp : List Code → Sp}
    (F : Fun K x qual st f fd) (S : FnScope N ps (defScope st)) (len : ∀ g vs H Q E, sp g vs H Q E → vs.length = ps.length)
    (hb : ∀ (g : List Code) (cdv : Value) (A : Around) (outer : List Env) (s : Shared) (H : Hp) (vs : List V) (Q : VK) (E : XK),
      (A.deeper (envOfC qual (defScope st) s.heap.objs.size f cdv)).guards = some g →
      Room k (A.deeper (envOfC qual (defScope st) s.heap.objs.size f cdv)) → sp g vs H Q E →
      ∃ t, PSs (cxOf CX0 P w K mg base N qual (defScope st) f cdv A outer s H E).nox (defBody st) t ∧
        t { nx := fun _ H' => Q .non H', rt := Q } (start N vs) H) : GgOk P w K mg base (k + 1) f fd ps sp := by
  refine ⟨len, fun g A outer s H args us vs Q E hg hr e0 hbd rv hs => ?_⟩
  obtain ⟨oc, od, kV, doc, pm, an, cdv, ct, osl, rfl, lk, hcd⟩ := F.ex
  have lenU : vs.length = ps.length := len _ _ _ _ _ hs
  have kin : K.In s.heap := e0.mod.kin.keeps fun b o e => (e0.bs b o e).1
  have nolim : s.heap.NoLimit := e0.mod.nolimit.keeps fun b o e => (e0.bs b o e).1
  have kinds : ∀ y ∈ ps.zip us, (defScope st).names.lookup y.1 = some .local ∨
      ((defScope st).names.lookup y.1 = some .cell ∧
        ((cellsFrom (s.heap.objs.size + 1) (defScope st).names []).lookup y.1).isSome = true) := by
    rintro ⟨n, v⟩ hy
    cases S.par n (List.of_mem_zip hy).1 with
    | inl q => exact .inl q
    | inr q => exact .inr ⟨q, PySem.W.cellsFrom_some _ _ _ (.inl q)⟩
  refine codeAny_call_function hr.depth (kin _ _ lk) rfl S.co S.gen rfl
    (PySem.W.codeRec_of kin hcd) (hbd _ _ _ _ ?_)
  refine wpAny_newFunctionEnv_cells S.kind kinds fun env he s1 y => ?_
  subst he
  refine ⟨nolim.keeps y.toInCall.keep, codeAny_func ?_⟩
  obtain ⟨t, ht, hq⟩ := hb g cdv A outer s H vs Q E (deeper_guardsG hg) (hr.deeper _) hs
  have I0 := inv_start (CX := CX0) (P := P) (w := w) (K := K) (mg := mg) (base := base) (N := N) (qual := qual)
    (f := f) (cd := cdv) (A := A) (outer := outer) (s := s) (H := H) (E := E) S hr.hd e0 lenU rv y
  refine wpAny_mono (ht.nox.run [] s1 (start N vs) H _ I0 hq) (fun fl s' hh => ?_) fun e s' hh => hh
  cases fl with
  | next =>
    obtain ⟨σ', H', J, q⟩ := hh
    exact ⟨V.non, H', J.os, J.bare, J.base, J.hok, rfl, q⟩
  | ret u =>
    obtain ⟨v, σ', H', J, r2, q⟩ := hh
    exact ⟨v, H', J.os, J.bare, J.base, J.hok, r2, q⟩
  | brk => obtain ⟨_, _, _, q⟩ := hh; exact q.elim
  | cont => obtain ⟨_, _, _, q⟩ := hh; exact q.elim
/-! ### {xs} in an f-string whatever reprs are under way, xs a list of small numbers and truths -/
structure rFmtG (K : PySem.W.Frag) (g : List Code) (x : V) (H : Hp) (Q : VK) : Prop where
  ex : ∃ a xs, x = .ref a ∧ SqL K H a xs ∧ (∀ y ∈ xs, small y = true) ∧ Clear g a ∧ (txt xs).length ≤ sizeLine ∧ Q (.str (txt xs)) H
theorem small_is {prog : Program} {w : World} {x : V} {u : Value} (h : small x = true) (r : RelV x u) : ReprIs prog w u (toD x).shown := by
  cases x with
  | bl b =>
    cases (show u = Value.bool b from r)
    have e := ReprIs.bool (prog := prog) (w := w) b
    cases b <;> exact e
  | int i =>
    obtain ⟨t, rfl⟩ := r
    have h2 : i.natAbs.log2 < 1900 := of_decide_eq_true h
    exact ReprIs.int t (by omega)
  | _ => cases h
theorem shownAll_len : ∀ xs : List V, (PyData.shownAll (xs.map toD)).length = xs.length
  | [] => rfl
  | x :: xs => by
    rw [List.map_cons, PyData.shownAll, List.length_cons, List.length_cons, shownAll_len xs]
theorem shownAll_at : ∀ {xs : List V} {i : Nat} {x : V}, xs[i]? = some x → (PyData.shownAll (xs.map toD))[i]? = some (toD x).shown
  | y :: xs, 0, x, h => by
    cases h
    rfl
  | y :: xs, i + 1, x, h => by
    rw [List.map_cons, PyData.shownAll]
    exact shownAll_at (xs := xs) (i := i) h
theorem vals_at {xs : List V} {us : List Value} (h : Vals xs us) : ∀ {i : Nat} {z : Value}, us[i]? = some z → ∃ x, xs[i]? = some x ∧ RelV x z := by
  induction h with
  | nil => intro i z h; cases h
  | cons r _ ih =>
    intro i z h
    cases i with
    | zero =>
      cases h
      exact ⟨_, rfl, r⟩
    | succ i => exact ih h
section
variable {X : Cx}
theorem pe_fmtG {g : List Code} {e : Expr} {te : TE} {pos : Pos} (hg : X.A.guards = some g) (hu : X.A.units + 64 < cLine) (he : PE X e te) :
    PE X (.FormattedValue e (-1) none pos) (fun σ H Q => te σ H fun x H1 => rFmtG X.K g x H1 Q) := by
  refine ⟨fun pins s σ H Q I h => wpAny_FormattedValue_plain (thn (he.run pins s σ H _ I h) fun v s1 hv => ?_)⟩
  obtain ⟨x, H1, I1, r1, q⟩ := hv
  obtain ⟨a, xs, rfl, hS, sm, hc, hz, q⟩ := q.ex
  cases (show v = Value.ref a from r1)
  obtain ⟨its, rv, ⟨o, n, eo, hcl, _, hda⟩, _⟩ := I1.list hS
  refine wpAny_formatField_slot (fun _ _ => nofun) (by omega) ⟨o, eo, hcl⟩ F.slot_list_format F.slot_list_str F.slot_list_repr.toG ?_
  have txe : txt xs = listText (PyData.shownAll (xs.map toD)) := by
    unfold txt
    rw [PyData.shown]
  have fin : ∀ (h' : Heap) (u tk : Tok), (∀ b o, s1.heap.get? b = some o → h'.get? b = some o) → ∃ x t, Value.str (txt xs) u = .str x t ∧ EP X pins σ Q (.str (txt xs) u) { { s1 with toks := s1.toks + 1 } with heap := h', toks := tk } := fun h' u tk hk =>
    ⟨_, _, rfl, .str (txt xs), H1, I1.kept hk, ⟨u, rfl⟩, q⟩
  cases its with
  | nil =>
    cases rv
    have fe : txt [] = ("[]" : Str) := by decide +kernel
    rw [fe] at fin
    exact call_list_repr_empty (s := { s1 with toks := s1.toks + 1 }) ⟨o, eo, hcl⟩ eo hda (fin s1.heap _ _ fun _ _ e => e)
  | cons y l =>
    refine call_list_reprK (h₀ := s1.heap) (as := []) (d := 0) (ts := PyData.shownAll (xs.map toD)) eo hcl hda (List.not_mem_nil) ?_ ?_ hg (fun b hb => ?_) (by show X.A.units + 1 + 1 + (0 + 1) < cLine; omega) (fun _ _ e => e) (fun h' u tk hk => ?_) (by rw [← txe]; exact hz)
    · have e := rv.length
      rw [shownAll_len, e]
      rfl
    · intro i z hi
      have hi' : (y :: l)[i]? = some z := by simpa using hi
      obtain ⟨x, hx, rx⟩ := vals_at rv hi'
      refine ⟨(toD x).shown, shownAll_at hx, ?_⟩
      exact ReprK.of_is (small_is (sm x (List.mem_of_getElem? hx)) rx) _ _ _
    · rw [List.mem_singleton.mp hb]
      exact hc
    · rw [← txe]
      exact fin h' u tk hk
/-! ### repr of a list of own instances -/
theorem refs_vals {xs : List Addr} {us : List Value} (h : Vals (xs.map V.ref) us) : us = xs.map Value.ref := by
  induction xs generalizing us with
  | nil => cases h; rfl
  | cons x xs ih =>
    cases h with
    | cons r t =>
      cases (show _ = Value.ref x from r)
      rw [ih t]
      rfl
theorem loop_depth {A : Around} {args : Args} : (A.under (.builtin "list.__repr__.loop" args)).depth ≤ A.depth + 1 := by
  first | exact Nat.le_refl _ | exact Nat.le_succ _ | simp [Around.under, Code.weight, Code.isCreation, Code.isGuard, Code.isCaller, Code.frames, Code.isFrame, guardIds]
theorem loop_frames {A : Around} {args : Args} : (A.under (.builtin "list.__repr__.loop" args)).frames = A.frames := by
  first | rfl | simp [Around.under]
theorem loop_handled {A : Around} {args : Args} (h : A.handled = none) : (A.under (.builtin "list.__repr__.loop" args)).handled = none := by
  first | exact h | simpa [Around.under] using h
theorem loop_room {A : Around} {args : Args} {k : Nat} (r : Room (k + 1) A) : Room k (A.under (.builtin "list.__repr__.loop" args)) := by
  refine ⟨loop_handled r.hd, ?_, ?_⟩
  · have h1 := loop_depth (A := A) (args := args)
    have := r.dp
    omega
  · have h1 := units_under_list_loop A args
    have := r.un
    omega
theorem own_under {prog : Program} {w : World} {A : Around} {E : Value → Shared → Prop} {K : PySem.W.Frag} {s : Shared} {x C f : Addr} {ox : Obj} {od : Option Obj} {base : Nat} {Q : Str → Shared → Prop}
    (hb : base ≤ sizeLine) (hu : A.units < cLine) (kin : K.In s.heap) (I : PySem.W.InstAt s.heap x ox C od) (hs : PySem.W.findIn K (.ref C) "__repr__" = some (some (.ref f))) (hf : PySem.W.isFn K (.ref f) = true)
    (h : wpAny (model prog w) A (call (.ref f) [.ref x]) (fun v s' => ∃ t u, v = .str t u ∧ Q t s') E s) : wpAny (model prog w) A (pyReprUnder base (.ref x)) Q E s := by
  refine wpAny_pyReprUnder_ref hb ?_
  unfold pyReprObjUnder pyReprObjBy
  refine wpAny_bind (wpAny_cRoomFor hu ?_)
  refine wpAny_bind (wpAny_bind (I.type.here ((PySem.W.looks_findIn kin hs).here ?_)))
  show wpAny _ _ (if (some (Value.ref f)).isNone = true then _ else _) _ _ _
  rw [if_neg (by simp)]
  refine wpAny_bind ?_
  simp only [callSpecialIfBoundBy?, bindSpecialIfBound?]
  refine wpAny_holding (wpAny_bind (wpAny_bind (wpAny_bind (I.type.here ((PySem.W.looks_findIn kin hs).here ?_)))))
  refine wpAny_bind (wpAny_askSetting (wpAny_ite ?_))
  have fin : ∀ {Q2 : Option Value → Shared → Prop}, (∀ t u s', Q t s' → Q2 (some (.str t u)) s') → wpAny (model prog w) A (call (.ref f) ([.ref x] ++ []) >>= fun v => pure (some v)) Q2 E s := fun {Q2} k =>
    wpAny_bind (wpAny_mono h (fun v s' h' => by obtain ⟨t, u, rfl, q⟩ := h'; exact wpAny_pure (k t u s' q)) fun _ _ h' => h')
  have tail : ∀ t u s', Q t s' → wpAny (model prog w) A (pure (Value.str t u)) (fun v s2 => ∃ x u, v = .str x u ∧ Q x s2) E s' := fun t u s' q => wpAny_pure ⟨t, u, rfl, q⟩
  split
  · refine wpAny_bind ((PySem.W.bind_fn kin _ (beq_iff_eq.mp hf)).here (wpAny_pure ?_))
    refine wpAny_bind (wpAny_mono h (fun v s' h' => ?_) fun _ _ h' => h')
    obtain ⟨t, u, rfl, q⟩ := h'
    refine wpAny_pure ?_
    exact wpAny_bind (wpAny_isInstance (typeIs_str _ _ _) isSubtype_str_str (tail t u s' q))
  · refine wpAny_tryCatch (wpAny_bind ((PySem.W.bind_fn kin _ (beq_iff_eq.mp hf)).here (wpAny_pure ?_)))
    refine wpAny_bind (wpAny_mono h (fun v s' h' => ?_) fun _ _ h' => h')
    obtain ⟨t, u, rfl, q⟩ := h'
    refine wpAny_pure ?_
    exact wpAny_bind (wpAny_isInstance (typeIs_str _ _ _) isSubtype_str_str (tail t u s' q))
/-- a guard of this list's repr, on those that are up -/
def Ug (a : Addr) (g g' : List Code) : Prop := ∃ rest, g' = Code.builtin "list.__repr__.loop" ⟨.ref a :: rest, []⟩ :: g
/-- an own instance's text, told under that guard, the tracked heap as before -/
def ReprU (X : Cx) (σ : L2.St) (H : Hp) (a : Addr) (g : List Code) (k : Nat) (x : Addr) (t : Str) : Prop :=
  ∀ (base : Nat) (g' : List Code) (A : Around) (pins : List (Addr × Obj)) (s : Shared) (Q : Str → Shared → Prop) (E : Value → Shared → Prop), base + t.length ≤ sizeLine → Ug a g g' → A.guards = some g' → A.frames = X.A.frames → Room k A → Inv X pins σ H s →
    (∀ s', Inv X pins σ H s' → Q t s') → wpAny (model X.prog X.w) A (pyReprUnder base (.ref x)) Q E s
theorem pile_sizes : ∀ ts : List Str, 2 * ts.length ≤ piled ts ∧ ∀ t ∈ ts, t.length ≤ piled ts
  | [] => ⟨Nat.zero_le _, fun _ h => nomatch h⟩
  | t :: r => by
    obtain ⟨a, b⟩ := pile_sizes r
    rw [piled_cons]
    refine ⟨by rw [List.length_cons]; omega, fun u hu => ?_⟩
    rcases List.mem_cons.mp hu with rfl | hu
    · omega
    · have := b u hu
      omega
/-- what a list's text, not too long, tells of its pieces -/
theorem list_sizes {ts : List Str} (h : (listText ts).length ≤ sizeLine) : ts.length ≤ sizeLine ∧ (∀ t ∈ ts, t.length ≤ sizeLine) ∧ piled ts ≤ sizeLine := by
  have whole := Nat.le_trans (piled_le_listText ts) h
  obtain ⟨a, b⟩ := pile_sizes ts
  exact ⟨by omega, fun t ht => Nat.le_trans (b t ht) whole, whole⟩
theorem loopI {X : Cx} {σ : L2.St} {H : Hp} {pins : List (Addr × Obj)} {g : List Code} {A : Around} {a P : Addr} {xs : List Addr} {ts : List Str} {k0 : Nat} {R : Result → Shared → Prop} (hg : A.guards = some g) (hfr : A.frames = X.A.frames) (hr : Room (k0 + 1) A)
    (hlen : ts.length = xs.length) (hS : SqL X.K H a (xs.map V.ref)) (item : ∀ (i : Nat) (x : Addr), xs[i]? = some x → ∃ t, ts[i]? = some t ∧ ReprU X σ H a g k0 x t) (hsz : (listText ts).length ≤ sizeLine)
    (p1 : X.s_0.heap.objs.size ≤ P) (p2 : ∀ x c, X.env.cells.lookup x = some c → c ≠ P) (p3 : ∀ p ∈ X.pn ++ pins, p.1 ≠ P) (p4 : P ≠ X.env.locals) (p5 : P ∉ X.fs) (p6 : H P = none)
    (hR : ∀ s' u, Inv X pins σ H s' → R (.ok (.ret (.str (listText ts) u))) s') :
    ∀ (k i : Nat) (s : Shared) (acc : Array Value) (c : Nat) (done : List (Str × Tok)), xs.length - i = k → i ≤ xs.length → Inv X ((P, { cls := .type "list", dict := none, data := .seq acc c, slots := #[] }) :: pins) σ H s →
    acc.toList = strValues done → done.map (·.1) = ts.take i →
    codeAny (model X.prog X.w) A (.builtin "list.__repr__.loop" ⟨[.ref a, rawInt i, .ref P, rawInt ((0 + piled (ts.take i) : Nat) : Int)], []⟩) R s := by
  obtain ⟨few, short, pile⟩ := list_sizes hsz
  intro k
  induction k with
  | zero =>
    intro i s acc c done hk hi I hacc hdone
    have hin : i = xs.length := by omega
    have hP := (I.pin _ (List.mem_append_right _ List.mem_cons_self)).1
    obtain ⟨its, rv, ⟨o, n, eo, hcl, _, hda⟩, _⟩ := I.list hS
    obtain rfl := refs_vals rv
    refine codeAny_builtin F.entry_list_repr_loop ?_
    show wpAny _ _ (Builtin.«list.__repr__.loop» ⟨[.ref a, .int i 0, .ref P, .int ((0 + piled (ts.take i) : Nat) : Int) 0], []⟩) _ _ s
    rw [repr_loop_tree]
    refine wpAny_bind (wpAny_listItems eo hda ?_)
    have hnone : (xs.map Value.ref).toArray[(i : Int).toNat]? = none := by simp [hin]
    simp only [hnone]
    unfold reprEnd
    refine wpAny_bind (wpAny_listItems hP rfl ?_)
    rw [hacc, repr_fold]
    refine wpAny_bind (wpAny_pure ?_)
    have hall : done.map (·.1) = ts := by rw [hdone, hin, ← hlen, List.take_length]
    rw [hall]
    refine wpAny_bind (wpAny_mkStr (wpAny_pure ?_) hsz)
    exact hR _ _ ((I.pins_of fun p hp => I.pin p (List.mem_append_right _ (List.mem_cons_of_mem _ hp))).tok _)
  | succ k ih =>
    intro i s acc c done hk hi I hacc hdone
    have hlt : i < xs.length := by omega
    obtain ⟨t, ht, hrep⟩ := item i xs[i] (List.getElem?_eq_getElem hlt)
    have hq1 := piled_take_succ ht
    have hq2 := piled_take_le ts (i + 1)
    obtain ⟨its, rv, ⟨o, n, eo, hcl, _, hda⟩, _⟩ := I.list hS
    obtain rfl := refs_vals rv
    refine codeAny_builtin F.entry_list_repr_loop ?_
    show wpAny _ _ (Builtin.«list.__repr__.loop» ⟨[.ref a, .int i 0, .ref P, .int ((0 + piled (ts.take i) : Nat) : Int) 0], []⟩) _ _ s
    rw [repr_loop_tree]
    refine wpAny_bind (wpAny_listItems eo hda ?_)
    have hsome : (xs.map Value.ref).toArray[(i : Int).toNat]? = some (.ref xs[i]) := by simp [hlt]
    simp only [hsome]
    rw [Int.toNat_natCast]
    refine wpAny_bind (wpAny_holding (hrep (0 + piled (ts.take i) + 1) _ _ _ _ _ _ (by omega) ⟨_, rfl⟩ (guards_under_guard (isGuard_list_loop _) hg) (loop_frames.trans hfr) (loop_room hr) I fun s' I' => ?_))
    refine wpAny_bind (wpAny_mkStr ?_ (short t (List.mem_of_getElem? ht)))
    refine wpAny_bind ?_
    show wpAny _ _ (updateSeq P _) _ _ _
    have hasz : acc.size ≤ sizeLine := by
      have gone : done.length = i := by
        have e := congrArg List.length hdone
        rw [List.length_map, List.length_take, hlen, Nat.min_eq_left hi] at e
        exact e
      have sizes := congrArg List.length hacc
      rw [Array.length_toList] at sizes
      unfold strValues at sizes
      rw [List.length_map, gone] at sizes
      omega
    have hP' := (I'.pin _ (List.mem_append_right _ List.mem_cons_self)).1
    refine wpAny_updateSeq hP' rfl (wpAny_pure ⟨F.quiet_list_repr_loop _, ?_⟩) hasz
    have e1 : ((i : Int) + 1) = ((i + 1 : Nat) : Int) := by omega
    have e2 : 0 + piled (ts.take i) + (t.length + 2) = 0 + piled (ts.take (i + 1)) := by omega
    rw [e1, e2]
    have I0 : Inv X pins σ H s' := I'.pins_of fun p hp => I'.pin p (List.mem_append_right _ (List.mem_cons_of_mem _ hp))
    have I1 := I0.turned (t' := s'.toks + 1) (it := P) (h' := s'.heap.update P (Obj.mapSeq fun x => x.push (.str t s'.toks))) (fun b o hb e => (Heap.get?_update_other _ _ (fun h : P = b => hb h.symm)).trans e) p6 p4 (.inr p1) p2 p3
    have gP : ∃ c2 : Nat, (s'.heap.update P (Obj.mapSeq fun x => x.push (.str t s'.toks))).get? P = some { cls := .type "list", dict := none, data := .seq (acc.push (.str t s'.toks)) c2, slots := #[] } := ⟨_, Heap.get?_update_self _ hP' rfl⟩
    obtain ⟨c2, gP⟩ := gP
    refine ih (i + 1) _ (acc.push (.str t s'.toks)) c2 (done ++ [(t, s'.toks)]) (by omega) hlt (I1.pins_of fun p hp => ?_) (by simp [hacc, strValues]) (by simp [List.take_add_one, ht, hdone])
    rcases List.mem_cons.mp hp with rfl | hp
    · exact ⟨gP, p6, p4, p5, fun v => nofun⟩
    · exact I1.pin p (List.mem_append_right _ hp)
theorem reprU_own {X : Cx} {σ : L2.St} {H : Hp} {a x C f dx : Addr} {fs : List (Str × V)} {g : List Code} {k : Nat} {t : Str} {fd : FuncData} {ps : List Str} {sp : List Code → Sp} (F : GgOk X.prog X.w X.K X.mg X.base k f fd ps sp)
    (hs : PySem.W.findIn X.K (.ref C) "__repr__" = some (some (.ref f))) (hf : PySem.W.isFn X.K (.ref f) = true) (hb : Binds X.K fd ps []) (hx : H x = some (.ins C dx fs))
    (hsp : ∀ g', Ug a g g' → sp g' [.ref x] H (fun v H' => v = .str t ∧ H' = H) E0) : ReprU X σ H a g k x t := by
  intro base g' A pins s Q E hbs ug hg hfr hr I hQ
  obtain ⟨mA, O, _⟩ := ins_get I.hok hx
  obtain ⟨od, J, _⟩ := O.look
  refine own_under (by omega) hr.units0 I.kIn J hs hf ?_
  have hq := hsp g' ug
  have hl : ([Value.ref x] ++ ([] : List Value)).length = ps.length := by
    rw [← F.len _ _ _ _ _ hq]
    rfl
  have bb := hb s [.ref x] I.kIn hl
  rw [List.append_nil] at bb
  have e0 : Env0 X.prog X.w X.K X.mg X.base A X.stack s H := by
    have e := I.env0
    exact ⟨hfr.trans e.frames, e.mod, e.bs, e.bsz, e.funs, e.frf, e.hok, e.bare⟩
  refine wpAny_call (codeAny_mono (F.go g' A X.stack s H ⟨[.ref x], []⟩ [.ref x] [.ref x] _ E0 hg hr e0 bb (.cons rfl .nil) hq) fun res s' hh => ?_)
  cases res with
  | error e => exact hh.elim
  | ok fl =>
    cases fl with
    | next => exact hh.elim
    | brk => exact hh.elim
    | cont => exact hh.elim
    | ret u =>
      obtain ⟨v, H', I', rv, rfl, rfl⟩ := I.after hh
      obtain ⟨tk, rfl⟩ := rv
      exact ⟨t, tk, rfl, hQ s' I'⟩
/-- a list of own instances of one class, each one's text told by its __repr__'s promise, the tracked heap as before -/
structure rReprLO (C : Addr) (sp : List Code → Sp) (vs0 : List V) (H : Hp) (Q : VK) : Prop where
  ex : ∃ (a : Addr) (xs : List Addr) (ts : List Str), vs0 = [.ref a] ∧ H a = some (.lst (xs.map V.ref)) ∧ ts.length = xs.length ∧
    (∀ (i : Nat) (x : Addr), xs[i]? = some x → ∃ t dx fs, ts[i]? = some t ∧ H x = some (.ins C dx fs) ∧ ∀ g', Ug a [] g' → sp g' [.ref x] H (fun v H' => v = .str t ∧ H' = H) E0) ∧
    (listText ts).length ≤ sizeLine ∧ Q (.str (listText ts)) H
theorem call_reprLO {X : Cx} {C f : Addr} {fd : FuncData} {sp : List Code → Sp} {k : Nat} {ps : List Str} (F : GgOk X.prog X.w X.K X.mg X.base k f fd ps sp) (hg : X.A.guards = some []) (hr : Room (k + 2) X.A)
    (hs : PySem.W.findIn X.K (.ref C) "__repr__" = some (some (.ref f))) (hf : PySem.W.isFn X.K (.ref f) = true) (hb : Binds X.K fd ps []) : CallR X (.builtin "repr") (rReprLO C sp) := by
  intro pins s σ H xs0 us Q I r h
  obtain ⟨a, xs, ts, rfl, ha, hlen, item, hsz, q⟩ := h.ex
  obtain ⟨u1, rfl, r1⟩ := vals1 r
  cases (show u1 = Value.ref a from r1)
  obtain ⟨its, rv, ⟨o, n, eo, hcl, _, hda⟩, _⟩ := I.list (SqL.of ha)
  obtain rfl := refs_vals rv
  refine call_repr_slot (by have := hr.units; omega) ⟨o, eo, hcl⟩ PySem.F.slot_list_repr.toG ?_
  cases xs with
  | nil =>
    cases ts with
    | cons _ _ => cases hlen
    | nil =>
      refine call_list_repr_empty ⟨o, eo, hcl⟩ eo hda ⟨_, _, rfl, .str ("[]" : Str), H, I.tok _, ⟨_, rfl⟩, ?_⟩
      rw [show (listText []) = ("[]" : Str) from by decide +kernel] at q
      exact q
  | cons x xs =>
    refine wpAny_call (codeAny_call_builtin PySem.F.slot_list_repr.plain PySem.F.entry_list_repr (PySem.F.slot_list_repr.check _ _ _ _ _ _ _ _ ⟨o, eo, hcl⟩ (PySem.F.args_list_repr_1 _) ?_))
    refine wpAny_list_repr_head (g := []) hg (fun _ _ _ hm => nomatch hm) eo hda ?_
    refine wpAny_bind (m := newList []) (wpAny_newObj_type ?_)
    refine wpAny_pure ⟨PySem.F.quiet_list_repr_loop _, ?_⟩
    have I1 := ClX.pin_new (o := { cls := .type "list", dict := none, data := .seq #[] 0, slots := #[] }) (h' := s.heap.push { cls := .type "list", dict := none, data := .seq #[] 0, slots := #[] }) (t' := s.toks) I (fun _ _ z => Heap.get?_push_of_some _ z) (Nat.le_refl _) (Heap.get?_push_size s.heap rfl) (fun v => nofun)
    refine loopI (X := X) (H := H) (σ := σ) (pins := pins) (A := X.A.in1) (g := []) (k0 := k) (P := s.heap.objs.size) (xs := x :: xs) (ts := ts) hg rfl (hr.in1) hlen (SqL.of ha) (fun i z hz => ?_) hsz I.sz (fun y c e z => ?_) (fun p hp z => ?_) (Nat.ne_of_gt I.lt) (I.nofs (Nat.le_refl _)) (I.hok.fresh (Nat.le_refl _)) (fun s' u I' => ?_)
      _ 0 _ #[] 0 [] rfl (Nat.zero_le _) I1 rfl (by simp)
    · obtain ⟨t, dx, fs, e1, e2, e3⟩ := item i z hz
      exact ⟨t, e1, reprU_own F hs hf hb e2 e3⟩
    · obtain ⟨v, ob, e1, _⟩ := I.cell y c e
      rw [z] at e1
      exact Nat.lt_irrefl _ (Heap.lt_size e1)
    · have e1 := (I.pin p hp).1
      rw [z] at e1
      exact Nat.lt_irrefl _ (Heap.lt_size e1)
    · exact ⟨_, _, rfl, .str (listText ts), H, I', ⟨u, rfl⟩, q⟩
end
end Vf
set_option Elab.async false
set_option linter.all false
set_option maxRecDepth 100000
set_option maxHeartbeats 4000000
namespace Vf
open PySem PySem.Spec PyProof.Rows L2
/-! ### repr of a value of any kind -/
def keyD : Key → PyData
  | .inl i => .int i
  | .inr x => .str x
/-- a dict of small whole numbers and truths -/
def dicD (kvs : List (Key × V)) : PyData := .dict (kvs.map fun p => (keyD p.1, toD p.2))
def smallP (p : Key × V) : Prop := (∃ i : Int, p.1 = .inl i ∧ i.natAbs.log2 < 1900) ∧ small p.2 = true
theorem reads_small {h : Heap} {x : V} {u : Value} (hs : small x = true) (r : RelV x u) : Reads h u (toD x) [] := by
  cases x with
  | bl b =>
    cases (show u = Value.bool b from r)
    exact .bool b
  | int i =>
    obtain ⟨t, rfl⟩ := r
    exact .int i t
  | _ => cases hs
theorem pairs_reads {P : Program} {w : World} {h : Heap} {es : List DictEntry} {ws : List (Key × Value)} (hp : Pairs (mixKind P w) es ws) : ∀ {kvs : List (Key × V)}, KV kvs ws → (∀ p ∈ kvs, smallP p) →
    ReadsAll h (es.map (·.key)) ((kvs.map fun p => (keyD p.1, toD p.2)).map (·.1)) [] ∧ ReadsAll h (es.map (·.val)) ((kvs.map fun p => (keyD p.1, toD p.2)).map (·.2)) [] := by
  induction hp with
  | nil =>
    intro kvs k _
    cases k
    exact ⟨.nil, .nil⟩
  | @cons e kv es ws h1 h2 _ ih =>
    intro kvs k hs
    cases k with
    | @cons p _ ps _ r t =>
      obtain ⟨⟨i, ei, hi⟩, sv⟩ := hs p List.mem_cons_self
      obtain ⟨a, b⟩ := ih t fun q hq => hs q (List.mem_cons_of_mem _ hq)
      obtain ⟨r1, r2⟩ := r
      have hk : keyIs (.inl i) e.key = true := by
        rw [← ei, r1]
        exact h1
      obtain ⟨tk, ek⟩ := Value.isInt_shape (k := i) (v := e.key) hk
      refine ⟨?_, ?_⟩
      · have c : Reads h e.key (keyD p.1) [] := by
          rw [ei, ek]
          exact .int i tk
        exact ReadsAll.cons (as := []) (bs := []) c a
      · have c : Reads h e.val (toD p.2) [] := by
          rw [h2]
          exact reads_small sv r2
        exact ReadsAll.cons (as := []) (bs := []) c b
theorem showable_kv : ∀ {kvs : List (Key × V)}, (∀ p ∈ kvs, smallP p) → PyData.showableKv (kvs.map fun p => (keyD p.1, toD p.2)) = true
  | [], _ => by rw [List.map_nil, PyData.showableKv]
  | p :: r, h => by
    obtain ⟨⟨i, ei, hi⟩, sv⟩ := h p List.mem_cons_self
    have k1 : (keyD p.1).showable = true := by
      rw [ei]
      exact decide_eq_true (by omega)
    rw [List.map_cons, PyData.showableKv, showable_kv fun q hq => h q (List.mem_cons_of_mem _ hq), k1, (small_show sv).1]
    rfl
theorem depth_kv : ∀ kvs : List (Key × V), PyData.depthKv (kvs.map fun p => (keyD p.1, toD p.2)) = 0
  | [] => by rw [List.map_nil, PyData.depthKv]
  | p :: r => by
    have k1 : (keyD p.1).depth = 0 := by cases p.1 <;> rfl
    have k2 : (toD p.2).depth = 0 := by cases p.2 <;> rfl
    rw [List.map_cons, PyData.depthKv, depth_kv r, k1, k2]
    rfl
/-- what repr tells of the value, the tracked heap as it is: K the written part, C a class with a __repr__ that keeps sp -/
inductive Tells (K : PySem.W.Frag) (C : Addr) (sp : List Code → Sp) (H : Hp) : V → Str → Prop where
  | non : Tells K C sp H .non "None"
  | bl (b : Bool) : Tells K C sp H (.bl b) (if b then "True" else "False")
  | int {i : Int} (h : i.natAbs.log2 < 1920) : Tells K C sp H (.int i) (toString i)
  | str {x : Str} (h : (reprText x).length ≤ sizeLine) : Tells K C sp H (.str x) (reprText x)
  | data {a : Addr} {d : PyData} (hD : Dp K H (.ref a) d) (hs : d.showable = true) (hn : d.hasDict = false) (hd : d.depth ≤ 60) (hz : d.shown.length ≤ sizeLine) : Tells K C sp H (.ref a) d.shown
  | own {a dx : Addr} {fs : List (Str × V)} {t : Str} (ha : H a = some (.ins C dx fs)) (hs : sp [] [.ref a] H (fun v H' => v = .str t ∧ H' = H) E0) : Tells K C sp H (.ref a) t
  | owns {a : Addr} {xs : List Addr} {ts : List Str} (ha : H a = some (.lst (xs.map V.ref))) (hl : ts.length = xs.length)
      (hi : ∀ (i : Nat) (x : Addr), xs[i]? = some x → ∃ t dx fs, ts[i]? = some t ∧ H x = some (.ins C dx fs) ∧ ∀ g', Ug a [] g' → sp g' [.ref x] H (fun v H' => v = .str t ∧ H' = H) E0)
      (hz : (listText ts).length ≤ sizeLine) : Tells K C sp H (.ref a) (listText ts)
  | dic {a : Addr} {kvs : List (Key × V)} (ha : H a = some (.dK kvs)) (hs : ∀ p ∈ kvs, smallP p) (hz : (dicD kvs).shown.length ≤ sizeLine) : Tells K C sp H (.ref a) (dicD kvs).shown
structure rReprA (K : PySem.W.Frag) (C : Addr) (sp : List Code → Sp) (xs : List V) (H : Hp) (Q : VK) : Prop where
  ex : ∃ x t, xs = [x] ∧ Tells K C sp H x t ∧ Q (.str t) H
theorem call_reprA {X : Cx} {C f : Addr} {fd : FuncData} {sp : List Code → Sp} {k : Nat} {ps : List Str} (F : GgOk X.prog X.w X.K X.mg X.base k f fd ps sp) (hg : X.A.guards = some []) (hr : Room (k + 2) X.A)
    (hs : PySem.W.findIn X.K (.ref C) "__repr__" = some (some (.ref f))) (hf : PySem.W.isFn X.K (.ref f) = true) (hb : Binds X.K fd ps []) : CallR X (.builtin "repr") (rReprA X.K C sp) := by
  intro pins s σ H xs us Q I r h
  obtain ⟨x, t, rfl, ht, q⟩ := h.ex
  cases ht with
  | non =>
    obtain ⟨u, rfl, r1⟩ := vals1 r
    cases (show u = Value.none from r1)
    exact PySem.P.repr_of_none ⟨.str _, H, I.tok _, ⟨_, rfl⟩, q⟩
  | bl b =>
    obtain ⟨u, rfl, r1⟩ := vals1 r
    cases (show u = Value.bool b from r1)
    exact PySem.P.repr_of_bool ⟨.str _, H, I.tok _, ⟨_, rfl⟩, q⟩
  | int hi =>
    obtain ⟨u, rfl, t, rfl⟩ := vals1 r
    exact PySem.P.repr_of_int hi ⟨.str _, H, I.tok _, ⟨_, rfl⟩, q⟩
  | str hx =>
    obtain ⟨u, rfl, t, rfl⟩ := vals1 r
    exact PySem.P.repr_of_str ⟨.str _, H, I.tok _, ⟨_, rfl⟩, q⟩ hx
  | data hD h1 h2 h3 h4 => exact call_repr hg hr.units pins s σ H _ us Q I r ⟨⟨_, _, rfl, hD, h1, h2, h3, h4, q⟩⟩
  | @own a dx fs t ha hsp =>
    obtain ⟨u1, rfl, r1⟩ := vals1 r
    cases (show u1 = Value.ref a from r1)
    obtain ⟨mA, O, _⟩ := ins_get I.hok ha
    obtain ⟨od, J, _⟩ := O.look
    obtain ⟨m, hF⟩ := I.fr
    refine PySem.W.repr_K (by have := hr.units; show X.A.units + 1 < cLine; omega) hF I.ok.mod.kin J hs hf ?_
    have hl : ([Value.ref a] ++ ([] : List Value)).length = ps.length := by
      rw [← F.len _ _ _ _ _ hsp]
      rfl
    have bb := hb s [.ref a] I.kIn hl
    rw [List.append_nil] at bb
    refine wpAny_call (codeAny_mono (F.go [] X.A.in1 X.stack s H ⟨[.ref a], []⟩ [.ref a] [.ref a] _ E0 hg (hr.in1.mono (Nat.le_succ k)) I.env0.in1 bb (.cons rfl .nil) hsp) fun res s' hh => ?_)
    cases res with
    | error e => exact hh.elim
    | ok fl =>
      cases fl with
      | next => exact hh.elim
      | brk => exact hh.elim
      | cont => exact hh.elim
      | ret u =>
        obtain ⟨v, H', I', rv, rfl, rfl⟩ := I.after hh
        obtain ⟨tk, rfl⟩ := rv
        exact ⟨.str t, H', I', ⟨tk, rfl⟩, q⟩
  | @dic a kvs ha hs hz =>
    obtain ⟨u1, rfl, r1⟩ := vals1 r
    cases (show u1 = Value.ref a from r1)
    obtain ⟨_, hsm, ws, kv, o, es, ep, e1, ex, e2, _, pr, _⟩ := dk_of I.hok ha
    obtain ⟨k1, k2⟩ := pairs_reads (h := s.heap) pr kv hs
    have rd : Reads s.heap (.ref a) (dicD kvs) (a :: [] ++ []) := .dict e1 ex.1 e2 k1 k2
    refine repr_of_reads' rd (by unfold dicD; rw [PyData.showable]; exact showable_kv hs) (fun _ hm => ?_) hg (by have := hr.units; unfold dicD; rw [PyData.depth, depth_kv]; omega) (fun _ _ e => e) (fun h' u tk hk => ⟨.str (dicD kvs).shown, H, I.kept hk, ⟨u, rfl⟩, q⟩) hz
    have e3 : sysModules = a := by simpa using hm
    rw [e3, beq_self_eq_true] at hsm
    cases hsm
  | owns ha hl hi hz => exact call_reprLO F hg hr hs hf hb pins s σ H _ us Q I r ⟨⟨_, _, _, rfl, ha, hl, hi, hz, q⟩⟩
end Vf
set_option Elab.async false
set_option linter.all false
set_option maxRecDepth 100000
set_option maxHeartbeats 4000000
namespace Vf
/-! ### the plain basis of the room that words make -/
theorem sort_desc (l : List Nat) : ∃ D : List Nat, D.Perm l ∧ D.Pairwise (· ≥ ·) := by
  refine ⟨l.mergeSort fun a b => decide (b ≤ a), List.mergeSort_perm _ _, ?_⟩
  refine (List.pairwise_mergeSort (fun a b c h1 h2 => ?_) (fun a b => ?_) l).imp fun h => of_decide_eq_true h
  · exact decide_eq_true (Nat.le_trans (of_decide_eq_true h2) (of_decide_eq_true h1))
  · rcases Nat.le_total a b with h | h
    · rw [decide_eq_true h, Bool.or_true]
    · rw [decide_eq_true h, Bool.true_or]
theorem ge_gt {D : List Nat} (h : Piv D) (g : D.Pairwise (· ≥ ·)) : D.Pairwise (· > ·) := by
  refine (List.Pairwise.and g (piv_nodup h)).imp fun k => ?_
  obtain ⟨a, b⟩ := k
  omega
theorem plain_nil : Plain [] := ⟨⟨List.Pairwise.nil, fun _ k => (List.not_mem_nil k).elim⟩, List.Pairwise.nil⟩
theorem plain_ex : ∀ ws : List Nat, ∃ B, Plain B ∧ ∀ v, span B v ↔ span ws v
  | [] => ⟨[], plain_nil, fun _ => Iff.rfl⟩
  | w :: ws => by
    obtain ⟨B, pl, sp⟩ := plain_ex ws
    have e : ∀ v, span (restOf w B :: B) v ↔ span (w :: ws) v := fun v => by
      rw [rest_room pl.1, span_cons, span_cons, sp, sp]
    by_cases r0 : restOf w B = 0
    · refine ⟨B, pl, fun v => ?_⟩
      rw [← e v, r0]
      exact ⟨span_sub fun x hx => span_mem (List.mem_cons_of_mem _ hx), span_sub fun x hx => (List.mem_cons.mp hx).elim (fun e => by rw [e]; exact span_zero B) span_mem⟩
    · obtain ⟨D, pm, ge⟩ := sort_desc (B.map (clear1 (restOf w B)) ++ [restOf w B])
      have pD := piv_perm pm.symm (put_piv pl.1 r0 fun x hx => rest_off pl.1 w hx)
      exact ⟨D, ⟨pD, ge_gt pD ge⟩, fun v => by rw [span_perm pm v, put_span, e v]⟩
noncomputable def bas (ws : List Nat) : List Nat := Classical.choose (plain_ex ws)
theorem bas_plain (ws : List Nat) : Plain (bas ws) := (Classical.choose_spec (plain_ex ws)).1
theorem bas_span (ws : List Nat) (v : Nat) : span (bas ws) v ↔ span ws v := (Classical.choose_spec (plain_ex ws)).2 v
theorem bas_uniq {B ws : List Nat} (h : Plain B) (k : ∀ v, span B v ↔ span ws v) : B = bas ws := plain_unique h (bas_plain ws) fun v => (k v).trans (bas_span ws v).symm
theorem bas_self {B : List Nat} (h : Plain B) : bas B = B := (bas_uniq h fun _ => Iff.rfl).symm
theorem bas_lt {ws : List Nat} {n : Nat} (h : ∀ v ∈ ws, v < 2 ^ n) : ∀ c ∈ bas ws, c < 2 ^ n := fun c hc => span_lt h ((bas_span ws c).mp (span_mem hc))
theorem down_len : ∀ {l : List Nat} {n : Nat}, l.Pairwise (fun b c => c < b) → (∀ b ∈ l, b < n) → l.length ≤ n
  | [], _, _, _ => Nat.zero_le _
  | b :: l, n, h, hn => by
    have h2 := List.pairwise_cons.mp h
    have := down_len (n := b) h2.2 h2.1
    have := hn b List.mem_cons_self
    rw [List.length_cons]
    omega
theorem plain_len {B : List Nat} {n : Nat} (h : Plain B) (hn : ∀ c ∈ B, c < 2 ^ n) : B.length ≤ n := by
  have := down_len (l := B.map Nat.log2) (n := n) (by rw [List.pairwise_map]; exact plain_logs h) fun x hx => by
    obtain ⟨c, hc, rfl⟩ := List.mem_map.mp hx
    exact (lt_pow_log (h.1.2 c hc)).mp (hn c hc)
  rwa [List.length_map] at this
theorem piv_sub {B C : List Nat} (s : C.Sublist B) (h : Piv B) : Piv C := ⟨h.1.sublist s, fun b k => h.2 b (s.mem k)⟩
theorem plain_sub {B C : List Nat} (s : C.Sublist B) (h : Plain B) : Plain C := ⟨piv_sub s h.1, h.2.sublist s⟩
/-! ### rooms of sums, of images -/
theorem span_append {A B : List Nat} {v : Nat} : span (A ++ B) v ↔ ∃ a b, span A a ∧ span B b ∧ v = a ^^^ b := by
  constructor
  · intro h
    refine h (fun v => ∃ a b, span A a ∧ span B b ∧ v = a ^^^ b) ⟨⟨0, 0, span_zero A, span_zero B, rfl⟩, ?_⟩ fun w hw => ?_
    · rintro _ _ ⟨a, b, h1, h2, rfl⟩ ⟨c, d, h3, h4, rfl⟩
      refine ⟨a ^^^ c, b ^^^ d, span_xor h1 h3, span_xor h2 h4, ?_⟩
      apply Nat.eq_of_testBit_eq
      intro i
      simp only [Nat.testBit_xor]
      cases a.testBit i <;> cases b.testBit i <;> cases c.testBit i <;> cases d.testBit i <;> rfl
    · rcases List.mem_append.mp hw with k | k
      · exact ⟨w, 0, span_mem k, span_zero B, (Nat.xor_zero w).symm⟩
      · exact ⟨0, w, span_zero A, span_mem k, (Nat.zero_xor w).symm⟩
  · rintro ⟨a, b, h1, h2, rfl⟩
    exact span_xor (span_sub (fun x hx => span_mem (List.mem_append_left _ hx)) h1) (span_sub (fun x hx => span_mem (List.mem_append_right _ hx)) h2)
def LinF (f : Nat → Nat) : Prop := ∀ a b, f (a ^^^ b) = f a ^^^ f b
theorem LinF.zero {f : Nat → Nat} (h : LinF f) : f 0 = 0 := by
  have := h 0 0
  rw [Nat.xor_self, Nat.xor_self] at this
  exact this
theorem span_map {f : Nat → Nat} (hf : LinF f) {A : List Nat} {v : Nat} : span (A.map f) v ↔ ∃ a, span A a ∧ v = f a := by
  constructor
  · intro h
    refine h (fun v => ∃ a, span A a ∧ v = f a) ⟨⟨0, span_zero A, hf.zero.symm⟩, ?_⟩ fun w hw => ?_
    · rintro _ _ ⟨a, h1, rfl⟩ ⟨b, h2, rfl⟩
      exact ⟨a ^^^ b, span_xor h1 h2, (hf a b).symm⟩
    · obtain ⟨a, ha, rfl⟩ := List.mem_map.mp hw
      exact ⟨a, span_mem ha, rfl⟩
  · rintro ⟨a, h, rfl⟩
    exact h (fun a => span (A.map f) (f a)) ⟨by show span (A.map f) (f 0); rw [hf.zero]; exact span_zero _, fun a b ha hb => by show span (A.map f) (f (a ^^^ b)); rw [hf]; exact span_xor ha hb⟩ fun w hw => span_mem (List.mem_map_of_mem hw)
/-- what the basis words below a bound make -/
theorem comb_filter {v : Nat} {p : Nat → Bool} : ∀ {B : List Nat}, (∀ b ∈ B, p b = false → v.testBit b.log2 = false) → comb v B = comb v (B.filter p)
  | [], _ => rfl
  | b :: B, h => by
    have r := comb_filter (v := v) (p := p) (B := B) fun c k => h c (List.mem_cons_of_mem _ k)
    cases hp : p b with
    | true => rw [List.filter_cons_of_pos hp, comb_cons, comb_cons, r]
    | false => rw [List.filter_cons_of_neg (by simp [hp]), comb_cons, h b List.mem_cons_self hp, if_neg (by simp), Nat.zero_xor, r]
theorem low_span {P : List Nat} (h : Plain P) (n v : Nat) : span (P.filter fun w => decide (w < 2 ^ n)) v ↔ span P v ∧ v < 2 ^ n := by
  constructor
  · intro k
    exact ⟨span_sub (fun w hw => span_mem (List.mem_filter.mp hw).1) k, span_lt (fun w hw => by simpa using (List.mem_filter.mp hw).2) k⟩
  · rintro ⟨k, lt⟩
    have e := span_comb h.1 k
    rw [comb_filter (p := fun w => decide (w < 2 ^ n)) fun b hb hp => ?_] at e
    · rw [← e]
      exact comb_span v _
    · have ge : 2 ^ n ≤ b := by
        have : ¬ b < 2 ^ n := fun z => by simp [z] at hp
        omega
      apply Nat.testBit_lt_two_pow
      refine Nat.lt_of_lt_of_le lt (Nat.pow_le_pow_right (by decide) ?_)
      rcases Nat.lt_or_ge b.log2 n with k2 | k2
      · have := (lt_pow_log (h.1.2 b hb)).mpr k2
        omega
      · exact k2
/-! ### dimensions -/
theorem pow2_inj {a b : Nat} (h : 2 ^ a = 2 ^ b) : a = b := (Nat.pow_right_inj (by decide)).mp h
theorem len_same {l m : List Nat} (hl : l.Nodup) (hm : m.Nodup) (h : ∀ x, x ∈ l ↔ x ∈ m) : l.length = m.length := ((List.perm_ext_iff_of_nodup hl hm).mpr h).length_eq
theorem sum_const {α : Type} (f : α → Nat) (k : Nat) : ∀ l : List α, (∀ a ∈ l, f a = k) → (l.map f).sum = l.length * k
  | [], _ => by simp
  | a :: l, h => by
    rw [List.map_cons, List.sum_cons, h a List.mem_cons_self, sum_const f k l fun b hb => h b (List.mem_cons_of_mem _ hb), List.length_cons, Nat.succ_mul, Nat.add_comm]
/-- a one-to-one image has the same dimension -/
theorem dim_inj {ws us : List Nat} {g : Nat → Nat} (h : ∀ v, span us v ↔ ∃ u, span ws u ∧ v = g u) (inj : ∀ a b, span ws a → span ws b → g a = g b → a = b) : (bas us).length = (bas ws).length := by
  obtain ⟨m1, n1, l1⟩ := sums_ok (bas_plain ws).1
  obtain ⟨m2, n2, l2⟩ := sums_ok (bas_plain us).1
  apply pow2_inj
  rw [← l1, ← l2, ← List.length_map (as := sumsOf (bas ws)) (f := g)]
  refine len_same n2 ?_ fun x => ?_
  · unfold List.Nodup
    rw [List.pairwise_map]
    refine n1.imp_of_mem fun {a b} ha hb ne e => ne (inj a b ?_ ?_ e)
    · exact (bas_span ws a).mp ((m1 a).mp ha)
    · exact (bas_span ws b).mp ((m1 b).mp hb)
  · rw [m2, bas_span, h, List.mem_map]
    constructor
    · rintro ⟨u, hu, rfl⟩
      exact ⟨u, (m1 u).mpr ((bas_span ws u).mpr hu), rfl⟩
    · rintro ⟨u, hu, rfl⟩
      exact ⟨u, (bas_span ws u).mp ((m1 u).mp hu), rfl⟩
theorem rank_null {ws us ks : List Nat} {f : Nat → Nat} (hf : LinF f) (im : ∀ v, span us v ↔ ∃ u, span ws u ∧ v = f u) (ker : ∀ v, span ks v ↔ span ws v ∧ f v = 0) :
    (bas ws).length = (bas us).length + (bas ks).length := by
  obtain ⟨m1, n1, l1⟩ := sums_ok (bas_plain ws).1
  obtain ⟨m2, n2, l2⟩ := sums_ok (bas_plain us).1
  obtain ⟨m3, n3, l3⟩ := sums_ok (bas_plain ks).1
  have M1 : ∀ v, v ∈ sumsOf (bas ws) ↔ span ws v := fun v => (m1 v).trans (bas_span ws v)
  have M2 : ∀ v, v ∈ sumsOf (bas us) ↔ span us v := fun v => (m2 v).trans (bas_span us v)
  have M3 : ∀ v, v ∈ sumsOf (bas ks) ↔ span ks v := fun v => (m3 v).trans (bas_span ks v)
  have : ∃ sec : Nat → Nat, ∀ v, span us v → span ws (sec v) ∧ f (sec v) = v := by
    refine ⟨fun v => open Classical in if h : span us v then Classical.choose ((im v).mp h) else 0, fun v h => ?_⟩
    have := Classical.choose_spec ((im v).mp h)
    simp only [dif_pos h]
    exact ⟨this.1, this.2.symm⟩
  obtain ⟨sec, hs⟩ := this
  apply pow2_inj
  rw [Nat.pow_add, ← l1, ← l2, ← l3]
  have len : ((sumsOf (bas us)).flatMap fun v => (sumsOf (bas ks)).map (sec v ^^^ ·)).length = (sumsOf (bas us)).length * (sumsOf (bas ks)).length := by
    rw [List.length_flatMap]
    exact sum_const _ _ _ fun a _ => List.length_map ..
  rw [← len]
  refine len_same n1 ?_ fun x => ?_
  · unfold List.Nodup
    rw [List.pairwise_flatMap]
    refine ⟨fun a _ => ?_, n2.imp_of_mem fun {a b} ha hb ne x hx y hy e => ?_⟩
    · rw [List.pairwise_map]
      refine n3.imp fun n e => n ?_
      have := congrArg (sec a ^^^ ·) e
      simpa [← Nat.xor_assoc] using this
    · obtain ⟨k1, h1, rfl⟩ := List.mem_map.mp hx
      obtain ⟨k2, h2, rfl⟩ := List.mem_map.mp hy
      have e2 := congrArg f e
      rw [hf, hf, ((ker k1).mp ((M3 k1).mp h1)).2, ((ker k2).mp ((M3 k2).mp h2)).2, Nat.xor_zero, Nat.xor_zero, (hs a ((M2 a).mp ha)).2, (hs b ((M2 b).mp hb)).2] at e2
      exact ne e2
  · rw [M1, List.mem_flatMap]
    constructor
    · intro hx
      have hv : span us (f x) := (im _).mpr ⟨x, hx, rfl⟩
      refine ⟨f x, (M2 _).mpr hv, List.mem_map.mpr ⟨sec (f x) ^^^ x, (M3 _).mpr ((ker _).mpr ⟨span_xor (hs _ hv).1 hx, ?_⟩), ?_⟩⟩
      · rw [hf, (hs _ hv).2, Nat.xor_self]
      · rw [← Nat.xor_assoc, Nat.xor_self, Nat.zero_xor]
    · rintro ⟨v, hv, hx⟩
      obtain ⟨k, hk, rfl⟩ := List.mem_map.mp hx
      exact span_xor (hs v ((M2 v).mp hv)).1 ((ker k).mp ((M3 k).mp hk)).1
/-! ### places -/
theorem linF_shl (n : Nat) : LinF fun w => w <<< n := fun a b => Nat.shiftLeft_xor_distrib
theorem linF_id : LinF fun w => w := fun a b => rfl
theorem linF_xor {f g : Nat → Nat} (hf : LinF f) (hg : LinF g) : LinF fun w => f w ^^^ g w := fun a b => by
  show f (a ^^^ b) ^^^ g (a ^^^ b) = _
  rw [hf, hg]
  apply Nat.eq_of_testBit_eq
  intro i
  simp only [Nat.testBit_xor]
  cases (f a).testBit i <;> cases (f b).testBit i <;> cases (g a).testBit i <;> cases (g b).testBit i <;> rfl
theorem bit_hi {w n i : Nat} (h : w < 2 ^ n) (k : n ≤ i) : w.testBit i = false := Nat.testBit_lt_two_pow (Nat.lt_of_lt_of_le h (Nat.pow_le_pow_right (by decide) k))
theorem or_xor {h w n : Nat} (k : w < 2 ^ n) : (h <<< n) ||| w = (h <<< n) ^^^ w := by
  apply Nat.eq_of_testBit_eq
  intro i
  rw [Nat.testBit_or, Nat.testBit_xor, Nat.testBit_shiftLeft]
  rcases Nat.lt_or_ge i n with l | l
  · rw [show decide (i ≥ n) = false from decide_eq_false (by omega), Bool.false_and, Bool.false_or, Bool.false_xor]
  · rw [bit_hi k l, Bool.or_false, Bool.xor_false]
theorem shl_small {h n : Nat} (k : h <<< n < 2 ^ n) : h = 0 := by
  rw [Nat.shiftLeft_eq] at k
  rcases Nat.eq_zero_or_pos h with e | e
  · exact e
  · have := Nat.mul_le_mul_right (2 ^ n) e
    omega
theorem xor_zero_iff {a b : Nat} (h : a ^^^ b = 0) : a = b := by
  have := congrArg (· ^^^ b) h
  simpa [xor_cancel] using this
/-- what is common -/
noncomputable def common (n : Nat) (A B : List Nat) : List Nat := (bas ((A.map fun w => (w <<< n) ||| w) ++ B.map fun w => w <<< n)).filter fun w => decide (w < 2 ^ n)
theorem common_span {n : Nat} {A B : List Nat} (hA : ∀ a ∈ A, a < 2 ^ n) (v : Nat) : span (common n A B) v ↔ span A v ∧ span B v := by
  unfold common
  rw [low_span (bas_plain _), bas_span]
  have e : (A.map fun a => (a <<< n) ||| a) = A.map fun a => (a <<< n) ^^^ a := List.map_congr_left fun a ha => or_xor (hA a ha)
  rw [e, span_append]
  have l1 := linF_xor (linF_shl n) linF_id
  constructor
  · rintro ⟨⟨x, y, hx, hy, rfl⟩, lt⟩
    obtain ⟨a, ha, rfl⟩ := (span_map l1).mp hx
    obtain ⟨b, hb, rfl⟩ := (span_map (linF_shl n)).mp hy
    have la := span_lt hA ha
    have q : ((a <<< n) ^^^ a) ^^^ (b <<< n) = ((a ^^^ b) <<< n) ^^^ a := by
      rw [Nat.shiftLeft_xor_distrib]
      apply Nat.eq_of_testBit_eq
      intro i
      simp only [Nat.testBit_xor]
      cases (a <<< n).testBit i <;> cases a.testBit i <;> cases (b <<< n).testBit i <;> rfl
    have lt2 : ((a ^^^ b) <<< n) ^^^ a < 2 ^ n := q ▸ lt
    have : (a ^^^ b) <<< n < 2 ^ n := by
      have := Nat.xor_lt_two_pow lt2 la
      rwa [xor_cancel] at this
    have z := shl_small this
    show span A (((a <<< n) ^^^ a) ^^^ (b <<< n)) ∧ span B (((a <<< n) ^^^ a) ^^^ (b <<< n))
    rw [q, z, Nat.zero_shiftLeft, Nat.zero_xor]
    refine ⟨ha, ?_⟩
    rw [xor_zero_iff z]
    exact hb
  · rintro ⟨h1, h2⟩
    refine ⟨⟨(v <<< n) ^^^ v, v <<< n, (span_map l1).mpr ⟨v, h1, rfl⟩, (span_map (linF_shl n)).mpr ⟨v, h2, rfl⟩, ?_⟩, span_lt hA h1⟩
    rw [Nat.xor_comm (v <<< n), xor_cancel]
/-- sum and common room -/
theorem sum_common {n : Nat} {A B C : List Nat} (hA : ∀ a ∈ A, a < 2 ^ n) (hB : ∀ b ∈ B, b < 2 ^ n) (hC : ∀ v, span C v ↔ span A v ∧ span B v) : (bas (A ++ B)).length + (bas C).length = (bas A).length + (bas B).length := by
  -- the pairs (a, b) as (a << n) ^ b
  have hf : LinF fun w => w % 2 ^ n := fun a b => by
    apply Nat.eq_of_testBit_eq
    intro i
    simp only [Nat.testBit_xor, Nat.testBit_mod_two_pow]
    cases decide (i < n) <;> rfl
  have hg : LinF fun w => w >>> n := fun a b => Nat.shiftRight_xor_distrib
  have up : ∀ {a b : Nat}, b < 2 ^ n → ((a <<< n) ^^^ b) >>> n = a := fun {a b} hb => by
    apply Nat.eq_of_testBit_eq
    intro i
    rw [Nat.testBit_shiftRight, Nat.testBit_xor, Nat.testBit_shiftLeft, bit_hi hb (by omega), Bool.xor_false, show decide (n + i ≥ n) = true from decide_eq_true (by omega), Bool.true_and, Nat.add_sub_cancel_left]
  have dn : ∀ {a b : Nat}, b < 2 ^ n → ((a <<< n) ^^^ b) % 2 ^ n = b := fun {a b} hb => by
    apply Nat.eq_of_testBit_eq
    intro i
    rw [Nat.testBit_mod_two_pow, Nat.testBit_xor, Nat.testBit_shiftLeft]
    rcases Nat.lt_or_ge i n with l | l
    · rw [show decide (i < n) = true from decide_eq_true l, show decide (i ≥ n) = false from decide_eq_false (by omega), Bool.false_and, Bool.false_xor, Bool.true_and]
    · rw [bit_hi hb l, show decide (i < n) = false from decide_eq_false (by omega), Bool.false_and]
  have D : ∀ v, span ((A.map fun w => w <<< n) ++ B) v ↔ ∃ a b, span A a ∧ span B b ∧ v = (a <<< n) ^^^ b := fun v => by
    rw [span_append]
    constructor
    · rintro ⟨x, b, hx, hb, rfl⟩
      obtain ⟨a, ha, rfl⟩ := (span_map (linF_shl n)).mp hx
      exact ⟨a, b, ha, hb, rfl⟩
    · rintro ⟨a, b, ha, hb, rfl⟩
      exact ⟨a <<< n, b, (span_map (linF_shl n)).mpr ⟨a, ha, rfl⟩, hb, rfl⟩
  have r1 := rank_null (ws := (A.map fun w => w <<< n) ++ B) (us := A) (ks := B) hg
    (fun v => by
      constructor
      · exact fun h => ⟨v <<< n, (D _).mpr ⟨v, 0, h, span_zero B, (Nat.xor_zero _).symm⟩, by have := up (a := v) (Nat.two_pow_pos n); rw [Nat.xor_zero] at this; exact this.symm⟩
      · rintro ⟨u, hu, rfl⟩
        obtain ⟨a, b, ha, hb, rfl⟩ := (D u).mp hu
        rw [up (span_lt hB hb)]
        exact ha)
    (fun v => by
      constructor
      · intro h
        have lt := span_lt hB h
        refine ⟨(D v).mpr ⟨0, v, span_zero A, h, by rw [Nat.zero_shiftLeft, Nat.zero_xor]⟩, ?_⟩
        have := up (a := 0) lt
        rwa [Nat.zero_shiftLeft, Nat.zero_xor] at this
      · rintro ⟨h, z⟩
        obtain ⟨a, b, ha, hb, rfl⟩ := (D v).mp h
        have z2 : ((a <<< n) ^^^ b) >>> n = 0 := z
        rw [up (span_lt hB hb)] at z2
        subst z2
        rw [Nat.zero_shiftLeft, Nat.zero_xor]
        exact hb)
  have hs : LinF fun w => (w >>> n) ^^^ (w % 2 ^ n) := linF_xor hg hf
  have r2 := rank_null (ws := (A.map fun w => w <<< n) ++ B) (us := A ++ B) (ks := C.map fun w => (w <<< n) ^^^ w) hs
    (fun v => by
      rw [span_append]
      constructor
      · rintro ⟨a, b, ha, hb, rfl⟩
        refine ⟨(a <<< n) ^^^ b, (D _).mpr ⟨a, b, ha, hb, rfl⟩, ?_⟩
        show a ^^^ b = (((a <<< n) ^^^ b) >>> n) ^^^ (((a <<< n) ^^^ b) % 2 ^ n)
        rw [up (span_lt hB hb), dn (span_lt hB hb)]
      · rintro ⟨u, hu, rfl⟩
        obtain ⟨a, b, ha, hb, rfl⟩ := (D u).mp hu
        refine ⟨a, b, ha, hb, ?_⟩
        show (((a <<< n) ^^^ b) >>> n) ^^^ (((a <<< n) ^^^ b) % 2 ^ n) = a ^^^ b
        rw [up (span_lt hB hb), dn (span_lt hB hb)])
    (fun v => by
      rw [span_map (linF_xor (linF_shl n) linF_id)]
      constructor
      · rintro ⟨a, ha, rfl⟩
        obtain ⟨h1, h2⟩ := (hC a).mp ha
        refine ⟨(D _).mpr ⟨a, a, h1, h2, rfl⟩, ?_⟩
        show (((a <<< n) ^^^ a) >>> n) ^^^ (((a <<< n) ^^^ a) % 2 ^ n) = 0
        rw [up (span_lt hB h2), dn (span_lt hB h2), Nat.xor_self]
      · rintro ⟨h, z⟩
        obtain ⟨a, b, ha, hb, rfl⟩ := (D v).mp h
        have z2 : (((a <<< n) ^^^ b) >>> n) ^^^ (((a <<< n) ^^^ b) % 2 ^ n) = 0 := z
        rw [up (span_lt hB hb), dn (span_lt hB hb)] at z2
        have e := xor_zero_iff z2
        subst e
        exact ⟨a, (hC a).mpr ⟨ha, hb⟩, rfl⟩)
  have r3 := dim_inj (ws := C) (us := C.map fun w => (w <<< n) ^^^ w) (fun v => span_map (linF_xor (linF_shl n) linF_id)) fun a b ha hb e => by
    have la := span_lt hB ((hC a).mp ha).2
    have lb := span_lt hB ((hC b).mp hb).2
    have : ((a <<< n) ^^^ a) % 2 ^ n = ((b <<< n) ^^^ b) % 2 ^ n := congrArg (· % 2 ^ n) e
    rwa [dn la, dn lb] at this
  omega
end Vf
set_option Elab.async false
set_option linter.all false
set_option maxRecDepth 100000
set_option maxHeartbeats 4000000
namespace Vf
open PySem PySem.Spec PyProof.Rows L2
theorem get_vs {l : List Nat} {i : Nat} {x : V} (h : (vs l)[i]? = some x) : ∃ j, l[i]? = some j ∧ x = .int (j : Nat) := by
  unfold vs at h
  rw [List.getElem?_map] at h
  cases e : l[i]? with
  | none => rw [e] at h; cases h
  | some j => rw [e] at h; exact ⟨j, rfl, (Option.some.inj h).symm⟩
theorem len_vs (l : List Nat) : (vs l).length = l.length := by unfold vs; rw [List.length_map]
theorem yes_ {σ2 : L2.St} {H2 : Hp} {R : Bool → Hp → Prop} (h : R true H2) : tYes σ2 H2 R := h
theorem and_pow (r i : Nat) : decide (r &&& 2 ^ i ≠ 0) = r.testBit i := by
  cases h : r.testBit i
  · have e : r &&& 2 ^ i = 0 := by
      apply Nat.eq_of_testBit_eq
      intro j
      rw [Nat.testBit_and, Nat.testBit_two_pow, Nat.zero_testBit]
      by_cases k : i = j
      · subst k
        rw [h, Bool.false_and]
      · rw [decide_eq_false k, Bool.and_false]
    rw [e]
    rfl
  · have e : r &&& 2 ^ i ≠ 0 := fun z => by
      have t : (r &&& 2 ^ i).testBit i = true := by
        rw [Nat.testBit_and, Nat.testBit_two_pow, h, decide_eq_true rfl]
        rfl
      rw [z, Nat.zero_testBit] at t
      cases t
    exact decide_eq_true e
theorem vs_append (a b : List Nat) : vs (a ++ b) = vs a ++ vs b := by unfold vs; rw [List.map_append]
/-- a sorted list of ints that stands for naturals -/
theorem back_vs {ns : List Int} {l : List Nat} (h : ns.Perm (l.map fun i : Nat => (i : Int))) : ∃ l2 : List Nat, ns = (l2.map fun i : Nat => (i : Int)) ∧ l2.Perm l := by
  have p := h.map V.int
  rw [← vs_int] at p
  obtain ⟨l2, e, p2⟩ := perm_vs p
  refine ⟨l2, ?_, p2⟩
  rw [vs_int] at e
  exact (List.map_inj_right (fun a b z => by injection z)).mp e
end Vf
namespace Vf
theorem take_span {ws : List Nat} {i c : Nat} (h : ws[i]? = some c) {B : List Nat} (hB : Piv B) (e : ∀ v, span B v ↔ span (ws.take i) v) (v : Nat) : span (restOf c B :: B) v ↔ span (ws.take (i + 1)) v := by
  rw [rest_room hB, List.take_add_one, h]
  show span (c :: B) v ↔ span (ws.take i ++ [c]) v
  rw [span_perm (List.perm_append_comm (l₁ := ws.take i) (l₂ := [c]))]
  show span (c :: B) v ↔ span (c :: ws.take i) v
  rw [span_cons, span_cons, e, e]
theorem gt_of_ge {D : List Nat} (h : Piv D) (g : D.Pairwise (· ≥ ·)) : D.Pairwise (· > ·) := by
  refine (List.Pairwise.and g (piv_nodup h)).imp fun k => ?_
  obtain ⟨a, b⟩ := k
  omega
end Vf
namespace Vf
open PySem PySem.Spec PyProof.Rows L2
theorem eqv_vs : ∀ (B D : List Nat), PyData.eqvAll ((vs B).map toD) ((vs D).map toD) = decide (B = D)
  | [], [] => rfl
  | [], y :: D => rfl
  | x :: B, [] => rfl
  | x :: B, y :: D => by
    have e := eqv_vs B D
    show (PyData.eqv (.int (x : Int)) (.int (y : Int)) && PyData.eqvAll ((vs B).map toD) ((vs D).map toD)) = _
    rw [e, PyData.eqv]
    by_cases h : x = y
    · subst h
      by_cases k : B = D
      · subst k
        simp
      · simp [k]
    · have h2 : ¬ (x : Int) = (y : Int) := by omega
      simp [h, h2]
theorem eqD_vs {K : PySem.W.Frag} {H : Hp} {Q : VK} {a b : Addr} {B D : List Nat} (ha : SqL K H a (vs B)) (hb : SqL K H b (vs D)) (q : Q (.bl (decide (B = D))) H) : rEqD K (.ref a) (.ref b) H Q := by
  refine ⟨_, _, .lst ha (dp_all (flat_vs B)), .lst hb (dp_all (flat_vs D)), shaped_flat (flat_vs B), shaped_flat (flat_vs D), ?_⟩
  rw [PyData.eqv, eqv_vs]
  exact q
theorem txt_len {xs : List V} (h : ∀ x ∈ xs, small x = true) : (txt xs).length ≤ 1925 * xs.length + 2 := by
  obtain ⟨h1, h2, h3⟩ := shown_all h
  unfold txt
  rw [PyData.shown]
  unfold listText
  rw [strLen_append]
  have h4 := text_len (PyData.shownAll (xs.map toD)) 0 "["
  have e1 : (("[" : String) : Str).length = 1 := rfl
  have e2 : (("]" : String) : Str).length = 1 := rfl
  omega
theorem small_vs {B : List Nat} (h : ∀ c ∈ B, c < 2 ^ 24) : ∀ x ∈ vs B, small x = true := fun x hx => by
  obtain ⟨c, hc, rfl⟩ := List.mem_map.mp hx
  exact small_nat (h c hc)
/-! ### a room as an object -/
theorem nb_ : ¬ (("_places" : Str) = "_basis") := by decide +kernel
def rf (n : Nat) (b : Addr) : List (Str × V) := putF "_basis" (.ref b) (putF "_places" (.int (n : Int)) [])
theorem rf_places (n : Nat) (b : Addr) : (rf n b).lookup ("_places" : Str) = some (.int (n : Int)) := by
  unfold rf
  rw [lookup_putF, if_neg nb_, lookup_putF, if_pos rfl]
theorem rf_basis (n : Nat) (b : Addr) : (rf n b).lookup ("_basis" : Str) = some (.ref b) := by
  unfold rf
  rw [lookup_putF, if_pos rfl]
theorem rf_no (n : Nat) (b : Addr) {m : Str} (h1 : ¬ m = "_basis") (h2 : ¬ m = "_places") : (rf n b).lookup m = none := by
  unfold rf
  rw [lookup_putF, if_neg h1, lookup_putF, if_neg h2]
  all_goals rfl
/-- the room of n places with the plain basis B stands at a -/
def RoomAt (C : Addr) (H : Hp) (a : Addr) (n : Nat) (B : List Nat) : Prop :=
  ∃ dx b, H a = some (.ins C dx (rf n b)) ∧ H b = some (.lst (vs B)) ∧ Plain B ∧ 1 ≤ n ∧ n ≤ 24 ∧ ∀ c ∈ B, c < 2 ^ n
/-- a room that was made anew: its list stood nowhere -/
def RoomNew (C : Addr) (H0 H : Hp) (a : Addr) (n : Nat) (B : List Nat) : Prop :=
  ∃ dx b, H a = some (.ins C dx (rf n b)) ∧ H b = some (.lst (vs B)) ∧ Plain B ∧ 1 ≤ n ∧ n ≤ 24 ∧ (∀ c ∈ B, c < 2 ^ n) ∧ H0 b = none
/-- a room whose list is not the one at p -/
def RoomP (C : Addr) (H : Hp) (a : Addr) (n : Nat) (B : List Nat) (p : Addr) : Prop :=
  ∃ dx b, H a = some (.ins C dx (rf n b)) ∧ H b = some (.lst (vs B)) ∧ Plain B ∧ 1 ≤ n ∧ n ≤ 24 ∧ (∀ c ∈ B, c < 2 ^ n) ∧ b ≠ p
theorem RoomP.at {C : Addr} {H : Hp} {a : Addr} {n : Nat} {B : List Nat} {p : Addr} (h : RoomP C H a n B p) : RoomAt C H a n B := by
  obtain ⟨dx, b, e1, e2, a1, a2, a3, a4, _⟩ := h
  exact ⟨dx, b, e1, e2, a1, a2, a3, a4⟩
theorem RoomP.same {C : Addr} {H H' : Hp} {a : Addr} {n : Nat} {B : List Nat} {p : Addr} (s : Same H H') (h : RoomP C H a n B p) : RoomP C H' a n B p := by
  obtain ⟨dx, b, e1, e2, r⟩ := h
  exact ⟨dx, b, s _ _ e1, s _ _ e2, r⟩
theorem RoomP.but {C : Addr} {H H' : Hp} {a : Addr} {n : Nat} {B : List Nat} {p : Addr} (s : But p H H') (hp : Pot H p) (h : RoomP C H a n B p) : RoomP C H' a n B p := by
  obtain ⟨dx, b, e1, e2, a1, a2, a3, a4, nb⟩ := h
  have na : a ≠ p := by
    rintro rfl
    obtain ⟨x, y, e, _⟩ := hp
    rw [e1] at e
    cases e
  exact ⟨dx, b, s _ _ na e1, s _ _ nb e2, a1, a2, a3, a4, nb⟩
theorem RoomAt.same {C : Addr} {H H' : Hp} {a : Addr} {n : Nat} {B : List Nat} (s : Same H H') (h : RoomAt C H a n B) : RoomAt C H' a n B := by
  obtain ⟨dx, b, e1, e2, r⟩ := h
  exact ⟨dx, b, s _ _ e1, s _ _ e2, r⟩
theorem RoomAt.but {C : Addr} {H H' : Hp} {a p : Addr} {n : Nat} {B : List Nat} (s : But p H H') (hp : Pot H p) (h : RoomAt C H a n B) (hne : ∀ b, H b = some (.lst (vs B)) → b ≠ p) : RoomAt C H' a n B := by
  obtain ⟨dx, b, e1, e2, r⟩ := h
  have na : a ≠ p := by
    rintro rfl
    obtain ⟨x, y, e, _⟩ := hp
    rw [e1] at e
    cases e
  exact ⟨dx, b, s _ _ na e1, s _ _ (hne b e2) e2, r⟩
theorem lt24 {n c : Nat} (h : n ≤ 24) (k : c < 2 ^ n) : c < 2 ^ 24 := Nat.lt_of_lt_of_le k (Nat.pow_le_pow_right (by decide) h)
/-- what is known of the class -/
structure RKn (K : PySem.W.Frag) (C : Addr) : Prop where
  cl : Cls K C
  nP : NoAttr K C "_places"
  nB : NoAttr K C "_basis"
  ca : PySem.W.findIn K (.ref C) "__class__" = some (some (.builtin "object.__class__"))
  cn : PySem.W.specialIn K (.builtin "object.__class__") "__get__" = some (some (.builtin "getset_descriptor.__get__"))
  ct : PySem.W.takesIn K (.builtin "object.__class__") = some true
  cm : PySem.W.mroIn K C (.type "object") = some true
end Vf
namespace Vf
open PySem PySem.Spec PyProof.Rows L2
theorem inV_vs (v : Nat) (l : List Nat) : inV (.int (v : Int)) (vs l) = decide (v ∈ l) := by
  unfold inV vs
  rw [List.any_map]
  rw [Bool.eq_iff_iff, List.any_eq_true, decide_eq_true_iff]
  constructor
  · rintro ⟨x, hx, e⟩
    have e2 : (x : Int) = (v : Int) := beq_iff_eq.mp e
    have : x = v := by omega
    exact this ▸ hx
  · intro h
    exact ⟨v, h, beq_self_eq_true _⟩
theorem flatV_vs (l : List Nat) : (vs l).all flatV = true := by
  rw [List.all_eq_true]
  intro x hx
  obtain ⟨i, _, rfl⟩ := List.mem_map.mp hx
  rfl
theorem up_eq {l m : List Nat} (hl : l.Pairwise (· < ·)) (hm : m.Pairwise (· < ·)) (h : ∀ x, x ∈ l ↔ x ∈ m) : l = m := by
  have r : l.reverse = m.reverse := asc_eq (List.pairwise_reverse.mpr hl) (List.pairwise_reverse.mpr hm) fun x => by
    rw [List.mem_reverse, List.mem_reverse, h]
  have := congrArg List.reverse r
  simpa using this
end Vf
namespace Vf
open PySem PySem.Spec PyProof.Rows L2
/-! ### str of data -/
/-! ### the rooms made, compared -/
end Vf
namespace Vf
open PySem PySem.Spec PyProof.Rows L2
end Vf
namespace Vf
open PySem PySem.Spec PyProof.Rows L2
theorem all_true (n : Nat) : (List.replicate n true).all id = true := by
  rw [List.all_eq_true]
  intro x hx
  rw [(List.mem_replicate.mp hx).2]
  rfl
end Vf
set_option Elab.async false
set_option linter.all false
set_option maxRecDepth 100000
set_option maxHeartbeats 4000000
set_option pp.maxSteps 400
namespace Vf
open PySem PySem.Spec PyProof.Rows L2
/-! ### worlds: what a step keeps -/
/-- without what stands at p -/
def del (p : Addr) (H : Hp) : Hp := fun b => if b = p then none else H b
theorem del_ne {p b : Addr} {H : Hp} (h : b ≠ p) : del p H b = H b := if_neg h
theorem del_same {p : Addr} {H : Hp} : del p H p = none := if_pos rfl
theorem del_some {p b : Addr} {H : Hp} {o : HO} (h : del p H b = some o) : b ≠ p ∧ H b = some o := by
  by_cases e : b = p
  · subst e
    rw [del_same] at h
    cases h
  · exact ⟨e, (del_ne e).symm.trans h⟩
structure Wd where
  L : Hp → Hp → Prop
  inv : Hp → Prop
  F : Addr → Prop
  refl : ∀ H, L H H
  trans : ∀ {H H1 H2 : Hp}, L H H1 → L H1 H2 → L H H2
  same : ∀ {H H' : Hp}, Same H H' → L H H'
  step : ∀ {H H' : Hp}, L H H' → inv H → inv H'
  keep : ∀ {H H' : Hp} {a : Addr} {o : HO}, F a → L H H' → H a = some o → H' a = some o
  fresh : ∀ {H : Hp} {a : Addr}, inv H → H a = none → F a
  insF : ∀ {H : Hp} {a C dx : Addr} {fs : List (Str × V)}, inv H → H a = some (.ins C dx fs) → F a
  put : ∀ {H H' : Hp} {a : Addr} {o : HO}, inv H → L H H' → H a = none → L H (upd H' a o)
  delL : ∀ {H H' : Hp} {p : Addr}, F p → L H H' → L (del p H) (del p H')
  delI : ∀ {H : Hp} {p : Addr}, F p → inv H → inv (del p H)
/-- no thing changes -/
def plainW : Wd where
  L := Same
  inv _ := True
  F _ := True
  refl := Same.refl
  trans := Same.trans
  same h := h
  step _ h := h
  keep _ l h := l _ _ h
  fresh _ _ := trivial
  insF _ _ := trivial
  put {H H' a o} _ l n := fun b u e => by
    rw [upd_ne (ne_of_none e n)]
    exact l _ _ e
  delL {H H' p} _ l := fun b u e => by
    obtain ⟨n, e⟩ := del_some e
    rw [del_ne n]
    exact l _ _ e
  delI _ _ := trivial
theorem del_pot {H : Hp} {p q : Addr} (n : p ≠ q) (h : Pot H q) : Pot (del p H) q := by
  obtain ⟨x, y, e, k⟩ := h
  exact ⟨x, y, by rw [del_ne (Ne.symm n)]; exact e, k⟩
theorem pot_del {H : Hp} {p q : Addr} (n : p ≠ q) (h : Pot (del p H) q) : Pot H q := by
  obtain ⟨x, y, e, k⟩ := h
  exact ⟨x, y, by rw [← e, del_ne (Ne.symm n)], k⟩
/-- the pot at p alone changes, and stays a pot -/
def potW (p : Addr) : Wd where
  L H H' := But p H H' ∧ (Pot H p → Pot H' p)
  inv H := Pot H p
  F a := a ≠ p
  refl H := ⟨But.refl p H, id⟩
  trans a b := ⟨a.1.trans b.1, fun h => b.2 (a.2 h)⟩
  same s := ⟨But.of s, fun h => h.same s⟩
  step l h := l.2 h
  keep n l h := l.1 _ _ n h
  fresh h n := by
    rintro rfl
    obtain ⟨o, e⟩ := h.some
    rw [n] at e
    cases e
  insF h e := by
    rintro rfl
    obtain ⟨x, y, e2, _⟩ := h
    rw [e] at e2
    cases e2
  put {H H' a o} h l n := ⟨l.1.new n, fun k => (l.2 k).upd (by
    rintro rfl
    obtain ⟨o, e⟩ := h.some
    rw [n] at e
    cases e)⟩
  delL {H H' q} n l := ⟨fun b u m e => by
    obtain ⟨n2, e⟩ := del_some e
    rw [del_ne n2]
    exact l.1 _ _ m e, fun h => del_pot n (l.2 (pot_del n h))⟩
  delI n h := del_pot n h
structure IsPot (W : Wd) (p : Addr) : Prop where
  has : ∀ {H}, W.inv H → Pot H p
  ne : ∀ {a}, W.F a → a ≠ p
  put : ∀ {H H'}, But p H H' → Pot H' p → W.L H H'
theorem potW_is (p : Addr) : IsPot (potW p) p := ⟨fun h => h, fun h => h, fun b h => ⟨b, fun _ => h⟩⟩
/-- a meaning: what a value stands for, kept by all steps -/
structure Dn (W : Wd) where
  ok : V → Hp → Prop
  st : ∀ {v : V} {H H' : Hp}, W.L H H' → ok v H → ok v H'
variable {W : Wd}
def OkL : List (Dn W) → List V → Hp → Prop
  | [], [], _ => True
  | d :: ds, v :: vs, H => d.ok v H ∧ OkL ds vs H
  | [], _ :: _, _ => False
  | _ :: _, [], _ => False
/-- what is known of the slots: so many, and the meanings of some, the newest first -/
structure EnvT (W : Wd) where
  n : Nat
  l : List (Nat × Dn W)
def getE : List (Nat × Dn W) → Nat → Option (Dn W)
  | [], _ => none
  | (j, d) :: r, i => bif Nat.beq j i then some d else getE r i
def EnvT.get (Ds : EnvT W) (i : Nat) : Option (Dn W) := getE Ds.l i
def EnvT.set (Ds : EnvT W) (i : Nat) : Option (Dn W) → EnvT W
  | some d => ⟨Ds.n, (i, d) :: Ds.l⟩
  | none => ⟨Ds.n, Ds.l.filter fun p => !(Nat.beq p.1 i)⟩
def EnvL (Ds : EnvT W) (σ : L2.St) (H : Hp) : Prop := σ.length = Ds.n ∧ ∀ i d, Ds.get i = some d → i < σ.length → ∃ v, σ[i]? = some (some v) ∧ d.ok v H
theorem OkL.st {H H' : Hp} (l : W.L H H') : ∀ {ds : List (Dn W)} {vs : List V}, OkL ds vs H → OkL ds vs H'
  | [], [], _ => trivial
  | d :: ds, v :: vs, h => ⟨d.st l h.1, OkL.st l h.2⟩
  | [], _ :: _, h => h.elim
  | _ :: _, [], h => h.elim
theorem OkL.length {H : Hp} : ∀ {ds : List (Dn W)} {vs : List V}, OkL ds vs H → vs.length = ds.length
  | [], [], _ => rfl
  | d :: ds, v :: vs, h => congrArg (· + 1) (OkL.length h.2)
  | [], _ :: _, h => h.elim
  | _ :: _, [], h => h.elim
theorem OkL.at {H : Hp} : ∀ {ds : List (Dn W)} {vs : List V} {k : Nat} {x : V}, OkL ds vs H → vs[k]? = some x → ∃ d, d ∈ ds ∧ d.ok x H
  | [], [], _, _, _, e => by simp at e
  | d :: ds, v :: vs, 0, x, h, e => by
    have : v = x := by simpa using e
    subst this
    exact ⟨d, List.mem_cons_self, h.1⟩
  | d :: ds, v :: vs, k + 1, x, h, e => by
    obtain ⟨d', m, r⟩ := OkL.at (ds := ds) (vs := vs) (k := k) h.2 (by simpa using e)
    exact ⟨d', List.mem_cons_of_mem _ m, r⟩
  | [], _ :: _, _, _, h, _ => h.elim
  | _ :: _, [], _, _, h, _ => h.elim
theorem EnvL.st {H H' : Hp} (l : W.L H H') {Ds : EnvT W} {σ : L2.St} (h : EnvL Ds σ H) : EnvL Ds σ H' := ⟨h.1, fun i d e lt => by
  obtain ⟨v, e1, o⟩ := h.2 i d e lt
  exact ⟨v, e1, d.st l o⟩⟩
theorem EnvL.get {H : Hp} {d : Dn W} {Ds : EnvT W} {σ : L2.St} {i : Nat} (h : EnvL Ds σ H) (e : Ds.get i = some d) (hi : Nat.ble (i + 1) Ds.n = true) : ∃ v, σ[i]? = some (some v) ∧ d.ok v H := h.2 i d e (by rw [h.1]; exact Nat.le_of_ble_eq_true hi)
theorem EnvL.set {H : Hp} {d : Dn W} {v : V} (hv : d.ok v H) {Ds : EnvT W} {σ : L2.St} {i : Nat} (h : EnvL Ds σ H) : EnvL (Ds.set i (some d)) (σ.set i (some v)) H := by
  refine ⟨by rw [List.length_set]; exact h.1, fun j d' e lt => ?_⟩
  rw [List.length_set] at lt
  have e : (bif Nat.beq i j then some d else getE Ds.l j) = some d' := e
  by_cases k : i = j
  · subst k
    rw [Nat.beq_refl] at e
    have e : some d = some d' := e
    cases e
    exact ⟨v, by rw [List.getElem?_set_self lt], hv⟩
  · rw [show Nat.beq i j = false from Bool.eq_false_iff.mpr fun z => k (Nat.eq_of_beq_eq_true z)] at e
    obtain ⟨u, e1, o⟩ := h.2 j d' e lt
    exact ⟨u, by rw [List.getElem?_set_ne k]; exact e1, o⟩
theorem getE_filter {p : Nat × Dn W → Bool} : ∀ {l : List (Nat × Dn W)} {i : Nat} {d : Dn W}, getE (l.filter p) i = some d → (∀ x : Nat × Dn W, x.1 = i → p x = true) → getE l i = some d
  | [], _, _, e, _ => e
  | (j, c) :: l, i, d, e, h => by
    cases k : Nat.beq j i with
    | true =>
      have : p (j, c) = true := h _ (Nat.eq_of_beq_eq_true k)
      rw [List.filter_cons_of_pos this] at e
      have e : (bif Nat.beq j i then some c else getE (l.filter p) i) = some d := e
      rw [k] at e
      show (bif Nat.beq j i then some c else getE l i) = some d
      rw [k]
      exact e
    | false =>
      show (bif Nat.beq j i then some c else getE l i) = some d
      rw [k]
      cases q : p (j, c) with
      | true =>
        rw [List.filter_cons_of_pos q] at e
        have e : (bif Nat.beq j i then some c else getE (l.filter p) i) = some d := e
        rw [k] at e
        exact getE_filter (l := l) e h
      | false =>
        rw [List.filter_cons_of_neg (by simp [q])] at e
        exact getE_filter (l := l) e h
theorem getE_gone : ∀ {l : List (Nat × Dn W)} {i : Nat}, getE (l.filter fun p => !(Nat.beq p.1 i)) i = none
  | [], _ => rfl
  | (j, c) :: l, i => by
    cases k : Nat.beq j i with
    | true =>
      rw [List.filter_cons_of_neg (by simp [k])]
      exact getE_gone
    | false =>
      rw [List.filter_cons_of_pos (by simp [k])]
      show (bif Nat.beq j i then some c else _) = none
      rw [k]
      exact getE_gone (l := l)
theorem EnvL.dropS {H : Hp} {Ds : EnvT W} {σ : L2.St} {i : Nat} {s : Option V} (h : EnvL Ds σ H) : EnvL (Ds.set i none) (σ.set i s) H := by
  refine ⟨by rw [List.length_set]; exact h.1, fun j d e lt => ?_⟩
  rw [List.length_set] at lt
  have e : getE (Ds.l.filter fun p => !(Nat.beq p.1 i)) j = some d := e
  by_cases k : i = j
  · subst k
    rw [getE_gone] at e
    cases e
  · have e2 : getE Ds.l j = some d := getE_filter e fun x hx => by
      rw [hx, show Nat.beq j i = false from Bool.eq_false_iff.mpr fun z => k (Nat.eq_of_beq_eq_true z).symm]
      rfl
    obtain ⟨v, e1, o⟩ := h.2 j d e2 lt
    exact ⟨v, by rw [List.getElem?_set_ne k]; exact e1, o⟩
theorem EnvL.drop {H : Hp} {Ds : EnvT W} {σ : L2.St} {i : Nat} (h : EnvL Ds σ H) : EnvL (Ds.set i none) σ H := by
  refine ⟨h.1, fun j d e lt => ?_⟩
  have e : getE (Ds.l.filter fun p => !(Nat.beq p.1 i)) j = some d := e
  by_cases k : i = j
  · subst k
    rw [getE_gone] at e
    cases e
  · exact h.2 j d (getE_filter e fun x hx => by
      rw [hx, show Nat.beq j i = false from Bool.eq_false_iff.mpr fun z => k (Nat.eq_of_beq_eq_true z).symm]
      rfl) lt
def forget (Ds : EnvT W) : List Nat → EnvT W
  | [] => Ds
  | i :: is => (forget Ds is).set i none
theorem EnvL.forget {H : Hp} {Ds : EnvT W} {σ : L2.St} (h : EnvL Ds σ H) : ∀ is : List Nat, EnvL (Vf.forget Ds is) σ H
  | [] => h
  | i :: is => (EnvL.forget h is).drop
def envGo : Nat → List (Dn W) → List (Nat × Dn W)
  | _, [] => []
  | k, d :: ds => (k, d) :: envGo (k + 1) ds
def envOf (ds : List (Dn W)) (m : Nat) : EnvT W := ⟨ds.length + m, envGo 0 ds⟩
theorem envGo_get {H : Hp} : ∀ {ds : List (Dn W)} {vs : List V} {k i : Nat} {d : Dn W}, OkL ds vs H → getE (envGo k ds) i = some d → ∃ v, k ≤ i ∧ vs[i - k]? = some v ∧ d.ok v H
  | [], _, _, _, _, _, e => by cases e
  | d :: ds, v :: vs, k, i, d', ⟨o, r⟩, e => by
    have e : (bif Nat.beq k i then some d else getE (envGo (k + 1) ds) i) = some d' := e
    by_cases q : k = i
    · subst q
      rw [Nat.beq_refl] at e
      have e : some d = some d' := e
      cases e
      exact ⟨v, Nat.le_refl _, by rw [Nat.sub_self]; rfl, o⟩
    · rw [show Nat.beq k i = false from Bool.eq_false_iff.mpr fun z => q (Nat.eq_of_beq_eq_true z)] at e
      obtain ⟨u, h1, h2, h3⟩ := envGo_get (ds := ds) (vs := vs) r e
      refine ⟨u, by omega, ?_, h3⟩
      rw [show i - k = (i - (k + 1)) + 1 by omega]
      exact h2
  | _ :: _, [], _, _, _, o, _ => o.elim
theorem EnvL.start {H : Hp} {m : Nat} {ds : List (Dn W)} {vs : List V} (h : OkL ds vs H) : EnvL (envOf ds m) (vs.map some ++ List.replicate m none) H := by
  refine ⟨?_, fun i d e _ => ?_⟩
  · rw [List.length_append, List.length_map, List.length_replicate, h.length]
    rfl
  · obtain ⟨v, _, h2, h3⟩ := envGo_get h e
    rw [Nat.sub_zero] at h2
    refine ⟨v, ?_, h3⟩
    have lt : i < vs.length := (List.getElem?_eq_some_iff.mp h2).1
    rw [List.getElem?_append_left (by rw [List.length_map]; exact lt), List.getElem?_map, h2]
    rfl
/-! ### what readings mean -/
def EV (Ds : EnvT W) (te : TE) (d : Dn W) : Prop := ∀ (σ : L2.St) (H : Hp) (Q : VK), W.inv H → EnvL Ds σ H → (∀ v H', W.L H H' → d.ok v H' → Q v H') → te σ H Q
def AV (Ds : EnvT W) (ta : TA) (ds : List (Dn W)) : Prop := ∀ (σ : L2.St) (H : Hp) (Q : List V → Hp → Prop), W.inv H → EnvL Ds σ H → (∀ vs H', W.L H H' → OkL ds vs H' → Q vs H') → ta σ H Q
def AX {ι : Type} (Ds : EnvT W) (ta : TA) (P : ι → Prop) (ds : ι → List (Dn W)) : Prop := ∀ (σ : L2.St) (H : Hp) (Q : List V → Hp → Prop), W.inv H → EnvL Ds σ H → (∀ i vs H', P i → W.L H H' → OkL (ds i) vs H' → Q vs H') → ta σ H Q
def TV (Ds : EnvT W) (tt : TT) (b : Bool) : Prop := ∀ (σ : L2.St) (H : Hp) (R : Bool → Hp → Prop), W.inv H → EnvL Ds σ H → (∀ H', W.L H H' → R b H') → tt σ H R
def OpD (r : R2) (d1 d2 d : Dn W) : Prop := ∀ (x y : V) (H : Hp) (Q : VK), W.inv H → d1.ok x H → d2.ok y H → (∀ v H', W.L H H' → d.ok v H' → Q v H') → r x y H Q
def SpD (sp : Sp) (dvs : List V) (ds : List (Dn W)) (d : Dn W) : Prop := ∀ (vs : List V) (H : Hp) (Q : VK), W.inv H → OkL ds vs H → (∀ v H', W.L H H' → d.ok v H' → Q v H') → sp (vs ++ dvs) H Q E0
def CrD (r : List V → Hp → VK → Prop) (ds : List (Dn W)) (d : Dn W) : Prop := ∀ (vs : List V) (H : Hp) (Q : VK), W.inv H → OkL ds vs H → (∀ v H', W.L H H' → d.ok v H' → Q v H') → r vs H Q
def SV (Ds : EnvT W) (ts : TS) (d : Dn W) : Prop := ∀ (D : Ends) (σ : L2.St) (H : Hp), W.inv H → EnvL Ds σ H → (∀ v H', W.L H H' → d.ok v H' → D.rt v H') → ts D σ H
def NV (Ds : EnvT W) (ts : TS) (Es : EnvT W) : Prop := ∀ (D : Ends) (σ : L2.St) (H : Hp), W.inv H → EnvL Ds σ H → (∀ σ' H', W.L H H' → EnvL Es σ' H' → D.nx σ' H') → ts D σ H
/-! ### meanings -/
def dV (v0 : V) : Dn W := ⟨fun v _ => v = v0, fun _ h => h⟩
def dLst (xs : List V) : Dn W := ⟨fun v H => ∃ a, v = .ref a ∧ W.F a ∧ H a = some (.lst xs), fun l ⟨a, e, g, h⟩ => ⟨a, e, g, W.keep g l h⟩⟩
def dTup (xs : List V) : Dn W := ⟨fun v H => ∃ a, v = .ref a ∧ W.F a ∧ H a = some (.tup xs), fun l ⟨a, e, g, h⟩ => ⟨a, e, g, W.keep g l h⟩⟩
def dLD (ds : List (Dn W)) : Dn W := ⟨fun v H => ∃ a xs, v = .ref a ∧ W.F a ∧ H a = some (.lst xs) ∧ OkL ds xs H, fun l ⟨a, xs, e, g, h, k⟩ => ⟨a, xs, e, g, W.keep g l h, k.st l⟩⟩
def dTD (ds : List (Dn W)) : Dn W := ⟨fun v H => ∃ a xs, v = .ref a ∧ W.F a ∧ H a = some (.tup xs) ∧ OkL ds xs H, fun l ⟨a, xs, e, g, h, k⟩ => ⟨a, xs, e, g, W.keep g l h, k.st l⟩⟩
def dEx {ι : Type} (P : ι → Prop) (f : ι → Dn W) : Dn W := ⟨fun v H => ∃ i, P i ∧ (f i).ok v H, fun l ⟨i, p, h⟩ => ⟨i, p, (f i).st l h⟩⟩
/-- a room of n places with the plain basis B -/
structure RoomF (n : Nat) (B : List Nat) : Prop where
  pl : Plain B
  n1 : 1 ≤ n
  n24 : n ≤ 24
  lt : ∀ c ∈ B, c < 2 ^ n
def dRoom (C : Addr) (n : Nat) (B : List Nat) : Dn W := ⟨fun v H => ∃ a dx b, v = .ref a ∧ W.F a ∧ W.F b ∧ H a = some (.ins C dx (rf n b)) ∧ H b = some (.lst (vs B)) ∧ RoomF n B,
  fun l ⟨a, dx, b, e, g1, g2, h1, h2, f⟩ => ⟨a, dx, b, e, g1, g2, W.keep g1 l h1, W.keep g2 l h2, f⟩⟩
abbrev dI (i : Int) : Dn W := dV (.int i)
abbrev dN (n : Nat) : Dn W := dV (.int (n : Int))
abbrev dB (b : Bool) : Dn W := dV (.bl b)
abbrev dS (x : Str) : Dn W := dV (.str x)
abbrev dVs (l : List Nat) : Dn W := dLst (vs l)
abbrev dBs (l : List Bool) : Dn W := dLst (l.map V.bl)
/-! ### rules -/
section
variable {Ds Es Fs : EnvT W} {d d1 d2 d3 : Dn W} {ds : List (Dn W)} {te ta tb : TE} {t tr tk : TA} {tt t1 t2 : TT} {b b1 b2 : Bool} {i j l : Nat} {r : R2} {ts tu : TS}
theorem ev_wk {d' : Dn W} (h : EV Ds te d) (k : ∀ v H, d.ok v H → d'.ok v H) : EV Ds te d' := fun σ H Q iv en q => h σ H Q iv en fun v H' l o => q v H' l (k v H' o)
theorem ev_eq {d' : Dn W} (h : EV Ds te d) (k : d = d') : EV Ds te d' := k ▸ h
theorem ev_var (h : Ds.get i = some d) (hi : Nat.ble (i + 1) Ds.n = true := by rfl) : EV Ds (tVar i) d := fun σ H Q iv en q => by
  obtain ⟨v, e, o⟩ := en.get h hi
  exact ⟨v, e, q v H (W.refl H) o⟩
theorem ev_c {v : V} : EV Ds (tC v) (dV v) := fun σ H Q iv en q => q v H (W.refl H) rfl
theorem ev_cn (n : Nat) : EV Ds (tC (.int (n : Int))) (dN n) := ev_c
theorem ev_ex (h : EV Ds te d) : EV Ds te (dEx (fun _ : Unit => True) fun _ => d) := ev_wk h fun v H o => ⟨(), trivial, o⟩
theorem ev_exw {ι κ : Type} {P : ι → Prop} {f : ι → Dn W} {P' : κ → Prop} {f' : κ → Dn W} (h : EV Ds te (dEx P f)) (g : ι → κ) (k : ∀ x, P x → P' (g x) ∧ f x = f' (g x)) : EV Ds te (dEx P' f') :=
  ev_wk h fun v H ⟨x, p, o⟩ => ⟨g x, (k x p).1, (k x p).2 ▸ o⟩
theorem ev_op (o : OpD r d1 d2 d) (ha : EV Ds ta d1) (hb : EV Ds tb d2) : EV Ds (tOp r ta tb) d := fun σ H Q iv en q =>
  ha σ H _ iv en fun x H1 l1 o1 => hb σ H1 _ (W.step l1 iv) (en.st l1) fun y H2 l2 o2 => o x y H2 Q (W.step l2 (W.step l1 iv)) (d1.st l2 o1) o2 fun v H3 l3 o3 => q v H3 (W.trans l1 (W.trans l2 l3)) o3
theorem ev_opL {ι : Type} {P : ι → Prop} {f : ι → Dn W} {g : ι → Dn W} (o : ∀ x, P x → OpD r (f x) d2 (g x)) (ha : EV Ds ta (dEx P f)) (hb : EV Ds tb d2) : EV Ds (tOp r ta tb) (dEx P g) :=
  ev_op (d1 := dEx P f) (fun x y H Q iv ⟨i, p, o1⟩ o2 q => o i p x y H Q iv o1 o2 fun v H' l o3 => q v H' l ⟨i, p, o3⟩) ha hb
theorem ev_opR {κ : Type} {P' : κ → Prop} {f' : κ → Dn W} {g : κ → Dn W} (o : ∀ y, P' y → OpD r d1 (f' y) (g y)) (ha : EV Ds ta d1) (hb : EV Ds tb (dEx P' f')) : EV Ds (tOp r ta tb) (dEx P' g) :=
  ev_op (d2 := dEx P' f') (fun x y H Q iv o1 ⟨j, p', o2⟩ q => o j p' x y H Q iv o1 o2 fun v H' l o3 => q v H' l ⟨j, p', o3⟩) ha hb
theorem av_nil : AV Ds tNil ([] : List (Dn W)) := fun σ H Q iv en q => q [] H (W.refl H) trivial
theorem av_cons (ha : EV Ds ta d) (hr : AV Ds tr ds) : AV Ds (tCons ta tr) (d :: ds) := fun σ H Q iv en q =>
  ha σ H _ iv en fun x H1 l1 o1 => hr σ H1 _ (W.step l1 iv) (en.st l1) fun xs H2 l2 o2 => q (x :: xs) H2 (W.trans l1 l2) ⟨d.st l2 o1, o2⟩
theorem ax_consL {ι : Type} {P : ι → Prop} {f : ι → Dn W} (ha : EV Ds ta (dEx P f)) (hr : AV Ds tr ds) : AX Ds (tCons ta tr) P fun z => f z :: ds := fun σ H Q iv en q =>
  ha σ H _ iv en fun x H1 l1 ⟨i, p, o1⟩ => hr σ H1 _ (W.step l1 iv) (en.st l1) fun xs H2 l2 o2 => q i (x :: xs) H2 p (W.trans l1 l2) ⟨(f i).st l2 o1, o2⟩
theorem ev_call {sp : Sp} {dvs : List V} (h : SpD sp dvs ds d) (ha : AV Ds t ds) : EV Ds (tCall sp dvs E0 t) d := fun σ H Q iv en q =>
  ha σ H _ iv en fun xs H1 l1 o1 => h xs H1 Q (W.step l1 iv) o1 fun v H2 l2 o2 => q v H2 (W.trans l1 l2) o2
theorem ev_cb {r : List V → Hp → VK → Prop} (h : CrD r ds d) (ha : AV Ds t ds) : EV Ds (tCB r t) d := fun σ H Q iv en q =>
  ha σ H _ iv en fun xs H1 l1 o1 => h xs H1 Q (W.step l1 iv) o1 fun v H2 l2 o2 => q v H2 (W.trans l1 l2) o2
/-- a call by names alone: ds in the sequence as written, es in that of the parameters -/
theorem ev_callKw {n : Nat} {sp : Sp} {gV : List V → List V → List V} {es : List (Dn W)} (h : SpD sp [] es d) (hp : ∀ vs H, OkL ds vs H → OkL es (gV [] vs) H) (hn : ds.length = n) (ha : AV Ds tk ds) :
    EV Ds (fun σ H Q => tk σ H fun zs H1 => zs.length = n ∧ sp (gV [] zs) H1 Q E0) d := fun σ H Q iv en q =>
  ha σ H _ iv en fun xs H1 l1 o1 => ⟨o1.length.trans hn, by
    have := h (gV [] xs) H1 Q (W.step l1 iv) (hp xs H1 o1) fun v H2 l2 o2 => q v H2 (W.trans l1 l2) o2
    rwa [List.append_nil] at this⟩
theorem ev_and (ha : EV Ds ta (dB b1)) (hb : b1 = true → EV Ds tb (dB b2)) : EV Ds (tAndV ta tb) (dB (b1 && b2)) := fun σ H Q iv en q =>
  ha σ H _ iv en fun x H1 l1 o1 => ⟨b1, o1, by
    cases b1 with
    | true => exact (hb rfl) σ H1 Q (W.step l1 iv) (en.st l1) fun v H2 l2 o2 => q v H2 (W.trans l1 l2) (by rw [o2]; rfl)
    | false => exact q _ H1 l1 rfl⟩
theorem ev_andT (ha : EV Ds ta (dB true)) (hb : EV Ds tb d) : EV Ds (tAndV ta tb) d := fun σ H Q iv en q =>
  ha σ H _ iv en fun x H1 l1 o1 => ⟨true, o1, (if_pos rfl).mpr (hb σ H1 Q (W.step l1 iv) (en.st l1) fun v H2 l2 o2 => q v H2 (W.trans l1 l2) o2)⟩
theorem ev_if (hc : TV Ds tt b) (ha : b = true → EV Ds ta d) (hb : b = false → EV Ds tb d) : EV Ds (tIf tt ta tb) d := fun σ H Q iv en q =>
  hc σ H _ iv en fun H1 l1 => by
    cases b with
    | true => exact (if_pos rfl).mpr ((ha rfl) σ H1 Q (W.step l1 iv) (en.st l1) fun v H2 l2 o2 => q v H2 (W.trans l1 l2) o2)
    | false => exact (if_neg Bool.false_ne_true).mpr ((hb rfl) σ H1 Q (W.step l1 iv) (en.st l1) fun v H2 l2 o2 => q v H2 (W.trans l1 l2) o2)
theorem tv_B (h : EV Ds te (dB b)) : TV Ds (tB te) b := fun σ H R iv en q => h σ H _ iv en fun v H1 l1 o1 => ⟨b, o1, q H1 l1⟩
theorem tv_test (h : EV Ds te (dB b)) : TV Ds (tTest te) b := fun σ H R iv en q => h σ H _ iv en fun v H1 l1 o1 => ⟨b, o1, q H1 l1⟩
theorem tv_int {n : Nat} (h : EV Ds te (dN n)) : TV Ds (tInt te) (decide (n ≠ 0)) := fun σ H R iv en q => h σ H _ iv en fun v H1 l1 o1 => ⟨n, o1, q H1 l1⟩
theorem tv_orF (ha : TV Ds t1 false) (hb : TV Ds t2 false) : TV Ds (tOr t1 t2) false := fun σ H R iv en q => ha σ H _ iv en fun H1 l1 => hb σ H1 R (W.step l1 iv) (en.st l1) fun H2 l2 => q H2 (W.trans l1 l2)
theorem tv_not (ha : TV Ds t1 b) : TV Ds (tNot t1) (!b) := fun σ H R iv en q => ha σ H _ iv en fun H1 l1 => q H1 l1
theorem tv_yes : TV Ds tYes true := fun σ H R iv en q => q H (W.refl H)
/-! statements -/
theorem sv_ret (h : EV Ds te d) : SV Ds (tRet te) d := fun D σ H iv en q => h σ H D.rt iv en q
theorem sv_seq (h : NV Ds ts Es) (k : SV Es tu d) : SV Ds (tSeq ts tu) d := fun D σ H iv en q =>
  h { D with nx := tu D } σ H iv en fun σ' H' l' en' => k D σ' H' (W.step l' iv) en' fun v H2 l2 o2 => q v H2 (W.trans l' l2) o2
theorem nv_seq (h : NV Ds ts Es) (k : NV Es tu Fs) : NV Ds (tSeq ts tu) Fs := fun D σ H iv en q =>
  h { D with nx := tu D } σ H iv en fun σ' H' l' en' => k D σ' H' (W.step l' iv) en' fun σ2 H2 l2 e2 => q σ2 H2 (W.trans l' l2) e2
theorem nv_next : NV Ds tNext Ds := fun D σ H iv en q => q σ H (W.refl H) en
theorem nv_set (h : EV Ds te d) : NV Ds (tAsg te (gName i)) (Ds.set i (some d)) := fun D σ H iv en q => h σ H _ iv en fun v H1 l1 o1 => q _ H1 l1 ((en.st l1).set o1)
theorem nv_drop (h : EV Ds te d) : NV Ds (tDrop te) Ds := fun D σ H iv en q => h σ H _ iv en fun v H1 l1 o1 => q σ H1 l1 (en.st l1)
theorem sv_setx {ι : Type} {P : ι → Prop} {f : ι → Dn W} (h : EV Ds te (dEx P f)) (k : ∀ x, P x → SV (Ds.set i (some (f x))) tu d) : SV Ds (tSeq (tAsg te (gName i)) tu) d := fun D σ H iv en q =>
  h σ H _ iv en fun v H1 l1 ⟨x, px, o1⟩ => k x px D _ H1 (W.step l1 iv) ((en.st l1).set o1) fun v H2 l2 o2 => q v H2 (W.trans l1 l2) o2
theorem nv_setx {ι : Type} {P : ι → Prop} {f : ι → Dn W} (h : EV Ds te (dEx P f)) (k : ∀ x, P x → NV (Ds.set i (some (f x))) tu Es) : NV Ds (tSeq (tAsg te (gName i)) tu) Es := fun D σ H iv en q =>
  h σ H _ iv en fun v H1 l1 ⟨x, px, o1⟩ => k x px D _ H1 (W.step l1 iv) ((en.st l1).set o1) fun v H2 l2 o2 => q v H2 (W.trans l1 l2) o2
theorem ev_tup (h : AV Ds t ds) (hn : ds.length ≤ 100000) : EV Ds (tTup t) (dTD ds) := fun σ H Q iv en q => h σ H _ iv en fun vs H1 l1 o1 => by
  refine ⟨?_, fun p np => q _ _ (W.trans l1 (W.put (W.step l1 iv) (W.refl _) np)) ⟨p, vs, rfl, W.fresh (W.step l1 iv) np, upd_same, o1.st (W.put (W.step l1 iv) (W.refl _) np)⟩⟩
  rw [o1.length]
  exact Nat.le_of_lt (sl_lt hn)
theorem nv_ifF (h : TV Ds tt false) : NV Ds (tIfS tt ts tNext) Ds := fun D σ H iv en q => h σ H _ iv en fun H1 l1 => q σ H1 l1 (en.st l1)
theorem nv_if {b : Bool} (h : TV Ds tt b) (h1 : b = true → NV Ds ts Es) (h2 : b = false → NV Ds tu Es) : NV Ds (tIfS tt ts tu) Es := fun D σ H iv en q => h σ H _ iv en fun H1 l1 => by
  cases b with
  | true => exact h1 rfl D σ H1 (W.step l1 iv) (en.st l1) fun σ2 H2 l2 e2 => q σ2 H2 (W.trans l1 l2) e2
  | false => exact h2 rfl D σ H1 (W.step l1 iv) (en.st l1) fun σ2 H2 l2 e2 => q σ2 H2 (W.trans l1 l2) e2
theorem nv_wk (is : List Nat) (h : NV Ds ts Es) (e : forget Es is = Fs) : NV Ds ts Fs := fun D σ H iv en q => h D σ H iv en fun σ' H' l' e' => q σ' H' l' (e ▸ e'.forget is)
theorem sv_roomF {C : Addr} {n : Nat} {B : List Nat} (i : Nat) (e : Ds.get i = some (dRoom C n B)) (h : RoomF n B → SV Ds ts d) (hi : Nat.ble (i + 1) Ds.n = true := by rfl) : SV Ds ts d := fun D σ H iv en q => by
  obtain ⟨v, _, a, dx, b, _, _, _, _, _, f⟩ := en.get e hi
  exact h f D σ H iv en q
theorem nv_forR {ta : TA} {n : Nat} (is : List Nat) (hl : AV Ds ta [dN n]) (h62 : n < 2 ^ 62) (he : forget Ds is = Fs) (hb : ∀ x < n, NV (Fs.set i (some (dN x))) ts Fs) :
    NV Ds (tFor (iRng1 ta) (gName i) ts) Fs := fun D σ H iv en q =>
  hl σ H _ iv en fun vs H1 l1 o1 => by
    match vs, o1 with
    | [v], ⟨o1, _⟩ =>
      refine ⟨(n : Int), by rw [show v = V.int (n : Int) from o1], by omega, by omega, ?_⟩
      refine for_range (lo := 0) (n := (n : Int).toNat) (fun k σ' H' => W.L H1 H' ∧ EnvL Fs σ' H') ⟨W.refl H1, he ▸ (en.st l1).forget is⟩ (fun k σ' H' hk hP => ?_) fun σ' H' hP => q σ' H' (W.trans l1 hP.1) hP.2
      have iv' := W.step hP.1 (W.step l1 iv)
      rw [Int.toNat_natCast] at hk
      exact hb k hk _ _ H' iv' (hP.2.set (show V.int (0 + (k : Int)) = V.int (k : Int) by rw [Int.zero_add])) fun σ2 H2 l2 e2 => ⟨W.trans hP.1 l2, e2⟩
end
end Vf
set_option Elab.async false
set_option linter.all false
set_option maxRecDepth 100000
set_option maxHeartbeats 4000000
set_option pp.maxSteps 400
namespace Vf
open PySem PySem.Spec PyProof.Rows L2
/-! ### more operators on numbers that are not negative -/
section
variable {X : Cx}
theorem op_leN : OpR X (compareOp .LtE) (fun x y H Q => ∃ a b : Nat, x = .int a ∧ y = .int b ∧ Q (.bl (decide (a ≤ b))) H) := by
  rintro pins s σ H x y v u Q I rx ry ⟨a, b, rfl, rfl, q⟩
  refine op_le pins s σ H _ _ v u Q I rx ry ⟨a, b, rfl, rfl, ?_⟩
  have e : decide ((a : Int) ≤ b) = decide (a ≤ b) := decide_eq_decide.mpr (by omega)
  show Q (.bl (decide ((a : Int) ≤ b))) H
  rw [e]
  exact q
end
variable {W : Wd}
/-! ### meanings of operators -/
section
variable {a b k n m : Nat} {l l2 : List Nat} {x y : Str} {p q : Bool}
theorem od_addN : OpD (W := W) (fun x y H Q => ∃ n m : Nat, x = .int (n : Int) ∧ y = .int (m : Int) ∧ Q (.int ((n + m : Nat) : Int)) H) (dN a) (dN b) (dN (a + b)) := fun x y H Q iv e1 e2 q => ⟨a, b, e1, e2, q _ H (W.refl H) rfl⟩
theorem od_subN (h : b ≤ a) : OpD (W := W) (fun x y H Q => ∃ n m : Nat, x = .int (n : Int) ∧ y = .int (m : Int) ∧ m ≤ n ∧ Q (.int ((n - m : Nat) : Int)) H) (dN a) (dN b) (dN (a - b)) := fun x y H Q iv e1 e2 q => ⟨a, b, e1, e2, h, q _ H (W.refl H) rfl⟩
theorem od_mulN (h : a ≤ 4294967296) : OpD (W := W) (fun x y H Q => ∃ n m : Nat, x = .int (n : Int) ∧ y = .int (m : Int) ∧ n ≤ 4294967296 ∧ Q (.int ((n * m : Nat) : Int)) H) (dN a) (dN b) (dN (a * b)) := fun x y H Q iv e1 e2 q => ⟨a, b, e1, e2, h, q _ H (W.refl H) rfl⟩
theorem od_fdivN (h1 : 1 ≤ b) (h2 : b < 1073741824) : OpD (W := W) (fun x y H Q => ∃ n m : Nat, x = .int (n : Int) ∧ y = .int (m : Int) ∧ (1 ≤ m ∧ m < 1073741824) ∧ Q (.int ((n / m : Nat) : Int)) H) (dN a) (dN b) (dN (a / b)) := fun x y H Q iv e1 e2 q => ⟨a, b, e1, e2, ⟨h1, h2⟩, q _ H (W.refl H) rfl⟩
theorem od_modN (h1 : 0 < b) : OpD (W := W) (fun x y H Q => ∃ n m : Nat, x = .int (n : Int) ∧ y = .int (m : Int) ∧ 0 < m ∧ Q (.int ((n % m : Nat) : Int)) H) (dN a) (dN b) (dN (a % b)) := fun x y H Q iv e1 e2 q => ⟨a, b, e1, e2, h1, q _ H (W.refl H) rfl⟩
theorem od_andN : OpD (W := W) (fun x y H Q => ∃ n m : Nat, x = .int (n : Int) ∧ y = .int (m : Int) ∧ Q (.int ((n &&& m : Nat) : Int)) H) (dN a) (dN b) (dN (a &&& b)) := fun x y H Q iv e1 e2 q => ⟨a, b, e1, e2, q _ H (W.refl H) rfl⟩
theorem od_xorN : OpD (W := W) (fun x y H Q => ∃ n m : Nat, x = .int (n : Int) ∧ y = .int (m : Int) ∧ Q (.int ((n ^^^ m : Nat) : Int)) H) (dN a) (dN b) (dN (a ^^^ b)) := fun x y H Q iv e1 e2 q => ⟨a, b, e1, e2, q _ H (W.refl H) rfl⟩
theorem od_pow2 (h : k ≤ 1000) : OpD (W := W) (fun x y H Q => ∃ k : Nat, x = .int 1 ∧ y = .int (k : Int) ∧ k ≤ 1000 ∧ Q (.int ((2 ^ k : Nat) : Int)) H) (dN 1) (dN k) (dN (2 ^ k)) := fun x y H Q iv e1 e2 q => ⟨k, e1, e2, h, q _ H (W.refl H) rfl⟩
theorem od_ltN : OpD (W := W) (fun x y H Q => ∃ a b : Nat, x = .int a ∧ y = .int b ∧ Q (.bl (decide (a < b))) H) (dN a) (dN b) (dB (decide (a < b))) := fun x y H Q iv e1 e2 q => ⟨a, b, e1, e2, q _ H (W.refl H) rfl⟩
theorem od_gtN : OpD (W := W) (fun x y H Q => ∃ a b : Nat, x = .int a ∧ y = .int b ∧ Q (.bl (decide (b < a))) H) (dN a) (dN b) (dB (decide (b < a))) := fun x y H Q iv e1 e2 q => ⟨a, b, e1, e2, q _ H (W.refl H) rfl⟩
theorem od_leN : OpD (W := W) (fun x y H Q => ∃ a b : Nat, x = .int a ∧ y = .int b ∧ Q (.bl (decide (a ≤ b))) H) (dN a) (dN b) (dB (decide (a ≤ b))) := fun x y H Q iv e1 e2 q => ⟨a, b, e1, e2, q _ H (W.refl H) rfl⟩
theorem od_eqN : OpD (W := W) (fun x y H Q => ∃ a b : Nat, x = .int a ∧ y = .int b ∧ Q (.bl (decide (a = b))) H) (dN a) (dN b) (dB (decide (a = b))) := fun x y H Q iv e1 e2 q => ⟨a, b, e1, e2, q _ H (W.refl H) rfl⟩
theorem od_neN : OpD (W := W) (fun x y H Q => ∃ a b : Nat, x = .int a ∧ y = .int b ∧ Q (.bl (!decide (a = b))) H) (dN a) (dN b) (dB (!decide (a = b))) := fun x y H Q iv e1 e2 q => ⟨a, b, e1, e2, q _ H (W.refl H) rfl⟩
theorem od_neS : OpD (W := W) rNe (dS x) (dS y) (dB (!decide (x = y))) := fun u v H Q iv e1 e2 q => by
  rw [show u = V.str x from e1, show v = V.str y from e2]
  refine ⟨rfl, q _ H (W.refl H) ?_⟩
  exact congrArg (fun b => V.bl (!b)) (decide_eq_decide.mpr ⟨fun z => by injection z, fun z => by rw [z]⟩)
theorem od_inL {K : PySem.W.Frag} : OpD (W := W) (rIn K false) (dN a) (dVs l) (dB (decide (a ∈ l))) := fun u v H Q iv e1 ⟨b, e2, g2, h2⟩ k => by
  subst e2
  rw [show u = V.int (a : Int) from e1]
  refine ⟨b, _, rfl, .inl (SqL.of h2), rfl, flatV_vs l, ?_⟩
  rw [if_neg (by simp), inV_vs]
  exact k _ H (W.refl H) rfl
theorem od_ninL {K : PySem.W.Frag} : OpD (W := W) (rIn K true) (dN a) (dVs l) (dB (!decide (a ∈ l))) := fun u v H Q iv e1 ⟨b, e2, g2, h2⟩ k => by
  subst e2
  rw [show u = V.int (a : Int) from e1]
  refine ⟨b, _, rfl, .inl (SqL.of h2), rfl, flatV_vs l, ?_⟩
  rw [if_pos rfl, inV_vs]
  exact k _ H (W.refl H) rfl
theorem od_cat (h : l.length + l2.length ≤ 100000) : OpD (W := W) rCat (dVs l) (dVs l2) (dVs (l ++ l2)) := fun u v H Q iv ⟨a, e1, g1, h1⟩ ⟨b, e2, g2, h2⟩ k => by
  subst e1 e2
  refine ⟨a, b, _, _, rfl, rfl, h1, h2, by rw [len_vs, len_vs]; exact Nat.le_of_lt (sl_lt h), fun p np => k _ _ (W.put iv (W.refl H) np) ⟨p, rfl, W.fresh iv np, ?_⟩⟩
  rw [upd_same, vs_append]
theorem od_catG {xs ys : List V} (h : xs.length + ys.length ≤ 100000) : OpD (W := W) rCat (dLst xs) (dLst ys) (dLst (xs ++ ys)) := fun u v H Q iv ⟨a, e1, g1, h1⟩ ⟨b, e2, g2, h2⟩ k => by
  subst e1 e2
  exact ⟨a, b, _, _, rfl, rfl, h1, h2, Nat.le_of_lt (sl_lt h), fun p np => k _ _ (W.put iv (W.refl H) np) ⟨p, rfl, W.fresh iv np, upd_same⟩⟩
theorem od_ixL {K : PySem.W.Frag} (h : l[k]? = some a) : OpD (W := W) (rIxL K) (dVs l) (dN k) (dN a) := fun u v H Q iv ⟨p, e1, g1, h1⟩ e2 q => by
  subst e1
  rw [show v = V.int (k : Int) from e2]
  refine ⟨p, _, k, .int (a : Int), rfl, rfl, SqL.of h1, atI_nat (j := k) ?_, q _ H (W.refl H) rfl⟩
  unfold Vf.vs
  rw [List.getElem?_map, h]
  rfl
end
/-! ### literals -/
section
variable {Ds : EnvT W} {t : TA} {te : TE} {i : Nat}
theorem ok_dVs {H : Hp} : ∀ {l : List Nat} {vs : List V}, OkL (l.map fun n => (dN n : Dn W)) vs H → vs = Vf.vs l
  | [], [], _ => rfl
  | n :: l, v :: vs, ⟨h, r⟩ => by
    rw [ok_dVs (l := l) r, show v = V.int (n : Int) from h]
    rfl
  | [], _ :: _, h => h.elim
  | _ :: _, [], h => h.elim
/-- [e, ..] of numbers: l is told -/
theorem ev_lstN (l : List Nat) (h : AV Ds t (l.map fun n => dN n)) (hn : l.length ≤ 100000 := by exact Nat.le_of_ble_eq_true rfl) : EV Ds (tLst t) (dVs l) := fun σ H Q iv en q => h σ H _ iv en fun vs H1 l1 o1 => by
  have iv1 := W.step l1 iv
  have e := ok_dVs o1
  subst e
  exact ⟨by rw [len_vs]; exact Nat.le_of_lt (sl_lt hn), fun p np => q _ _ (W.trans l1 (W.put iv1 (W.refl _) np)) ⟨p, rfl, W.fresh iv1 np, upd_same⟩⟩
theorem ev_lst {ds : List (Dn W)} (h : AV Ds t ds) (hn : ds.length ≤ 100000 := by exact Nat.le_of_ble_eq_true rfl) : EV Ds (tLst t) (dLD ds) := fun σ H Q iv en q => h σ H _ iv en fun vs H1 l1 o1 => by
  refine ⟨?_, fun p np => q _ _ (W.trans l1 (W.put (W.step l1 iv) (W.refl _) np)) ⟨p, vs, rfl, W.fresh (W.step l1 iv) np, upd_same, o1.st (W.put (W.step l1 iv) (W.refl _) np)⟩⟩
  rw [o1.length]
  exact Nat.le_of_lt (sl_lt hn)
end
end Vf
set_option Elab.async false
set_option linter.all false
set_option maxRecDepth 100000
set_option maxHeartbeats 4000000
set_option pp.maxSteps 400
namespace Vf
open PySem PySem.Spec PyProof.Rows L2
/-! ### the promises -/
def Sq (H : Hp) (a : Addr) (xs : List V) : Prop := H a = some (.lst xs) ∨ H a = some (.tup xs)
theorem Sq.same {H H' : Hp} {a : Addr} {xs : List V} (s : Same H H') (h : Sq H a xs) : Sq H' a xs := h.imp (s _ _) (s _ _)
theorem Sq.len {K : PySem.W.Frag} {H : Hp} {a : Addr} {xs : List V} (h : Sq H a xs) : (SqL K H a xs ∨ SqT K H a xs) := h.imp (fun e => SqL.of e) (fun e => .inl (.inl e))
def roomText (n : Nat) (B : List Nat) : Str := ((((Str.empty ++ ("Room(" : Str)) ++ (toString (n : Int) : Str)) ++ (", " : Str)) ++ txt (vs B)) ++ (")" : Str)
def sp_is_integer : Sp := fun vs H Q _ => ∃ i : Int, vs = [.int i] ∧ Q (.bl true) H
def sp_is_count : Sp := fun vs H Q _ => ∃ i : Int, vs = [.int i] ∧ Q (.bl (decide (0 ≤ i))) H
def sp_is_list : Sp := fun vs H Q _ => ∃ (a : Addr) (xs : List V), vs = [.ref a] ∧ Sq H a xs ∧ ∀ H', Same H H' → Q (.bl true) H'
def sp_is_places : Sp := fun vs H Q _ => ∃ n : Nat, vs = [.int n] ∧ 1 ≤ n ∧ n ≤ 24 ∧ Q (.bl true) H
def sp_check_places : Sp := fun vs H Q _ => ∃ n : Nat, vs = [.int n] ∧ 1 ≤ n ∧ n ≤ 24 ∧ Q .non H
def sp_is_word : Sp := fun vs H Q _ => ∃ n m : Nat, vs = [.int n, .int m] ∧ 1 ≤ n ∧ n ≤ 24 ∧ Q (.bl (decide (m < 2 ^ n))) H
def sp_check_word : Sp := fun vs H Q _ => ∃ m n : Nat, vs = [.int m, .int n] ∧ 1 ≤ n ∧ n ≤ 24 ∧ m < 2 ^ n ∧ Q .non H
def sp_highest : Sp := fun vs0 H Q _ => ∃ m : Nat, vs0 = [.int (m : Int)] ∧ m ≠ 0 ∧ m < 2 ^ 64 ∧ Q (.int ((2 ^ m.log2 : Nat) : Int)) H
def sp_rest_of : Sp := fun vs0 H Q _ => ∃ (v : Nat) (b : Addr) (B : List Nat), vs0 = [.int (v : Int), .ref b] ∧ H b = some (.lst (vs B)) ∧ (∀ c ∈ B, c ≠ 0 ∧ c < 2 ^ 64) ∧ Q (.int ((restOf v B : Nat) : Int)) H
def sp_put_in : Sp := fun vs0 H Q _ => ∃ (r : Nat) (b : Addr) (B : List Nat), vs0 = [.int (r : Int), .ref b] ∧ H b = some (.lst (vs B)) ∧ r ≠ 0 ∧ r < 2 ^ 64 ∧ B.length ≤ 1000 ∧
  ∀ (H' : Hp) (p : Addr) (D : List Nat), Same H H' → H p = none → H' p = some (.lst (vs D)) → D.Perm (B.map (clear1 r) ++ [r]) → D.Pairwise (· ≥ ·) → Q (.ref p) H'
def sp_sums_of : Sp := fun vs0 H Q _ => ∃ (b : Addr) (B : List Nat), vs0 = [.ref b] ∧ H b = some (.lst (vs B)) ∧ Piv B ∧ B.length ≤ 12 ∧
  ∀ (H' : Hp) (p : Addr) (L : List Nat), Same H H' → H p = none → H' p = some (.lst (vs L)) → L.Perm (sumsOf B) → L.Pairwise (· ≤ ·) → Q (.ref p) H'
def sp_plain_basis : Sp := fun vs0 H Q _ => ∃ (a : Addr) (ws : List Nat), vs0 = [.ref a] ∧ Sq H a (vs ws) ∧ (∀ v ∈ ws, v < 2 ^ 64) ∧ ws.length ≤ 1000 ∧
  ∀ (H' : Hp) (p : Addr) (B : List Nat), Same H H' → H p = none → H' p = some (.lst (vs B)) → Plain B → (∀ v, span B v ↔ span ws v) → B.length ≤ ws.length → Q (.ref p) H'
def sp_check_words : Sp := fun vs0 H Q _ => ∃ (n : Nat) (a : Addr) (ws : List Nat), vs0 = [.int (n : Int), .ref a] ∧ Sq H a (vs ws) ∧ 1 ≤ n ∧ n ≤ 24 ∧ (∀ v ∈ ws, v < 2 ^ n) ∧ ws.length ≤ 48 ∧ ∀ H', Same H H' → Q .non H'
def sp_init (C : Addr) : Sp := fun vs0 H Q _ => ∃ (x dx : Addr) (n : Nat) (a : Addr) (ws : List Nat), vs0 = [.ref x, .int (n : Int), .ref a] ∧ H x = some (.ins C dx []) ∧ Sq H a (vs ws) ∧ 1 ≤ n ∧ n ≤ 24 ∧ (∀ v ∈ ws, v < 2 ^ n) ∧ ws.length ≤ 48 ∧
  ∀ (H' : Hp) (B : List Nat), But x H H' → RoomNew C H H' x n B → (∀ v, span B v ↔ span ws v) → B.length ≤ ws.length → Q .non H'
def sp_places (C : Addr) : Sp := fun vs0 H Q _ => ∃ (x : Addr) (n : Nat) (B : List Nat), vs0 = [.ref x] ∧ RoomAt C H x n B ∧ Q (.int (n : Int)) H
def sp_dimension (C : Addr) : Sp := fun vs0 H Q _ => ∃ (x : Addr) (n : Nat) (B : List Nat), vs0 = [.ref x] ∧ RoomAt C H x n B ∧ Q (.int ((B.length : Nat) : Int)) H
def sp_basis (C : Addr) : Sp := fun vs0 H Q _ => ∃ (x : Addr) (n : Nat) (B : List Nat), vs0 = [.ref x] ∧ RoomAt C H x n B ∧ ∀ (H' : Hp) (p : Addr), Same H H' → H p = none → H' p = some (.lst (vs B)) → Q (.ref p) H'
def sp_has (C : Addr) : Sp := fun vs0 H Q _ => ∃ (x : Addr) (n : Nat) (B : List Nat) (m : Nat), vs0 = [.ref x, .int (m : Int)] ∧ RoomAt C H x n B ∧ m < 2 ^ n ∧ Q (.bl (decide (restOf m B = 0))) H
def sp_words (C : Addr) : Sp := fun vs0 H Q _ => ∃ (x : Addr) (n : Nat) (B : List Nat), vs0 = [.ref x] ∧ RoomAt C H x n B ∧ B.length ≤ 8 ∧
  ∀ (H' : Hp) (p : Addr) (L : List Nat), Same H H' → H p = none → H' p = some (.lst (vs L)) → L.Perm (sumsOf B) → L.Pairwise (· ≤ ·) → Q (.ref p) H'
def sp_eq (K : PySem.W.Frag) (C : Addr) : Sp := fun vs0 H Q _ => ∃ (x : Addr) (n : Nat) (B : List Nat) (y : V), vs0 = [.ref x, y] ∧ RoomAt C H x n B ∧
  ((∃ (z : Addr) (m : Nat) (D : List Nat), y = .ref z ∧ RoomAt C H z m D ∧ Q (.bl (decide (n = m ∧ B = D))) H) ∨ (∃ t, TyX K H y t ∧ PySem.W.kitOne K t (.ref C) = some false ∧ Q (.bl false) H))
def sp_repr (C : Addr) (g : List Code) : Sp := fun vs0 H Q _ => ∃ (x dx b : Addr) (n : Nat) (B : List Nat), vs0 = [.ref x] ∧ H x = some (.ins C dx (rf n b)) ∧ H b = some (.lst (vs B)) ∧ 1 ≤ n ∧ n ≤ 24 ∧ (∀ c ∈ B, c < 2 ^ n) ∧ B.length ≤ 100 ∧ Clear g b ∧ Q (.str (roomText n B)) H
def sp_pot (K : PySem.W.Frag) : Sp := fun vs0 H Q _ => ∃ (a : Addr) (ns : List Int) (k : Nat), vs0 = [.ref a, .int (k : Int)] ∧ SqL K H a (ns.map V.int) ∧ k < 1000 ∧
  ∀ H' p, Same H H' → H p = none → Pot H' p → Q (.ref p) H'
def sp_draw : Sp := fun vs0 H Q _ => ∃ (p : Addr) (n : Nat), vs0 = [.ref p, .int (n : Int)] ∧ Pot H p ∧ 0 < n ∧ n < 1073741824 ∧
  ∀ (H' : Hp) (d : Nat), But p H H' → Pot H' p → d < n → Q (.int (d : Int)) H'
def sp_weight : Sp := fun vs H Q _ => ∃ m : Nat, vs = [.int m] ∧ m < 2 ^ 24 ∧ Q (.int (pc m : Nat)) H
def sp_are_spots : Sp := fun vs0 H Q _ => ∃ (a : Addr) (l : List Nat) (N : Nat), vs0 = [.int (N : Int), .ref a] ∧ Sq H a (vs l) ∧ l.Nodup ∧ (∀ i ∈ l, i < N) ∧ l.length ≤ 24 ∧ ∀ H', Same H H' → Q (.bl true) H'
def sp_word_of : Sp := fun vs0 H Q _ => ∃ (a : Addr) (l : List Nat), vs0 = [.ref a] ∧ Sq H a (vs l) ∧ l.Nodup ∧ (∀ i ∈ l, i < 24) ∧ l.length ≤ 24 ∧ ∀ H', Same H H' → Q (.int (((l.map (2 ^ ·)).sum : Nat) : Int)) H'
variable {W : Wd}
/-! ### what they mean -/
section
variable {C : Addr} {K : PySem.W.Frag} {n m : Nat} {B ws l : List Nat}
theorem room_at {v : V} {H : Hp} (h : (dRoom C n B : Dn W).ok v H) : ∃ a, v = .ref a ∧ RoomAt C H a n B := by
  obtain ⟨a, dx, b, e, _, _, h1, h2, f⟩ := h
  exact ⟨a, e, dx, b, h1, h2, f.pl, f.n1, f.n24, f.lt⟩
theorem made_keep {H1 : Hp} {x dx : Addr} (hx : H1 x = none) (hdx : H1 dx = none) : Same H1 (upd (upd H1 dx (.own x)) x (.ins C dx [])) := fun b o e => by
  rw [upd_ne (ne_of_none e hx), upd_ne (ne_of_none e hdx)]
  exact e
theorem made_sq {H1 : Hp} {x dx a : Addr} {xs : List V} (hS : Sq H1 a xs) (hx : H1 x = none) (hdx : H1 dx = none) : Sq (upd (upd H1 dx (.own x)) x (.ins C dx [])) a xs := hS.imp (made_keep hx hdx _ _) (made_keep hx hdx _ _)
theorem made {H1 H2 : Hp} {x dx : Addr} {n : Nat} {B : List Nat} (hx : H1 x = none) (hdx : H1 dx = none) (b2 : But x (upd (upd H1 dx (.own x)) x (.ins C dx [])) H2) (rm : RoomNew C (upd (upd H1 dx (.own x)) x (.ins C dx [])) H2 x n B) :
    Same H1 H2 ∧ RoomNew C H1 H2 x n B := by
  refine ⟨fun b o e => b2 _ _ (ne_of_none e hx) (made_keep hx hdx b o e), ?_⟩
  obtain ⟨d, b, e1, e2, r1, r2, r3, r4, n0⟩ := rm
  refine ⟨d, b, e1, e2, r1, r2, r3, r4, ?_⟩
  cases k : H1 b with
  | none => rfl
  | some o =>
    rw [made_keep (C := C) hx hdx b o k] at n0
    cases n0
theorem RoomNew.dn {H0 H : Hp} {a : Addr} {n : Nat} {B : List Nat} (h : RoomNew C H0 H a n B) (iv : W.inv H0) (l : W.L H0 H) (na : H0 a = none) : (dRoom C n B : Dn W).ok (.ref a) H := by
  obtain ⟨dx, b, e1, e2, r1, r2, r3, r4, n0⟩ := h
  exact ⟨a, dx, b, rfl, W.fresh iv na, W.fresh iv n0, e1, e2, r1, r2, r3, r4⟩
/-- Room(n, ws) -/
theorem bas_of {ws B : List Nat} (pl : Plain B) (sp : ∀ v, span B v ↔ span ws v) : B = bas ws := bas_uniq pl sp
theorem mk_run {H1 : Hp} {a : Addr} {Q : VK} (h1 : 1 ≤ n) (h24 : n ≤ 24) (hw : ∀ v ∈ ws, v < 2 ^ n) (hl : ws.length ≤ 48) (iv : W.inv H1) (eA : Sq H1 a (vs ws)) (q : ∀ v H', W.L H1 H' → (dRoom C n (bas ws) : Dn W).ok v H' → Q v H') :
    ∀ x dx, H1 x = none → H1 dx = none → dx ≠ x → sp_init C [.ref x, .int (n : Int), .ref a] (upd (upd H1 dx (.own x)) x (.ins C dx [])) (fun v H2 => v = .non ∧ Q (.ref x) H2) E0 := by
  intro x dx hx hdx _
  refine ⟨x, dx, n, a, ws, rfl, upd_same, made_sq eA hx hdx, h1, h24, hw, hl, fun H' B b rm sp _ => ⟨rfl, ?_⟩⟩
  obtain ⟨sm, rm2⟩ := made hx hdx b rm
  have pl : Plain B := by
    obtain ⟨_, _, _, _, p, _⟩ := rm
    exact p
  have e := bas_of pl sp
  subst e
  exact q _ _ (W.same sm) (rm2.dn iv (W.same sm) hx)
theorem ev_makeG {Ds : EnvT W} {t : TA} {dl : Dn W} (h1 : 1 ≤ n) (h24 : n ≤ 24) (hw : ∀ v ∈ ws, v < 2 ^ n) (hl : ws.length ≤ 48) (hs : ∀ v H, dl.ok v H → ∃ a, v = .ref a ∧ Sq H a (vs ws)) (ha : AV Ds t [dN n, dl]) :
    EV Ds (tMake C (sp_init C) [] E0 t) (dRoom C n (bas ws)) := fun σ H Q iv en q =>
  ha σ H _ iv en fun xs H1 l1 o1 => by
    match xs, o1 with
    | [v, u], ⟨e1, o2, _⟩ =>
      obtain ⟨a, rfl, eA⟩ := hs _ _ o2
      rw [show v = V.int (n : Int) from e1]
      exact mk_run h1 h24 hw hl (W.step l1 iv) eA fun v H' l o => q v H' (W.trans l1 l) o
theorem sq_vs {v : V} {H : Hp} (h : (dVs ws : Dn W).ok v H) : ∃ a, v = .ref a ∧ Sq H a (vs ws) := by
  obtain ⟨a, e, _, h⟩ := h
  exact ⟨a, e, .inl h⟩
theorem ev_make {Ds : EnvT W} {t : TA} (h1 : 1 ≤ n) (h24 : n ≤ 24) (hw : ∀ v ∈ ws, v < 2 ^ n) (hl : ws.length ≤ 48) (ha : AV Ds t [dN n, dVs ws]) : EV Ds (tMake C (sp_init C) [] E0 t) (dRoom C n (bas ws)) :=
  ev_makeG h1 h24 hw hl (fun _ _ => sq_vs) ha
/-! properties, methods -/
section
variable {Ds : EnvT W} {te ta tb : TE} {t tk : TA} {d : Dn W} {ds : List (Dn W)}
theorem ev_prop {sp : Sp} (h : SpD sp [] [dRoom C n B] d) (ha : EV Ds te (dRoom C n B)) : EV Ds (tProp C sp [] E0 te) d := fun σ H Q iv en q =>
  ha σ H _ iv en fun v H1 l1 o1 => by
    obtain ⟨a, dx, b, e, g1, g2, h1, h2, f⟩ := id o1
    subst e
    refine ⟨a, dx, _, rfl, h1, ?_⟩
    exact h [.ref a] H1 Q (W.step l1 iv) ⟨o1, trivial⟩ fun v H' l o => q v H' (W.trans l1 l) o
theorem ev_meth {m : Str} {sp : Sp} (hm : ∀ n b, (rf n b).lookup m = none) (h : SpD sp [] (dRoom C n B :: ds) d) (ha : EV Ds te (dRoom C n B)) (ht : AV Ds t ds) : EV Ds (tMeth C m sp [] E0 te t) d := fun σ H Q iv en q =>
  ha σ H _ iv en fun v H1 l1 o1 => by
    obtain ⟨a, dx, b, e, g1, g2, h1, h2, f⟩ := id o1
    subst e
    refine ⟨a, dx, _, rfl, h1, hm n b, ?_⟩
    refine ht σ H1 _ (W.step l1 iv) (en.st l1) fun vs H2 l2 o2 => ?_
    have := h (.ref a :: vs) H2 Q (W.step l2 (W.step l1 iv)) ⟨(dRoom C n B).st l2 o1, o2⟩ fun v H' l o => q v H' (W.trans l1 (W.trans l2 l)) o
    exact this
theorem sd_places : SpD (sp_places C) [] [(dRoom C n B : Dn W)] (dN n) := fun vs H Q iv o q => by
  match vs, o with
  | [v], ⟨o, _⟩ =>
    obtain ⟨a, rfl, r⟩ := room_at o
    exact ⟨a, n, B, rfl, r, q _ H (W.refl H) rfl⟩
theorem sd_dimension : SpD (sp_dimension C) [] [(dRoom C n B : Dn W)] (dN B.length) := fun vs H Q iv o q => by
  match vs, o with
  | [v], ⟨o, _⟩ =>
    obtain ⟨a, rfl, r⟩ := room_at o
    exact ⟨a, n, B, rfl, r, q _ H (W.refl H) rfl⟩
theorem sd_basis : SpD (sp_basis C) [] [(dRoom C n B : Dn W)] (dVs B) := fun vs H Q iv o q => by
  match vs, o with
  | [v], ⟨o, _⟩ =>
    obtain ⟨a, rfl, r⟩ := room_at o
    exact ⟨a, n, B, rfl, r, fun H' p s np e => q _ H' (W.same s) ⟨p, rfl, W.fresh iv np, e⟩⟩
theorem sd_has (h : m < 2 ^ n) : SpD (sp_has C) [] [(dRoom C n B : Dn W), dN m] (dB (decide (restOf m B = 0))) := fun vs H Q iv o q => by
  match vs, o with
  | [v, u], ⟨o, e, _⟩ =>
    obtain ⟨a, rfl, r⟩ := room_at o
    rw [show u = V.int (m : Int) from e]
    exact ⟨a, n, B, m, rfl, r, h, q _ H (W.refl H) rfl⟩
/-- the words of a room, sorted -/
noncomputable def wordsOf (B : List Nat) : List Nat := ((sumsOf B).mergeSort fun a b => decide (a ≤ b))
theorem sort_ok (M : List Nat) : (M.mergeSort fun a b => decide (a ≤ b)).Perm M ∧ (M.mergeSort fun a b => decide (a ≤ b)).Pairwise (· ≤ ·) := by
  refine ⟨List.mergeSort_perm M _, ?_⟩
  have h := List.pairwise_mergeSort (le := fun a b : Nat => decide (a ≤ b)) (fun a b c h1 h2 => decide_eq_true (Nat.le_trans (of_decide_eq_true h1) (of_decide_eq_true h2))) (fun a b => by
    rcases Nat.le_total a b with h | h
    · rw [decide_eq_true h, Bool.true_or]
    · rw [decide_eq_true h, Bool.or_true]) M
  exact h.imp fun h => of_decide_eq_true h
theorem sort_uniq {L M : List Nat} (p : L.Perm M) (o : L.Pairwise (· ≤ ·)) : L = M.mergeSort fun a b => decide (a ≤ b) :=
  List.Perm.eq_of_pairwise (fun a b _ _ h1 h2 => Nat.le_antisymm h1 h2) o (sort_ok M).2 (p.trans (sort_ok M).1.symm)
/-! comparisons -/
/-! isinstance(x, Room) -/
theorem cd_isRoom (R : RKn K C) : CrD (W := W) (rIsi K) [dRoom C n B, dV (.ref C)] (dB true) := fun vs H Q iv o q => by
  match vs, o with
  | [v, u], ⟨o, e, _⟩ =>
    obtain ⟨a, dx, b, e1, _, _, h1, _, _⟩ := o
    subst e1
    rw [show u = V.ref C from e]
    exact ⟨.ref a, .ref C, .ref C, .ref C, true, rfl, .own C, .base (.ins h1 R.cl R.ca R.cn R.ct R.cm), if_pos (beq_self_eq_true _), q _ H (W.refl H) rfl⟩
end
/-! the law's own -/
section
variable {p : Addr} {k : Nat}
theorem sd_draw (hp : IsPot W p) (h1 : 0 < n) (h2 : n < 1073741824) : SpD (W := W) sp_draw [] [dV (.ref p), dN n] (dEx (fun d => d < n) dN) := fun vs H Q iv o q => by
  match vs, o with
  | [v, u], ⟨e1, e2, _⟩ =>
    rw [show v = V.ref p from e1, show u = V.int (n : Int) from e2]
    exact ⟨p, n, rfl, hp.has iv, h1, h2, fun H' d b hP hd => q _ H' (hp.put b hP) ⟨d, hd, rfl⟩⟩
/-- all words of the room that ws make, sorted -/
def SpanL (ws L : List Nat) : Prop := (∀ v, v ∈ L ↔ span ws v) ∧ L.Pairwise (· < ·)
theorem plain_len24 (f : RoomF n B) : B.length ≤ 24 := Nat.le_trans (plain_len f.pl f.lt) f.n24
end
end
end Vf
set_option Elab.async false
set_option linter.all false
set_option maxRecDepth 100000
set_option maxHeartbeats 4000000
set_option pp.maxSteps 400
namespace Vf
open PySem PySem.Spec PyProof.Rows L2
variable {W : Wd}
section
variable {Ds Es Fs : EnvT W} {d d1 d2 d3 : Dn W} {ds : List (Dn W)} {te ta tb tl : TE} {t tr tk : TA} {tt t1 t2 : TT} {b b1 b2 : Bool} {i j : Nat} {K : PySem.W.Frag} {n : Nat}
/-! ### comprehensions -/
theorem env_lc {σ : L2.St} {H : Hp} {x : V} {dx : Dn W} (ok : dx.ok x H) (en : EnvL Ds σ H) : EnvL (Ds.set i (some dx)) ((wipe σ [i]).set i (some x)) H := by
  unfold wipe wipe
  rw [List.set_set]
  exact EnvL.set ok en
theorem wipe_lc {σ : L2.St} {x : V} : wipe ((wipe σ [i]).set i (some x)) [i] = wipe σ [i] := by
  show ((σ.set i none).set i (some x)).set i none = σ.set i none
  rw [List.set_set, List.set_set]
theorem ev_lc {xs : List V} {p : V → Bool} {g : V → V} (hl : EV Ds tl (dLst xs)) (hz : xs.length ≤ 100000) (ht : ∀ x ∈ xs, TV (Ds.set i (some (dV x))) tt (p x))
    (hb : ∀ x ∈ xs, p x = true → EV (Ds.set i (some (dV x))) te (dV (g x))) : EV Ds (tLc (iList K tl) (gName i) tt te [i]) (dLst ((xs.filter p).map g)) := fun σ H Q iv en q =>
  hl σ H _ iv en fun v H1 l1 ⟨a, e, ga, h⟩ => by
    subst e
    have iv1 := W.step l1 iv
    refine ⟨a, rfl, ⟨xs, .inl (.inl h)⟩, fun D nD => ?_⟩
    refine lc_list (K := K) (a := a) (xs := xs) (fun k H' => W.L H1 H' ∧ H' D = some (.lst (((xs.take k).filter p).map g))) ⟨W.put iv1 (W.refl H1) nD, upd_same⟩ (fun k H' _ hP => .inl (.inl (W.keep ga hP.1 h))) (fun k x H' hx hP => ?_)
      fun H' hP => q _ H' (W.trans l1 hP.1) ⟨D, rfl, W.fresh iv1 nD, by rw [hP.2, List.take_length]⟩
    obtain ⟨lP, eD⟩ := hP
    have xm := List.mem_of_getElem? hx
    have en' : EnvL (Ds.set i (some (dV x))) ((wipe σ [i]).set i (some x)) H' := env_lc rfl (en.st (W.trans l1 lP))
    have tk : (xs.take (k + 1)).filter p = (xs.take k).filter p ++ [x].filter p := by
      rw [List.take_add_one, hx, List.filter_append]
      rfl
    refine ⟨wipe_lc, ?_⟩
    refine ht x xm _ H' _ (W.step lP iv1) en' fun H2 l2 => ?_
    cases hp : p x with
    | true =>
      refine (if_pos rfl).mpr (hb x xm hp _ H2 _ (W.step l2 (W.step lP iv1)) (en'.st l2) fun y H3 l3 o3 => ?_)
      have eD3 := W.keep (W.fresh iv1 nD) l3 (W.keep (W.fresh iv1 nD) l2 eD)
      refine ⟨_, eD3, ?_, W.put iv1 (W.trans lP (W.trans l2 l3)) nD, ?_⟩
      · rw [List.length_map]
        refine sl_lt (Nat.le_trans (List.length_filter_le _ _) ?_)
        rw [List.length_take]
        omega
      · rw [upd_same, tk, List.map_append, (show y = g x from o3), List.filter_cons_of_pos hp]
        rfl
    | false =>
      refine (if_neg Bool.false_ne_true).mpr ⟨W.trans lP l2, ?_⟩
      rw [tk, List.filter_cons_of_neg (by simp [hp]), List.filter_nil, List.append_nil]
      exact W.keep (W.fresh iv1 nD) l2 eD
/-- a tuple walked -/
theorem ev_lcT {xs : List V} {p : V → Bool} {g : V → V} (hl : EV Ds tl (dTup xs)) (hz : xs.length ≤ 100000) (ht : ∀ x ∈ xs, TV (Ds.set i (some (dV x))) tt (p x))
    (hb : ∀ x ∈ xs, p x = true → EV (Ds.set i (some (dV x))) te (dV (g x))) : EV Ds (tLc (iTup K tl) (gName i) tt te [i]) (dLst ((xs.filter p).map g)) := fun σ H Q iv en q =>
  hl σ H _ iv en fun v H1 l1 ⟨a, e, ga, h⟩ => by
    subst e
    have iv1 := W.step l1 iv
    refine ⟨a, rfl, ⟨xs, .inl (.inl h)⟩, fun D nD => ?_⟩
    refine lc_tup (K := K) (a := a) (xs := xs) (fun k H' => W.L H1 H' ∧ H' D = some (.lst (((xs.take k).filter p).map g))) ⟨W.put iv1 (W.refl H1) nD, upd_same⟩ (fun k H' _ hP => .inl (.inl (W.keep ga hP.1 h))) (fun k x H' hx hP => ?_)
      fun H' hP => q _ H' (W.trans l1 hP.1) ⟨D, rfl, W.fresh iv1 nD, by rw [hP.2, List.take_length]⟩
    obtain ⟨lP, eD⟩ := hP
    have xm := List.mem_of_getElem? hx
    have en' : EnvL (Ds.set i (some (dV x))) ((wipe σ [i]).set i (some x)) H' := env_lc rfl (en.st (W.trans l1 lP))
    have tk : (xs.take (k + 1)).filter p = (xs.take k).filter p ++ [x].filter p := by
      rw [List.take_add_one, hx, List.filter_append]
      rfl
    refine ⟨wipe_lc, ?_⟩
    refine ht x xm _ H' _ (W.step lP iv1) en' fun H2 l2 => ?_
    cases hp : p x with
    | true =>
      refine (if_pos rfl).mpr (hb x xm hp _ H2 _ (W.step l2 (W.step lP iv1)) (en'.st l2) fun y H3 l3 o3 => ?_)
      have eD3 := W.keep (W.fresh iv1 nD) l3 (W.keep (W.fresh iv1 nD) l2 eD)
      refine ⟨_, eD3, ?_, W.put iv1 (W.trans lP (W.trans l2 l3)) nD, ?_⟩
      · rw [List.length_map]
        refine sl_lt (Nat.le_trans (List.length_filter_le _ _) ?_)
        rw [List.length_take]
        omega
      · rw [upd_same, tk, List.map_append, (show y = g x from o3), List.filter_cons_of_pos hp]
        rfl
    | false =>
      refine (if_neg Bool.false_ne_true).mpr ⟨W.trans lP l2, ?_⟩
      rw [tk, List.filter_cons_of_neg (by simp [hp]), List.filter_nil, List.append_nil]
      exact W.keep (W.fresh iv1 nD) l2 eD
theorem ev_lcR {p : Nat → Bool} {g : Nat → V} (hl : AV Ds t [dN n]) (hz : n ≤ 100000) (ht : ∀ x < n, TV (Ds.set i (some (dN x))) tt (p x))
    (hb : ∀ x < n, p x = true → EV (Ds.set i (some (dN x))) te (dV (g x))) : EV Ds (tLc (iRng1 t) (gName i) tt te [i]) (dLst (((List.range n).filter p).map g)) := fun σ H Q iv en q =>
  hl σ H _ iv en fun vs H1 l1 o1 => by
    match vs, o1 with
    | [v], ⟨o1, _⟩ =>
      have iv1 := W.step l1 iv
      refine ⟨(n : Int), by rw [show v = V.int (n : Int) from o1], by omega, by omega, fun D nD => ?_⟩
      refine lc_range (lo := 0) (n := (n : Int).toNat) (fun k H' => W.L H1 H' ∧ H' D = some (.lst (((List.range k).filter p).map g))) ⟨W.put iv1 (W.refl H1) nD, upd_same⟩ (fun k H' hk hP => ?_)
        fun H' hP => q _ H' (W.trans l1 hP.1) ⟨D, rfl, W.fresh iv1 nD, by rw [hP.2, Int.toNat_natCast]⟩
      obtain ⟨lP, eD⟩ := hP
      rw [Int.toNat_natCast] at hk
      have en' : EnvL (Ds.set i (some (dN k))) ((wipe σ [i]).set i (some (.int (0 + (k : Int))))) H' := env_lc (show V.int (0 + (k : Int)) = V.int (k : Int) by rw [Int.zero_add]) (en.st (W.trans l1 lP))
      have tk : (List.range (k + 1)).filter p = (List.range k).filter p ++ [k].filter p := by
        rw [List.range_succ, List.filter_append]
      refine ⟨wipe_lc, ?_⟩
      refine ht k hk _ H' _ (W.step lP iv1) en' fun H2 l2 => ?_
      cases hp : p k with
      | true =>
        refine (if_pos rfl).mpr (hb k hk hp _ H2 _ (W.step l2 (W.step lP iv1)) (en'.st l2) fun y H3 l3 o3 => ?_)
        have eD3 := W.keep (W.fresh iv1 nD) l3 (W.keep (W.fresh iv1 nD) l2 eD)
        refine ⟨_, eD3, ?_, W.put iv1 (W.trans lP (W.trans l2 l3)) nD, ?_⟩
        · rw [List.length_map]
          refine sl_lt (Nat.le_trans (List.length_filter_le _ _) ?_)
          rw [List.length_range]
          omega
        · rw [upd_same, tk, List.map_append, (show y = g k from o3), List.filter_cons_of_pos hp]
          rfl
      | false =>
        refine (if_neg Bool.false_ne_true).mpr ⟨W.trans lP l2, ?_⟩
        rw [tk, List.filter_cons_of_neg (by simp [hp]), List.filter_nil, List.append_nil]
        exact W.keep (W.fresh iv1 nD) l2 eD
/-! special kinds: numbers over numbers -/
def nOf : V → Nat
  | .int i => i.toNat
  | _ => 0
theorem filt_vs (l : List Nat) (p : Nat → Bool) : (vs l).filter (fun x => p (nOf x)) = vs (l.filter p) := by
  unfold vs
  rw [List.filter_map]
  rfl
theorem ev_lcN {l : List Nat} {p : Nat → Bool} {g : Nat → V} (hl : EV Ds tl (dVs l)) (hz : l.length ≤ 100000) (ht : ∀ x ∈ l, TV (Ds.set i (some (dN x))) tt (p x))
    (hb : ∀ x ∈ l, p x = true → EV (Ds.set i (some (dN x))) te (dV (g x))) : EV Ds (tLc (iList K tl) (gName i) tt te [i]) (dLst ((l.filter p).map g)) := by
  have h := ev_lc (K := K) (i := i) (tt := tt) (te := te) (p := fun x => p (nOf x)) (g := fun x => g (nOf x)) hl (by rw [len_vs]; exact hz) (fun x hx => by
    obtain ⟨c, hc, rfl⟩ := List.mem_map.mp hx
    exact ht c hc) fun x hx hp => by
    obtain ⟨c, hc, rfl⟩ := List.mem_map.mp hx
    exact hb c hc hp
  rw [filt_vs] at h
  unfold vs at h
  rw [List.map_map] at h
  exact h
theorem filt_true {α : Type} (l : List α) : l.filter (fun _ => true) = l := List.filter_eq_self.mpr fun _ _ => rfl
/-- [f(x) for x in l] -/
theorem ev_lcM {l : List Nat} {g : Nat → Nat} (hl : EV Ds tl (dVs l)) (hz : l.length ≤ 100000) (hb : ∀ x ∈ l, EV (Ds.set i (some (dN x))) te (dN (g x))) : EV Ds (tLc (iList K tl) (gName i) tYes te [i]) (dVs (l.map g)) := by
  have h := ev_lcN (K := K) (i := i) (tt := tYes) (te := te) (p := fun _ => true) (g := fun x => .int (g x : Int)) hl hz (fun x hx => tv_yes) fun x hx _ => hb x hx
  rw [filt_true] at h
  unfold dVs vs
  rw [List.map_map]
  exact h
/-- [test of x for x in l] -/
theorem ev_lcB {l : List Nat} {g : Nat → Bool} (hl : EV Ds tl (dVs l)) (hz : l.length ≤ 100000) (hb : ∀ x ∈ l, EV (Ds.set i (some (dN x))) te (dB (g x))) : EV Ds (tLc (iList K tl) (gName i) tYes te [i]) (dBs (l.map g)) := by
  have h := ev_lcN (K := K) (i := i) (tt := tYes) (te := te) (p := fun _ => true) (g := fun x => .bl (g x)) hl hz (fun x hx => tv_yes) fun x hx _ => hb x hx
  rw [filt_true] at h
  unfold dBs
  rw [List.map_map]
  exact h
theorem ev_lcRM {g : Nat → Nat} (hl : AV Ds t [dN n]) (hz : n ≤ 100000) (hb : ∀ x < n, EV (Ds.set i (some (dN x))) te (dN (g x))) : EV Ds (tLc (iRng1 t) (gName i) tYes te [i]) (dVs ((List.range n).map g)) := by
  have h := ev_lcR (i := i) (tt := tYes) (te := te) (p := fun _ => true) (g := fun x => .int (g x : Int)) hl hz (fun x hx => tv_yes) fun x hx _ => hb x hx
  rw [filt_true] at h
  unfold dVs vs
  rw [List.map_map]
  exact h
/-! ### built-ins -/
theorem cd_len {l : List V} : CrD (W := W) (fun xs H Q => ∃ p ys, xs = [.ref p] ∧ (SqL K H p ys ∨ SqT K H p ys) ∧ Q (.int ys.length) H) [dLst l] (dN l.length) := fun vs H Q iv o q => by
  match vs, o with
  | [v], ⟨⟨p, e, g, h⟩, _⟩ =>
    subst e
    exact ⟨p, _, rfl, .inl (SqL.of h), q _ H (W.refl H) rfl⟩
theorem cd_lenN {l : List Nat} : CrD (W := W) (fun xs H Q => ∃ p ys, xs = [.ref p] ∧ (SqL K H p ys ∨ SqT K H p ys) ∧ Q (.int ys.length) H) [dVs l] (dN l.length) := fun vs H Q iv o q => cd_len vs H Q iv o (by rw [len_vs]; exact q)
theorem cd_all {l : List Bool} : CrD (W := W) (rAll K) [dBs l] (dB (l.all id)) := fun vs H Q iv o q => by
  match vs, o with
  | [v], ⟨⟨p, e, g, h⟩, _⟩ =>
    subst e
    exact ⟨p, _, rfl, SqL.of h, q _ H (W.refl H) rfl⟩
theorem sum_vs : ∀ l : List Nat, (l.map fun i : Nat => (i : Int)).sum = ((l.sum : Nat) : Int)
  | [] => rfl
  | x :: l => by
    rw [List.map_cons, List.sum_cons, List.sum_cons, sum_vs l]
    omega
theorem cd_sum {l : List Nat} : CrD (W := W) (rSum K) [dVs l] (dN l.sum) := fun vs H Q iv o q => by
  match vs, o with
  | [v], ⟨⟨p, e, g, h⟩, _⟩ =>
    subst e
    exact ⟨p, (l.map fun i : Nat => (i : Int)), rfl, SqL.of (by rw [h, vs_int]), q _ H (W.refl H) (by rw [sum_vs]; rfl)⟩
def sortN (l : List Nat) : List Nat := l.mergeSort fun a b => decide (a ≤ b)
theorem cd_sorted {l : List Nat} : CrD (W := W) (rSortedI K) [dVs l] (dVs (sortN l)) := fun vs H Q iv o q => by
  match vs, o with
  | [v], ⟨⟨p, e, g, h⟩, _⟩ =>
    subst e
    refine ⟨p, (l.map fun i : Nat => (i : Int)), rfl, SqL.of (by rw [h, vs_int]), fun ns' r pm od nr => ?_⟩
    obtain ⟨L, rfl, p2⟩ := back_vs pm
    have o2 : (L.map fun i : Nat => (i : Int)).Pairwise (· ≤ ·) := od
    rw [List.pairwise_map] at o2
    have o3 : L.Pairwise (· ≤ ·) := o2.imp fun h => by omega
    have e := sort_uniq p2 o3
    refine q _ _ (W.put iv (W.refl H) nr) ⟨r, rfl, W.fresh iv nr, ?_⟩
    rw [upd_same, ← vs_int, e]
    rfl
/-! ### data, for repr and comparisons -/
def DD (K : PySem.W.Frag) (d : Dn W) (e : PyData) : Prop := ∀ v H, d.ok v H → Dp K H v e
/-- what repr can tell, its text not too long -/
structure Nice (dep n : Nat) (e : PyData) : Prop where
  sh : e.showable = true
  nd : e.hasDict = false
  dp : e.depth ≤ dep
  ln : e.shown.length ≤ n
theorem nice_int {i : Int} (h : i.natAbs.log2 < 1900) : Nice 0 1921 (.int i) := by
  have sm : small (.int i) = true := decide_eq_true h
  exact ⟨(small_show sm).1, (small_show sm).2, Nat.le_refl _, small_len sm⟩
theorem nice_all {dep n : Nat} : ∀ {es : List PyData}, (∀ e ∈ es, Nice dep n e) → PyData.showableAll es = true ∧ PyData.hasDictAll es = false ∧ PyData.depthAll es ≤ dep ∧ ((PyData.shownAll es).map fun t => t.length + 2).sum ≤ es.length * (n + 2)
  | [], _ => ⟨rfl, rfl, Nat.zero_le _, Nat.zero_le _⟩
  | e :: es, h => by
    obtain ⟨a, b, c, d⟩ := nice_all (es := es) fun x hx => h x (List.mem_cons_of_mem _ hx)
    obtain ⟨h1, h2, h3, h4⟩ := h e List.mem_cons_self
    refine ⟨?_, ?_, ?_, ?_⟩
    · rw [PyData.showableAll, a, h1]
      rfl
    · rw [PyData.hasDictAll, b, h2]
      rfl
    · rw [PyData.depthAll]
      exact Nat.max_le.mpr ⟨h3, c⟩
    · rw [PyData.shownAll, List.map_cons, List.sum_cons, List.length_cons, Nat.succ_mul]
      omega
theorem nice_list {dep n : Nat} {es : List PyData} (h : ∀ e ∈ es, Nice dep n e) : Nice (dep + 1) (es.length * (n + 2) + 2) (.list es) := by
  obtain ⟨a, b, c, d⟩ := nice_all h
  refine ⟨?_, ?_, ?_, ?_⟩
  · rw [PyData.showable]
    exact a
  · rw [PyData.hasDict]
    exact b
  · rw [PyData.depth]
    omega
  · rw [PyData.shown]
    unfold listText
    rw [strLen_append]
    have h4 := text_len (PyData.shownAll es) 0 "["
    have e1 : (("[" : String) : Str).length = 1 := rfl
    have e2 : (("]" : String) : Str).length = 1 := rfl
    omega
/-! what repr tells -/
def RT (K : PySem.W.Frag) (C : Addr) (d : Dn W) (x : Str) : Prop := ∀ v H, W.inv H → d.ok v H → Tells K C (sp_repr C) H v x
theorem cd_repr {C : Addr} {x : Str} (h : RT K C d x) : CrD (W := W) (rReprA K C (sp_repr C)) [d] (dS x) := fun vs H Q iv o q => by
  match vs, o with
  | [v], ⟨o, _⟩ => exact ⟨⟨v, x, rfl, h v H iv o, q _ H (W.refl H) rfl⟩⟩
theorem rt_B {C : Addr} (b : Bool) : RT K C (dB b : Dn W) (if b then "True" else "False") := fun v H _ o => by
  rw [show v = V.bl b from o]
  exact .bl b
theorem rt_data {C : Addr} {e : PyData} {dep n : Nat} (hd : DD K d e) (hr : ∀ v H, d.ok v H → ∃ a, v = .ref a) (nc : Nice dep n e) (h1 : dep ≤ 60) (h2 : n ≤ 16000000) : RT K C d e.shown := fun v H _ o => by
  obtain ⟨a, rfl⟩ := hr v H o
  exact .data (hd _ _ o) nc.sh nc.nd (Nat.le_trans nc.dp h1) (Nat.le_trans nc.ln (Nat.le_trans h2 (by decide)))
theorem ref_Lst {l : List V} : ∀ v H, (dLst l : Dn W).ok v H → ∃ a, v = .ref a := fun v H ⟨a, e, _⟩ => ⟨a, e⟩
end
end Vf
set_option Elab.async false
set_option linter.all false
set_option maxRecDepth 100000
set_option maxHeartbeats 4000000
set_option pp.maxSteps 400
namespace Vf
open PySem PySem.Spec PyProof.Rows L2
variable {W : Wd}
/-! ### repr of rooms -/
section
variable {C : Addr} {K : PySem.W.Frag} {n : Nat} {B : List Nat}
end
/-! ### defs by what their bodies mean -/
def spW {ι : Type} (P : Wd → ι → Prop) (ds : (W : Wd) → ι → List (Dn W)) (d : (W : Wd) → ι → Dn W) : Sp := fun vs H Q _ => ∃ (W : Wd) (i : ι), P W i ∧ W.inv H ∧ OkL (ds W i) vs H ∧ ∀ v H', W.L H H' → (d W i).ok v H' → Q v H'
theorem spW_sd {ι : Type} {P : Wd → ι → Prop} {ds : (W : Wd) → ι → List (Dn W)} {d : (W : Wd) → ι → Dn W} {i : ι} (h : P W i) : SpD (spW P ds d) [] (ds W i) (d W i) := fun vs H Q iv o q => by
  rw [List.append_nil]
  exact ⟨W, i, h, iv, o, q⟩
section
variable {P : Program} {w : World} {K : PySem.W.Frag} {mg : Str → Option Value} {base : Heap} {x qual : Str} {st : Stmt} {f : Addr} {fd : FuncData} {N ps : List Str} {k : Nat}
  {ι : Type} {Pr : Wd → ι → Prop} {ds : (W : Wd) → ι → List (Dn W)} {d : (W : Wd) → ι → Dn W}
theorem fn_sv (F : Fun K x qual st f fd) (S : FnScope N ps (defScope st)) (len : ∀ W i, (ds W i).length = ps.length)
    (hb : ∀ (W : Wd) (i : ι), Pr W i → ∀ (cdv : Value) (A : Around) (outer : List Env) (s : Shared) (H : Hp) (E : XK), Room k (A.deeper (envOfC qual (defScope st) s.heap.objs.size f cdv)) →
      ∃ t, PSs (cxOf CX0 P w K mg base N qual (defScope st) f cdv A outer s H E).nox (defBody st) t ∧ SV (envOf (ds W i) (N.length - ps.length)) t (d W i)) : FnOk P w K mg base CX0 (k + 1) f fd ps (spW Pr ds d) := by
  refine F.ok S (fun vs H Q E h => ?_) (fun cdv A outer s H vs Q E hr h => ?_)
  · obtain ⟨W, i, _, _, o, _⟩ := h
    exact o.length.trans (len W i)
  · obtain ⟨W, i, p, iv, o, q⟩ := h
    obtain ⟨t, ht, sv⟩ := hb W i p cdv A outer s H E hr
    refine ⟨t, ht, sv _ _ H iv ?_ q⟩
    have l := o.length.trans (len W i)
    unfold L2.start
    rw [l]
    exact EnvL.start o
theorem fn_nv (F : Fun K x qual st f fd) (S : FnScope N ps (defScope st)) (len : ∀ W i, (ds W i).length = ps.length)
    (hb : ∀ (W : Wd) (i : ι), Pr W i → ∀ (cdv : Value) (A : Around) (outer : List Env) (s : Shared) (H : Hp) (E : XK), Room k (A.deeper (envOfC qual (defScope st) s.heap.objs.size f cdv)) →
      ∃ t, PSs (cxOf CX0 P w K mg base N qual (defScope st) f cdv A outer s H E).nox (defBody st) t ∧ ∃ Es, NV (envOf (ds W i) (N.length - ps.length)) t Es) : FnOk P w K mg base CX0 (k + 1) f fd ps (spW Pr ds fun _ _ => dV .non) := by
  refine F.ok S (fun vs H Q E h => ?_) (fun cdv A outer s H vs Q E hr h => ?_)
  · obtain ⟨W, i, _, _, o, _⟩ := h
    exact o.length.trans (len W i)
  · obtain ⟨W, i, p, iv, o, q⟩ := h
    obtain ⟨t, ht, _, sv⟩ := hb W i p cdv A outer s H E hr
    refine ⟨t, ht, sv _ _ H iv ?_ fun σ' H' l _ => q .non H' l rfl⟩
    have l := o.length.trans (len W i)
    unfold L2.start
    rw [l]
    exact EnvL.start o
theorem gn_sv (F : Fun K x qual st f fd) (S : FnScope N ps (defScope st)) (len : ∀ W i, (ds W i).length = ps.length)
    (hb : ∀ (W : Wd) (i : ι), Pr W i → ∀ (cdv : Value) (A : Around) (outer : List Env) (s : Shared) (H : Hp) (E : XK), (A.deeper (envOfC qual (defScope st) s.heap.objs.size f cdv)).guards = some [] → Room k (A.deeper (envOfC qual (defScope st) s.heap.objs.size f cdv)) →
      ∃ t, PSs (cxOf CX0 P w K mg base N qual (defScope st) f cdv A outer s H E).nox (defBody st) t ∧ SV (envOf (ds W i) (N.length - ps.length)) t (d W i)) : GnOk P w K mg base (k + 1) f fd ps (spW Pr ds d) := by
  refine gn_ok F S (fun vs H Q E h => ?_) (fun cdv A outer s H vs Q E hg hr h => ?_)
  · obtain ⟨W, i, _, _, o, _⟩ := h
    exact o.length.trans (len W i)
  · obtain ⟨W, i, p, iv, o, q⟩ := h
    obtain ⟨t, ht, sv⟩ := hb W i p cdv A outer s H E hg hr
    refine ⟨t, ht, sv _ _ H iv ?_ q⟩
    have l := o.length.trans (len W i)
    unfold L2.start
    rw [l]
    exact EnvL.start o
end
end Vf
set_option Elab.async false
set_option linter.all false
set_option maxRecDepth 100000
set_option maxHeartbeats 4000000
namespace Vf
open PySem PySem.Spec PyProof.Rows L2
section
variable {P : Program} {w : World} {K : PySem.W.Frag} {mg : Str → Option Value} {base : Heap} {C : Addr}
/-- where the loop stands -/
def PbI (H : Hp) (a : Addr) (ws : List Nat) (i : Nat) (σ : L2.St) (H' : Hp) : Prop := ∃ (b : Addr) (B : List Nat) (z z2 : Option V), σ = [some (.ref a), some (.ref b), z, z2] ∧ Same H H' ∧ H b = none ∧ H' b = some (.lst (vs B)) ∧
  Plain B ∧ (∀ v, span B v ↔ span (ws.take i) v) ∧ B.length ≤ i
theorem pot_new {H : Hp} {p : Addr} {c : Int} {y : Nat} (h : y < 2147483648) : Pot (upd H p (.lst [.int (if c > 0 then c else 0), .int (y : Int)])) p := by
  refine ⟨c.toNat, y, ?_, h⟩
  have e : (if c > 0 then c else 0) = ((c.toNat : Nat) : Int) := by
    split <;> omega
  rw [upd_same, e]
theorem RoomNew.plain {C : Addr} {H0 H : Hp} {a : Addr} {n : Nat} {B : List Nat} (h : RoomNew C H0 H a n B) : Plain B := by
  obtain ⟨_, _, _, _, p, _⟩ := h
  exact p
theorem RoomNew.at {C : Addr} {H0 H : Hp} {a : Addr} {n : Nat} {B : List Nat} (h : RoomNew C H0 H a n B) : RoomAt C H a n B := by
  obtain ⟨dx, b, e1, e2, a1, a2, a3, a4, _⟩ := h
  exact ⟨dx, b, e1, e2, a1, a2, a3, a4⟩
theorem nd_int {l : List Nat} (h : l.Nodup) : (l.map fun i : Nat => (i : Int)).Nodup := by
  unfold List.Nodup
  rw [List.pairwise_map]
  exact h.imp fun n z => n (by omega)
theorem sum_cast : ∀ l : List Nat, (l.map fun i : Nat => ((2 ^ i : Nat) : Int)).sum = (((l.map (2 ^ ·)).sum : Nat) : Int)
  | [] => rfl
  | x :: l => by
    rw [List.map_cons, List.sum_cons, sum_cast l, List.map_cons, List.sum_cons]
    omega
end
/-! ### more helps -/
abbrev kw2 : List V → List V → List V := fun _ zs => zs.reverse
theorem lt64 {n c : Nat} (h : n ≤ 24) (k : c < 2 ^ n) : c < 2 ^ 64 := Nat.lt_of_lt_of_le k (Nat.pow_le_pow_right (by decide) (by omega))
theorem pw_lt {n : Nat} (h : n ≤ 24) : 2 ^ n < 1073741824 := Nat.lt_of_le_of_lt (Nat.pow_le_pow_right (by decide) h) (by decide)
theorem pw_le {n m : Nat} (h : n ≤ m) : 2 ^ n ≤ 2 ^ m := Nat.pow_le_pow_right (by decide) h
variable {W : Wd}
section
variable {Ds : EnvT W} {d d1 d2 d3 : Dn W} {te : TE} {tt : TT} {b : Bool} {t tk : TA}
theorem ev_t (h : EV Ds te (dB b)) (e : b = true) : EV Ds te (dB true) := e ▸ h
theorem tv_f (h : TV Ds tt b) (e : b = false) : TV Ds tt false := e ▸ h
theorem tv_t (h : TV Ds tt b) (e : b = true) : TV Ds tt true := e ▸ h
theorem tv_nf (h : TV Ds tt true) : TV Ds (tNot tt) false := tv_not h
theorem ev_kw2 {sp : Sp} (h : SpD sp [] [d1, d2] d) (ha : AV Ds tk [d2, d1]) : EV Ds (fun σ H Q => tk σ H fun zs H1 => zs.length = 2 ∧ sp (kw2 [] zs) H1 Q E0) d := ev_callKw h (fun vs H o => by
  match vs, o with
  | [x, y], ⟨o1, o2, _⟩ => exact ⟨o2, o1, trivial⟩) rfl ha
end
end Vf
set_option Elab.async false
set_option linter.all false
set_option maxRecDepth 100000
set_option maxHeartbeats 4000000
namespace Vf
open PySem PySem.Spec PyProof.Rows L2
variable {W : Wd}
section
variable {Ds : EnvT W} {d d1 d2 d3 : Dn W} {te ta tb : TE} {tt : TT} {b : Bool} {t tk : TA} {ι : Type} {P : ι → Prop} {f : ι → Bool}
/-- a & ~b -/
theorem sub_mask (a : Nat) : ∀ b : Nat, (a &&& b) + (a ^^^ (a &&& b)) = a := by
  induction a using Nat.strongRecOn with
  | ind a ih =>
    intro b
    by_cases h0 : a = 0
    · subst h0
      rw [Nat.zero_and]
      rfl
    · have h := ih (a / 2) (by omega) (b / 2)
      have e1 : (a &&& b) / 2 = a / 2 &&& b / 2 := Nat.and_div_two
      have e2 : (a ^^^ (a &&& b)) / 2 = a / 2 ^^^ ((a &&& b) / 2) := Nat.xor_div_two
      rw [← e1, ← e2] at h
      have m1 : (a ^^^ (a &&& b)) % 2 = 1 ↔ ¬(a % 2 = 1 ↔ (a &&& b) % 2 = 1) := Nat.xor_mod_two_eq_one
      have m2 : (a &&& b) % 2 = 1 ↔ a % 2 = 1 ∧ b % 2 = 1 := Nat.and_mod_two_eq_one
      rcases Nat.mod_two_eq_zero_or_one a with k | k <;> rcases Nat.mod_two_eq_zero_or_one b with l | l <;> omega
end
/-! ### the law -/
theorem vals_rev : ∀ {xs : List V} {us : List Value}, Vals xs us → Vals xs.reverse us.reverse
  | [], _, .nil => .nil
  | x :: xs, u :: us, .cons r t => by
    rw [List.reverse_cons, List.reverse_cons]
    exact (vals_rev t).append (.cons r .nil)
def sp_law (K : PySem.W.Frag) : Sp := fun vs0 H Q _ => ∃ (a : Addr) (ns : List Int), vs0 = [.ref a] ∧ SqL K H a (ns.map V.int) ∧ ∀ H', Q (.bl true) H'
/-- a law's one cell -/
def sp_right : Sp := spW (ι := Addr) (fun W p => IsPot W p) (fun _ p => [dV (.ref p)]) fun _ _ => dB true
/-! ### the promises of the rooms made of rooms -/
section
variable {C : Addr} {n m : Nat} {A B ws : List Nat}
def sp_check_room (C : Addr) : Sp := spW (ι := Nat × List Nat) (fun _ _ => True) (fun _ i => [dRoom C i.1 i.2]) fun _ _ => dV .non
theorem sd_check_room : SpD (sp_check_room C) [] [(dRoom C n B : Dn W)] (dV .non) := spW_sd (i := (n, B)) trivial
/-- of so many places, what is off above -/
noncomputable def lowB (n : Nat) (ws : List Nat) : List Nat := (bas ws).filter fun w => decide (w < 2 ^ n)
theorem lowB_plain (n : Nat) (ws : List Nat) : Plain (lowB n ws) := plain_sub List.filter_sublist (bas_plain ws)
theorem lowB_lt {n : Nat} {ws : List Nat} : ∀ c ∈ lowB n ws, c < 2 ^ n := fun c hc => of_decide_eq_true (List.mem_filter.mp hc).2
theorem bas_lowB (n : Nat) (ws : List Nat) : bas (lowB n ws) = lowB n ws := bas_self (lowB_plain n ws)
def comB (n : Nat) (A B : List Nat) : List Nat := (A.map fun w => (w <<< n) ||| w) ++ B.map fun w => w <<< n
theorem comB_span (hA : ∀ a ∈ A, a < 2 ^ n) (v : Nat) : span (lowB n (comB n A B)) v ↔ span A v ∧ span B v := common_span hA v
end
end Vf
namespace Vf
open PySem PySem.Spec PyProof.Rows L2
variable {W : Wd}
section
variable {C : Addr} {n m : Nat} {A B ws : List Nat}
end
section
variable {Ds Es Fs : EnvT W} {ts tu : TS} {tl : TE} {i : Nat} {d : Dn W}
end
end Vf
set_option Elab.async false
set_option linter.all false
set_option maxRecDepth 100000
set_option maxHeartbeats 4000000
namespace Vf
/-! ### helps for the laws' rooms -/
theorem nd_t {p : Prop} [Decidable p] (h : p) : (!decide p) = false := by rw [decide_eq_true h]; rfl
theorem d_t {p : Prop} [Decidable p] (h : p) : decide p = true := decide_eq_true h
theorem SpanL.pos {ws L : List Nat} (h : SpanL ws L) : 0 < L.length := List.length_pos_of_mem ((h.1 0).mpr (span_zero ws))
theorem SpanL.len {ws L : List Nat} (h : SpanL ws L) : L.length = 2 ^ (bas ws).length := by
  obtain ⟨m1, n1, l1⟩ := sums_ok (bas_plain ws).1
  rw [← l1]
  exact len_same (h.2.imp fun k => Nat.ne_of_lt k) n1 fun x => by rw [h.1, m1, bas_span]
theorem plain_ex2 : ∀ ws : List Nat, ∃ B, Plain B ∧ (∀ v, span B v ↔ span ws v) ∧ B.length ≤ ws.length
  | [] => ⟨[], plain_nil, fun _ => Iff.rfl, Nat.le_refl _⟩
  | w :: ws => by
    obtain ⟨B, pl, sp, ln⟩ := plain_ex2 ws
    have e : ∀ v, span (restOf w B :: B) v ↔ span (w :: ws) v := fun v => by
      rw [rest_room pl.1, span_cons, span_cons, sp, sp]
    by_cases r0 : restOf w B = 0
    · refine ⟨B, pl, fun v => ?_, Nat.le_succ_of_le ln⟩
      rw [← e v, r0]
      exact ⟨span_sub fun x hx => span_mem (List.mem_cons_of_mem _ hx), span_sub fun x hx => (List.mem_cons.mp hx).elim (fun e => by rw [e]; exact span_zero B) span_mem⟩
    · obtain ⟨D, pm, ge⟩ := sort_desc (B.map (clear1 (restOf w B)) ++ [restOf w B])
      have pD := piv_perm pm.symm (put_piv pl.1 r0 fun x hx => rest_off pl.1 w hx)
      refine ⟨D, ⟨pD, ge_gt pD ge⟩, fun v => by rw [span_perm pm v, put_span, e v], ?_⟩
      rw [pm.length_eq, List.length_append, List.length_map]
      exact Nat.succ_le_succ ln
theorem bas_len (ws : List Nat) : (bas ws).length ≤ ws.length := by
  obtain ⟨B, pl, sp, ln⟩ := plain_ex2 ws
  rw [← bas_of pl sp]
  exact ln
theorem SpanL.le {ws L : List Nat} (h : SpanL ws L) (k : ws.length ≤ 8) : L.length ≤ 256 := by
  rw [h.len]
  exact Nat.le_trans (Nat.pow_le_pow_right (by decide) (Nat.le_trans (bas_len ws) k)) (by decide)
theorem SpanL.congr {ws us L : List Nat} (h : SpanL ws L) (k : ∀ v, span ws v ↔ span us v) : SpanL us L := ⟨fun v => (h.1 v).trans (k v), h.2⟩
theorem span_left {A B : List Nat} {v : Nat} (h : span A v) : span (A ++ B) v := span_sub (fun w hw => span_mem (List.mem_append_left _ hw)) h
theorem span_right {A B : List Nat} {v : Nat} (h : span B v) : span (A ++ B) v := span_sub (fun w hw => span_mem (List.mem_append_right _ hw)) h
/-- a sum within a room -/
theorem span_app_sub {A B D : List Nat} (hA : ∀ v, span A v → span D v) (hB : ∀ v, span B v → span D v) {v : Nat} (h : span (A ++ B) v) : span D v := by
  obtain ⟨a, b, ha, hb, rfl⟩ := span_append.mp h
  exact span_xor (hA a ha) (hB b hb)
theorem span_emp (v : Nat) : span [] v ↔ v = 0 := ⟨span_nil, fun h => h ▸ span_zero []⟩
/-- all words of n places -/
theorem span_units (n v : Nat) : span ((List.range n).map (2 ^ ·)) v ↔ v < 2 ^ n := by
  constructor
  · refine span_lt fun w hw => ?_
    obtain ⟨i, hi, rfl⟩ := List.mem_map.mp hw
    exact Nat.pow_lt_pow_right (by decide) (List.mem_range.mp hi)
  · intro h
    induction n generalizing v with
    | zero =>
      have : v = 0 := by simpa using h
      rw [this]
      exact span_zero _
    | succ n ih =>
      have up : ∀ w, span ((List.range n).map (2 ^ ·)) w → span ((List.range (n + 1)).map (2 ^ ·)) w := fun w => span_sub fun u hu => by
        obtain ⟨i, hi, rfl⟩ := List.mem_map.mp hu
        exact span_mem (List.mem_map_of_mem (List.mem_range.mpr (Nat.lt_succ_of_lt (List.mem_range.mp hi))))
      by_cases k : v < 2 ^ n
      · exact up v (ih v k)
      · have hm : span ((List.range (n + 1)).map (2 ^ ·)) (2 ^ n) := span_mem (List.mem_map_of_mem (List.mem_range.mpr (Nat.lt_succ_self n)))
        have hl : v ^^^ 2 ^ n < 2 ^ n := by
          apply Nat.lt_pow_two_of_testBit
          intro i hi
          rw [Nat.testBit_xor, Nat.testBit_two_pow]
          by_cases e : i = n
          · subst e
            have : v.testBit i = true := by
              have h2 : i = v.log2 := by
                have v0 : v ≠ 0 := by
                  have := Nat.two_pow_pos i
                  omega
                have l1 := (lt_pow_log (n := i + 1) v0).mp h
                have l2 : ¬ v.log2 < i := fun z => k ((lt_pow_log (n := i) v0).mpr z)
                omega
              have v0 : v ≠ 0 := by
                have := Nat.two_pow_pos i
                omega
              have := top_bit v0
              rw [← h2] at this
              exact this
            rw [this, decide_eq_true rfl]
            rfl
          · rw [bit_hi h (by omega), decide_eq_false (Ne.symm e)]
            rfl
        have := span_xor (up _ (ih _ hl)) hm
        rwa [xor_cancel] at this
theorem sum_common2 {n : Nat} {A B : List Nat} (pA : Plain A) (pB : Plain B) (hA : ∀ a ∈ A, a < 2 ^ n) (hB : ∀ b ∈ B, b < 2 ^ n) : (bas (A ++ B)).length + (lowB n (comB n A B)).length = A.length + B.length := by
  have h := sum_common hA hB (fun v => comB_span hA v)
  rwa [bas_lowB, bas_self pA, bas_self pB] at h
end Vf
namespace Vf
open PySem PySem.Spec PyProof.Rows L2
/-! ### rules within a comprehension: the written part told by name -/
section
variable {X : Cx} (K : PySem.W.Frag)
theorem cr_sumS (hc : X.calm = true) (h : X.K = K := by rfl) : CallR X (.builtin "sum") (rSum K) := h ▸ cr_sum hc
theorem pi_tupS {tg l : Expr} {tl : TE} (hl : PE X l tl) (h : X.K = K := by rfl) : PI X tg l (iTup K tl) := h ▸ pi_tup hl
end
end Vf
namespace Vf
open PySem PySem.Spec PyProof.Rows L2
theorem ix_listS {X : Cx} (K : PySem.W.Frag) (h : X.K = K := by rfl) : IxR X (rIxL K) := h ▸ ix_list
theorem sl_listS {X : Cx} (K : PySem.W.Frag) (h : X.K = K := by rfl) : SlR X (rSlL K) := h ▸ sl_list
end Vf
namespace Vf
/-! ### equal rooms -/
end Vf
namespace Vf
/-! ### shortened, cut -/
section
variable {n w u v : Nat} {B : List Nat}
end
end Vf
set_option Elab.async false
set_option linter.all false
set_option maxRecDepth 100000
set_option maxHeartbeats 4000000
namespace Vf
open PySem PySem.Spec PyProof.Rows L2
/-! ### words led by sequences of places -/
theorem pow_add_off {x a : Nat} (h : x.testBit a = false) : 2 ^ a + x = x ^^^ 2 ^ a := by
  have k := sub_mask (x ^^^ 2 ^ a) (2 ^ a)
  have e : (x ^^^ 2 ^ a) &&& 2 ^ a = 2 ^ a := by
    apply Nat.eq_of_testBit_eq
    intro i
    rw [Nat.testBit_and, Nat.testBit_xor, Nat.testBit_two_pow]
    by_cases q : a = i
    · subst q
      rw [h, decide_eq_true rfl]
      rfl
    · rw [decide_eq_false q, Bool.and_false]
  rw [e, xor_cancel] at k
  exact k
theorem sumPow_bit : ∀ {l : List Nat}, l.Nodup → ∀ j, ((l.map (2 ^ ·)).sum).testBit j = decide (j ∈ l)
  | [], _, j => by simp
  | a :: l, h, j => by
    obtain ⟨h1, h2⟩ := List.nodup_cons.mp h
    have ih := sumPow_bit (l := l) h2
    have off : ((l.map (2 ^ ·)).sum).testBit a = false := by rw [ih a, decide_eq_false h1]
    rw [List.map_cons, List.sum_cons, pow_add_off off, Nat.testBit_xor, ih j, Nat.testBit_two_pow]
    by_cases q : j = a
    · subst q
      simp [h1]
    · have q' : ¬ a = j := fun e => q e.symm
      simp [q, q']
theorem getD_el {s : List Nat} {i : Nat} (h : i < s.length) : s.getD i 0 = s[i] := by
  rw [List.getD_eq_getElem?_getD, List.getElem?_eq_getElem h]
  rfl
def ledL (s : List Nat) (w : Nat) : List Nat := ((List.range s.length).filter fun i => w.testBit i).map fun i => s.getD i 0
def ledN (s : List Nat) (w : Nat) : Nat := ((ledL s w).map (2 ^ ·)).sum
theorem getD_inj {s : List Nat} (h : s.Nodup) {i j : Nat} (hi : i < s.length) (hj : j < s.length) (e : s.getD i 0 = s.getD j 0) : i = j := by
  rw [getD_el hi, getD_el hj] at e
  rcases Nat.lt_trichotomy i j with k | k | k
  · exact absurd e (List.pairwise_iff_getElem.mp h i j hi hj k)
  · exact k
  · exact absurd e.symm (List.pairwise_iff_getElem.mp h j i hj hi k)
theorem ledL_nd {s : List Nat} (h : s.Nodup) (w : Nat) : (ledL s w).Nodup := by
  unfold ledL List.Nodup
  rw [List.pairwise_map]
  refine ((List.nodup_range (n := s.length)).filter _).imp_of_mem fun {a b} ha hb ne e => ne ?_
  exact getD_inj h (List.mem_range.mp (List.mem_filter.mp ha).1) (List.mem_range.mp (List.mem_filter.mp hb).1) e
theorem ledL_mem {s : List Nat} {w j : Nat} : j ∈ ledL s w ↔ ∃ i, i < s.length ∧ w.testBit i = true ∧ s.getD i 0 = j := by
  unfold ledL
  rw [List.mem_map]
  constructor
  · rintro ⟨i, hi, e⟩
    exact ⟨i, List.mem_range.mp (List.mem_filter.mp hi).1, (List.mem_filter.mp hi).2, e⟩
  · rintro ⟨i, h1, h2, e⟩
    exact ⟨i, List.mem_filter.mpr ⟨List.mem_range.mpr h1, h2⟩, e⟩
theorem ledN_at {s : List Nat} (h : s.Nodup) (w : Nat) {i : Nat} (hi : i < s.length) : (ledN s w).testBit (s.getD i 0) = w.testBit i := by
  unfold ledN
  rw [sumPow_bit (ledL_nd h w), Bool.eq_iff_iff, decide_eq_true_iff, ledL_mem]
  constructor
  · rintro ⟨j, h1, h2, e⟩
    rw [← getD_inj h h1 hi e]
    exact h2
  · exact fun k => ⟨i, hi, k, rfl⟩
theorem ledN_off {s : List Nat} (h : s.Nodup) (w : Nat) {j : Nat} (hj : ¬ ∃ i, i < s.length ∧ s.getD i 0 = j) : (ledN s w).testBit j = false := by
  unfold ledN
  rw [sumPow_bit (ledL_nd h w), decide_eq_false]
  rw [ledL_mem]
  rintro ⟨i, h1, _, e⟩
  exact hj ⟨i, h1, e⟩
theorem led_ext {s : List Nat} {x y : Nat} (hx : ∀ j, (¬ ∃ i, i < s.length ∧ s.getD i 0 = j) → x.testBit j = y.testBit j) (h : ∀ i, i < s.length → x.testBit (s.getD i 0) = y.testBit (s.getD i 0)) : x = y := by
  apply Nat.eq_of_testBit_eq
  intro j
  by_cases k : ∃ i, i < s.length ∧ s.getD i 0 = j
  · obtain ⟨i, hi, rfl⟩ := k
    exact h i hi
  · exact hx j k
theorem ledN_lin {s : List Nat} (h : s.Nodup) : LinF (ledN s) := fun a b => by
  refine led_ext (s := s) (fun j k => ?_) fun i hi => ?_
  · rw [Nat.testBit_xor, ledN_off h _ k, ledN_off h _ k, ledN_off h _ k]
    rfl
  · rw [Nat.testBit_xor, ledN_at h _ hi, ledN_at h _ hi, ledN_at h _ hi, Nat.testBit_xor]
theorem ledN_and {s : List Nat} (h : s.Nodup) (a b : Nat) : ledN s (a &&& b) = ledN s a &&& ledN s b := by
  refine led_ext (s := s) (fun j k => ?_) fun i hi => ?_
  · rw [Nat.testBit_and, ledN_off h _ k, ledN_off h _ k, ledN_off h _ k]
    rfl
  · rw [Nat.testBit_and, ledN_at h _ hi, ledN_at h _ hi, ledN_at h _ hi, Nat.testBit_and]
/-- a sequence of n places -/
structure Seq (n : Nat) (s : List Nat) : Prop where
  len : s.length = n
  nd : s.Nodup
  lt : ∀ x ∈ s, x < n
theorem Seq.of {n : Nat} {s : List Nat} (h : s.Perm (List.range n)) : Seq n s := ⟨by rw [h.length_eq, List.length_range], h.nodup_iff.mpr List.nodup_range, fun x hx => List.mem_range.mp (h.mem_iff.mp hx)⟩
theorem Seq.at {n : Nat} {s : List Nat} (h : Seq n s) {i : Nat} (hi : i < n) : s.getD i 0 < n := by
  have hi' : i < s.length := by rw [h.len]; exact hi
  rw [getD_el hi']
  exact h.lt _ (List.getElem_mem hi')
theorem ledN_lt {n : Nat} {s : List Nat} (h : Seq n s) (w : Nat) : ledN s w < 2 ^ n := by
  apply Nat.lt_pow_two_of_testBit
  intro j hj
  refine ledN_off h.nd w ?_
  rintro ⟨i, hi, rfl⟩
  have := h.at (i := i) (by rw [← h.len]; exact hi)
  omega
theorem ledN_inj {n : Nat} {s : List Nat} (h : Seq n s) {a b : Nat} (ha : a < 2 ^ n) (hb : b < 2 ^ n) (e : ledN s a = ledN s b) : a = b := by
  apply Nat.eq_of_testBit_eq
  intro i
  by_cases hi : i < n
  · have hi' : i < s.length := by rw [h.len]; exact hi
    rw [← ledN_at h.nd a hi', ← ledN_at h.nd b hi', e]
  · rw [bit_hi ha (by omega), bit_hi hb (by omega)]
theorem spots_mem (w i : Nat) : i ∈ spots w ↔ i < 24 ∧ w.testBit i = true := by
  unfold spots spotsK
  rw [List.mem_filter, List.mem_range]
theorem ledN_pc {n : Nat} {s : List Nat} (h : Seq n s) (h24 : n ≤ 24) {w : Nat} (hw : w < 2 ^ n) : pc (ledN s w) = pc w := by
  rw [← spots_len, ← spots_len]
  have e : (spots (ledN s w)).length = (ledL s w).length := len_same (spots_nd _) (ledL_nd h.nd w) fun j => by
    rw [spots_mem]
    unfold ledN
    rw [sumPow_bit (ledL_nd h.nd w), decide_eq_true_iff]
    refine ⟨fun k => k.2, fun k => ⟨?_, k⟩⟩
    obtain ⟨i, hi, _, rfl⟩ := ledL_mem.mp k
    have := h.at (i := i) (by rw [← h.len]; exact hi)
    omega
  rw [e]
  unfold ledL
  rw [List.length_map]
  refine len_same ((List.nodup_range).filter _) (spots_nd w) fun j => ?_
  rw [spots_mem, List.mem_filter, List.mem_range, h.len]
  constructor
  · rintro ⟨a, b⟩
    exact ⟨by omega, b⟩
  · rintro ⟨a, b⟩
    refine ⟨Nat.lt_of_not_le fun k => ?_, b⟩
    rw [bit_hi hw k] at b
    cases b
/-! ### what the defs of words mean -/
variable {W : Wd}
section
variable {C : Addr} {n m w : Nat} {B l s : List Nat}
/-- a list or a tuple of numbers -/
def dLT (l : List Nat) : Dn W := ⟨fun v H => ∃ a, v = .ref a ∧ W.F a ∧ Sq H a (vs l), fun st ⟨a, e, g, h⟩ => ⟨a, e, g, h.imp (W.keep g st) (W.keep g st)⟩⟩
theorem lt_of_L {Ds : EnvT W} {te : TE} (h : EV Ds te (dVs l)) : EV Ds te (dLT l) := ev_wk h fun v H ⟨a, e, g, h⟩ => ⟨a, e, g, .inl h⟩
theorem sd_weight (h : m < 2 ^ 24) : SpD (W := W) sp_weight [] [dN m] (dN (pc m)) := fun vs H Q iv o q => by
  match vs, o with
  | [v], ⟨e, _⟩ =>
    rw [show v = V.int (m : Int) from e]
    exact ⟨m, rfl, h, q _ H (W.refl H) rfl⟩
theorem sd_word_of (nd : l.Nodup) (h : ∀ i ∈ l, i < 24) (hl : l.length ≤ 24) : SpD (W := W) sp_word_of [] [dLT l] (dN (l.map (2 ^ ·)).sum) := fun vs H Q iv o q => by
  match vs, o with
  | [u], ⟨⟨a, e2, g, hs⟩, _⟩ =>
    subst e2
    exact ⟨a, l, rfl, hs, nd, h, hl, fun H' s => q _ H' (W.same s) rfl⟩
theorem od_ixN {K : PySem.W.Frag} {k : Nat} (h : k < l.length) : OpD (W := W) (rIxL K) (dVs l) (dN k) (dN (l.getD k 0)) := od_ixL (by rw [List.getElem?_eq_getElem h, getD_el h])
def exB (B s : List Nat) : List Nat := B.map (ledN s)
theorem exB_span (h : Seq n s) (v : Nat) : span (bas (exB B s)) v ↔ ∃ a, span B a ∧ v = ledN s a := by
  unfold exB
  rw [bas_span, span_map (ledN_lin h.nd)]
theorem exB_lt (h : Seq n s) : ∀ c ∈ exB B s, c < 2 ^ n := fun c hc => by
  obtain ⟨a, _, rfl⟩ := List.mem_map.mp hc
  exact ledN_lt h a
end
end Vf
namespace Vf
open PySem PySem.Spec PyProof.Rows L2
variable {W : Wd}
section
variable {Ds Es Fs : EnvT W} {d : Dn W} {te : TE} {ta : TA} {ts t1 t2 tu : TS} {n i j : Nat} {K : PySem.W.Frag} {l : List Nat}
/-- for at, to in enumerate(l): what holds by the turn -/
theorem nv_enum (E : Nat → EnvT W) (hl : AV Ds ta [dVs l]) (h0 : ∀ σ H, EnvL Ds σ H → EnvL (E 0) σ H) (hb : ∀ k x, l[k]? = some x → NV (((E k).set i (some (dN k))).set j (some (dN x))) ts (E (k + 1))) :
    NV Ds (tFor (iEnum K ta) (gTup K 2 (gCons (gName i) (gCons (gName j) gNil))) ts) (E l.length) := fun D σ H iv en q =>
  hl σ H _ iv en fun vs0 H1 l1 o1 => by
    match vs0, o1 with
    | [v], ⟨⟨a, e, g, h⟩, _⟩ =>
      subst e
      refine ⟨a, _, rfl, SqL.of h, fun k m σ' H' => k + m = l.length ∧ W.L H1 H' ∧ EnvL (E k) σ' H', ⟨l.length, Nat.zero_add _, W.refl H1, h0 _ _ (en.st l1)⟩, fun k m σ' H' hW => ?_⟩
      obtain ⟨km, lP, eP⟩ := hW
      have iv1 := W.step l1 iv
      have iv' := W.step lP iv1
      have hL : SqL K H' a (vs l) := SqL.of (W.keep g lP h)
      by_cases hk : k < l.length
      · have hx : (vs l)[k]? = some (.int ((l[k] : Nat) : Int)) := by
          unfold Vf.vs
          rw [List.getElem?_map, List.getElem?_eq_getElem hk]
          rfl
        refine .inr ⟨⟨_, _, hL, hx⟩, fun σ2 H2 => W.L H1 H2 ∧ EnvL (E (k + 1)) σ2 H2, fun σ2 H2 hN => ⟨m - 1, by omega, by omega, hN.1, hN.2⟩, fun x H2 hy => ?_⟩
        obtain ⟨T, x1, rfl, nT, rfl, fx⟩ := hy
        have e1 : x1 = .int ((l[k] : Nat) : Int) := by
          have h2 : (vs l)[k]? = some x1 := fx _ hL
          rw [hx] at h2
          exact (Option.some.inj h2).symm
        subst e1
        have l3 : W.L H' (upd H' T (.tup [.int (k : Nat), .int ((l[k] : Nat) : Int)])) := W.put iv' (W.refl _) nT
        refine ⟨T, _, rfl, .inl (.inl upd_same), rfl, _, _, rfl, _, _, rfl, rfl, ?_⟩
        refine hb k l[k] (List.getElem?_eq_getElem hk) _ _ _ (W.step l3 iv') (((eP.st l3).set rfl).set rfl) fun σ2 H2 l2 e2 => ⟨W.trans lP (W.trans l3 l2), e2⟩
      · have kl : k = l.length := by omega
        subst kl
        exact .inl ⟨⟨_, hL, by rw [len_vs]; exact Nat.le_refl _⟩, q σ' H' (W.trans l1 lP) eP⟩
end
end Vf
set_option Elab.async false
set_option linter.all false
set_option maxRecDepth 100000
set_option maxHeartbeats 4000000
namespace Vf
open PySem PySem.Spec PyProof.Rows L2
variable {W : Wd}
/-! ### fewer meanings -/
def AllIn (Gs : EnvT W) : List (Nat × Dn W) → Prop
  | [] => True
  | p :: r => Gs.get p.1 = some p.2 ∧ AllIn Gs r
theorem getE_in {Gs : EnvT W} : ∀ {l : List (Nat × Dn W)} {i : Nat} {d : Dn W}, AllIn Gs l → getE l i = some d → Gs.get i = some d
  | [], _, _, _, e => by cases e
  | (j, c) :: l, i, d, ⟨h1, h2⟩, e => by
    have e : (bif Nat.beq j i then some c else getE l i) = some d := e
    cases k : Nat.beq j i with
    | true =>
      rw [k] at e
      have e : some c = some d := e
      have := Nat.eq_of_beq_eq_true k
      subst this
      rw [← e]
      exact h1
    | false =>
      rw [k] at e
      exact getE_in h2 e
theorem EnvL.sub {Gs Es : EnvT W} {σ : L2.St} {H : Hp} (h : EnvL Gs σ H) (hn : Es.n = Gs.n) (k : AllIn Gs Es.l) : EnvL Es σ H := ⟨h.1.trans hn.symm, fun i d e lt => h.2 i d (getE_in k e) lt⟩
section
variable {Ds Es Fs Gs : EnvT W} {d : Dn W} {te : TE} {ta : TA} {tt : TT} {ts t1 t2 tu : TS} {n i j : Nat} {K : PySem.W.Frag} {l : List Nat}
theorem nv_sub (h : NV Ds ts Gs) (hn : Es.n = Gs.n) (k : AllIn Gs Es.l) : NV Ds ts Es := fun D σ H iv en q => h D σ H iv en fun σ' H' l e => q σ' H' l (e.sub hn k)
/-! ### words led, by the law's own -/
end
/-! ### the sequence that leads back, and one behind another, made in one loop -/
end Vf
set_option Elab.async false
set_option linter.all false
set_option maxRecDepth 100000
set_option maxHeartbeats 4000000
namespace Vf
open PySem PySem.Spec PyProof.Rows L2
/-! ### lists that a def makes and changes: cells, by slot and content -/
theorem upd_del {H : Hp} {p : Addr} {o : HO} (h : H p = some o) : upd (del p H) p o = H := by
  funext b
  by_cases e : b = p
  · subst e
    rw [upd_same, h]
  · rw [upd_ne e, del_ne e]
theorem del_upd {H : Hp} {p : Addr} {o : HO} (h : H p = none) : del p (upd H p o) = H := by
  funext b
  by_cases e : b = p
  · subst e
    rw [del_same, h]
  · rw [del_ne e, upd_ne e]
theorem del_updS {H : Hp} {p : Addr} {o : HO} : del p (upd H p o) = del p H := by
  funext b
  by_cases e : b = p
  · subst e
    rw [del_same, del_same]
  · rw [del_ne e, del_ne e, upd_ne e]
variable {W : Wd}
theorem L_del {H : Hp} {p : Addr} {o : HO} (iv : W.inv (del p H)) (h : H p = some o) : W.L (del p H) H := by
  have := W.put (o := o) iv (W.refl (del p H)) del_same
  rwa [upd_del h] at this
/-- a list made anew -/
def FL (Ds : EnvT W) (te : TE) (xs : List V) : Prop := ∀ (σ : L2.St) (H : Hp) (Q : VK), W.inv H → EnvL Ds σ H → (∀ p H', H p = none → W.F p → W.L H (del p H') → H' p = some (.lst xs) → Q (.ref p) H') → te σ H Q
/-- the cells of σ in H; without them the heap is G -/
def CE (W : Wd) : List (Nat × List V) → L2.St → Hp → Hp → Prop
  | [], _, H, G => G = H
  | c :: cs, σ, H, G => ∃ p, σ[c.1]? = some (some (.ref p)) ∧ W.F p ∧ H p = some (.lst c.2) ∧ CE W cs σ (del p H) G
def withC (Ds : EnvT W) : List (Nat × List V) → EnvT W
  | [] => Ds
  | c :: cs => (withC Ds cs).set c.1 (some (dLst c.2))
theorem CE.up : ∀ {cs : List (Nat × List V)} {σ : L2.St} {H G : Hp}, CE W cs σ H G → W.inv G → W.L G H
  | [], σ, H, G, h, iv => by
    have h : G = H := h
    subst h
    exact W.refl _
  | c :: cs, σ, H, G, ⟨p, e, f, hp, h⟩, iv => by
    have l := CE.up h iv
    exact W.trans l (L_del (W.step l iv) hp)
theorem set_id {σ : L2.St} {i : Nat} {v : Option V} (h : σ[i]? = some v) : σ.set i v = σ := by
  obtain ⟨lt, e⟩ := List.getElem?_eq_some_iff.mp h
  rw [← e]
  exact List.set_getElem_self lt
theorem CE.env {Ds : EnvT W} : ∀ {cs : List (Nat × List V)} {σ : L2.St} {H G : Hp}, CE W cs σ H G → W.inv G → EnvL Ds σ G → EnvL (withC Ds cs) σ H
  | [], σ, H, G, h, iv, en => by
    have h : G = H := h
    subst h
    exact en
  | c :: cs, σ, H, G, ⟨p, e, f, hp, h⟩, iv, en => by
    have l := CE.up h iv
    have k := (CE.env h iv en).st (L_del (W.step l iv) hp)
    have := EnvL.set (d := dLst c.2) (v := .ref p) (i := c.1) ⟨p, rfl, f, hp⟩ k
    rwa [set_id e] at this
theorem CE.go : ∀ {cs : List (Nat × List V)} {σ : L2.St} {H H1 G : Hp}, CE W cs σ H G → W.L H H1 → ∃ G1, CE W cs σ H1 G1 ∧ W.L G G1
  | [], σ, H, H1, G, h, l => by
    have h : G = H := h
    subst h
    exact ⟨H1, rfl, l⟩
  | c :: cs, σ, H, H1, G, ⟨p, e, f, hp, h⟩, l => by
    obtain ⟨G1, h1, l1⟩ := CE.go h (W.delL f l)
    exact ⟨G1, ⟨p, e, f, W.keep f l hp, h1⟩, l1⟩
theorem CE.slot {v : Option V} {j : Nat} : ∀ {cs : List (Nat × List V)} {σ : L2.St} {H G : Hp}, CE W cs σ H G → (cs.all fun c => !(Nat.beq c.1 j)) = true → CE W cs (σ.set j v) H G
  | [], σ, H, G, h, _ => h
  | c :: cs, σ, H, G, ⟨p, e, f, hp, h⟩, k => by
    rw [List.all_cons, Bool.and_eq_true] at k
    have ne : j ≠ c.1 := fun z => by
      subst z
      rw [Nat.beq_refl] at k
      cases k.1
    exact ⟨p, by rw [List.getElem?_set_ne ne]; exact e, f, hp, CE.slot h k.2⟩
/-- a cell's new content -/
def setC (cs : List (Nat × List V)) (i : Nat) (xs : List V) : List (Nat × List V) := match cs with
  | [] => []
  | c :: cs => bif Nat.beq c.1 i then (i, xs) :: cs else c :: setC cs i xs
def getC (cs : List (Nat × List V)) (i : Nat) : Option (List V) := match cs with
  | [] => none
  | c :: cs => bif Nat.beq c.1 i then some c.2 else getC cs i
theorem del_del {H : Hp} {p q : Addr} : del p (del q H) = del q (del p H) := by
  funext b
  unfold del
  split <;> split <;> rfl
theorem del_upd_ne {H : Hp} {p q : Addr} {o : HO} (n : q ≠ p) : del p (upd H q o) = upd (del p H) q o := by
  funext b
  unfold del upd
  by_cases e : b = q
  · subst e
    rw [if_neg n, if_pos rfl, if_pos rfl]
  · rw [if_neg e, if_neg e]
theorem CE.change {xs ys : List V} {i : Nat} : ∀ {cs : List (Nat × List V)} {σ : L2.St} {H G : Hp}, CE W cs σ H G → getC cs i = some xs → ∃ p, σ[i]? = some (some (.ref p)) ∧ H p = some (.lst xs) ∧ CE W (setC cs i ys) σ (upd H p (.lst ys)) G
  | [], σ, H, G, h, e => by cases e
  | c :: cs, σ, H, G, ⟨p, e, f, hp, h⟩, g => by
    have g : (bif Nat.beq c.1 i then some c.2 else getC cs i) = some xs := g
    show ∃ q, _ ∧ _ ∧ CE W (bif Nat.beq c.1 i then (i, ys) :: cs else c :: setC cs i ys) σ _ G
    cases k : Nat.beq c.1 i with
    | true =>
      have ei := Nat.eq_of_beq_eq_true k
      rw [k] at g
      have g : some c.2 = some xs := g
      cases g
      subst ei
      exact ⟨p, e, hp, p, e, f, upd_same, by rw [del_updS]; exact h⟩
    | false =>
      rw [k] at g
      obtain ⟨q, e2, hq, h2⟩ := CE.change (ys := ys) h g
      obtain ⟨nq, hq⟩ := del_some hq
      refine ⟨q, e2, hq, p, e, f, by rw [upd_ne (Ne.symm nq)]; exact hp, ?_⟩
      rw [del_upd_ne nq]
      exact h2
/-! ### judgements with cells -/
def NVC (Ds : EnvT W) (cs : List (Nat × List V)) (ts : TS) (Es : EnvT W) (cs' : List (Nat × List V)) : Prop := ∀ (D : Ends) (σ : L2.St) (H G : Hp), CE W cs σ H G → W.inv G → EnvL Ds σ G →
  (∀ σ' H' G', CE W cs' σ' H' G' → W.L G G' → EnvL Es σ' G' → D.nx σ' H') → ts D σ H
def SVC (Ds : EnvT W) (cs : List (Nat × List V)) (ts : TS) (d : Dn W) : Prop := ∀ (D : Ends) (σ : L2.St) (H G : Hp), CE W cs σ H G → W.inv G → EnvL Ds σ G → (∀ v H', W.L G H' → d.ok v H' → D.rt v H') → ts D σ H
def Pu (d : Dn W) : Prop := ∀ v H H', d.ok v H → d.ok v H'
theorem pu_V (v : V) : Pu (dV v : Dn W) := fun _ _ _ h => h
section
variable {Ds Es Fs : EnvT W} {cs cs1 cs2 : List (Nat × List V)} {d d1 d2 : Dn W} {te ti tl : TE} {t ta : TA} {tt : TT} {ts tu t1 t2 : TS} {i j k n : Nat} {K : PySem.W.Frag} {xs ys zs : List V} {l : List Nat}
theorem svc_seq (h : NVC Ds cs ts Es cs1) (k : SVC Es cs1 tu d) : SVC Ds cs (tSeq ts tu) d := fun D σ H G ce iv en q =>
  h _ σ H G ce iv en fun σ' H' G' ce' l e' => k D σ' H' G' ce' (W.step l iv) e' fun v H2 l2 o => q v H2 (W.trans l l2) o
theorem nvc_seq (h : NVC Ds cs ts Es cs1) (k : NVC Es cs1 tu Fs cs2) : NVC Ds cs (tSeq ts tu) Fs cs2 := fun D σ H G ce iv en q =>
  h _ σ H G ce iv en fun σ' H' G' ce' l e' => k D σ' H' G' ce' (W.step l iv) e' fun σ2 H2 G2 c2 l2 e2 => q σ2 H2 G2 c2 (W.trans l l2) e2
theorem nvc_next : NVC Ds cs tNext Ds cs := fun D σ H G ce iv en q => q σ H G ce (W.refl G) en
/-- the cells are lists as others from here on -/
theorem svc_end (h : SV (withC Ds cs) ts d) : SVC Ds cs ts d := fun D σ H G ce iv en q =>
  h D σ H (W.step (ce.up iv) iv) (ce.env iv en) fun v H' l o => q v H' (W.trans (ce.up iv) l) o
theorem nvc_end (h : NV (withC Ds cs) ts Es) : NVC Ds cs ts Es [] := fun D σ H G ce iv en q =>
  h D σ H (W.step (ce.up iv) iv) (ce.env iv en) fun σ' H' l e => q σ' H' H' rfl (W.trans (ce.up iv) l) e
theorem nv_of_nvc (h : NVC Ds [] ts Es cs) (e : withC Es cs = Fs) : NV Ds ts Fs := fun D σ H iv en q =>
  h D σ H H rfl iv en fun σ' H' G' ce l e' => q σ' H' (W.trans l (ce.up (W.step l iv))) (e ▸ ce.env (W.step l iv) e')
theorem ev_run {σ : L2.St} {H G : Hp} {Q : VK} (h : EV (withC Ds cs) te d) (ce : CE W cs σ H G) (iv : W.inv G) (en : EnvL Ds σ G) (q : ∀ v H1 G1, CE W cs σ H1 G1 → W.L G G1 → W.L H H1 → d.ok v H1 → Q v H1) : te σ H Q :=
  h σ H Q (W.step (ce.up iv) iv) (ce.env iv en) fun v H1 l o => by
    obtain ⟨G1, c1, l1⟩ := ce.go l
    exact q v H1 G1 c1 l1 l o
theorem nvc_set (h : EV (withC Ds cs) te d) (p : Pu d) (k : (cs.all fun c => !(Nat.beq c.1 i)) = true := by rfl) : NVC Ds cs (tAsg te (gName i)) (Ds.set i (some d)) cs := fun D σ H G ce iv en q =>
  ev_run h ce iv en fun v H1 G1 c1 l1 _ o => q _ H1 G1 (c1.slot k) l1 ((en.st l1).set (p _ _ _ o))
theorem tv_run {b : Bool} {σ : L2.St} {H G : Hp} {R : Bool → Hp → Prop} (h : TV (withC Ds cs) tt b) (ce : CE W cs σ H G) (iv : W.inv G) (en : EnvL Ds σ G) (q : ∀ H1 G1, CE W cs σ H1 G1 → W.L G G1 → R b H1) : tt σ H R :=
  h σ H R (W.step (ce.up iv) iv) (ce.env iv en) fun H1 l => by
    obtain ⟨G1, c1, l1⟩ := ce.go l
    exact q H1 G1 c1 l1
theorem nvc_if {b : Bool} (h : TV (withC Ds cs) tt b) (h1 : b = true → NVC Ds cs t1 Es cs1) (h2 : b = false → NVC Ds cs t2 Es cs1) : NVC Ds cs (tIfS tt t1 t2) Es cs1 := fun D σ H G ce iv en q =>
  tv_run h ce iv en fun H1 G1 c1 l1 => by
    cases b with
    | true => exact h1 rfl D σ H1 G1 c1 (W.step l1 iv) (en.st l1) fun σ2 H2 G2 c2 l2 e2 => q σ2 H2 G2 c2 (W.trans l1 l2) e2
    | false => exact h2 rfl D σ H1 G1 c1 (W.step l1 iv) (en.st l1) fun σ2 H2 G2 c2 l2 e2 => q σ2 H2 G2 c2 (W.trans l1 l2) e2
theorem nvc_cs (h : NVC Ds cs ts Es cs1) (e : cs1 = cs2) : NVC Ds cs ts Es cs2 := e ▸ h
/-! the steps that change a cell -/
theorem cell_at {σ : L2.St} {H G : Hp} (ce : CE W cs σ H G) (g : getC cs i = some xs) : ∃ p, σ[i]? = some (some (.ref p)) ∧ H p = some (.lst xs) := by
  obtain ⟨p, e, hp, _⟩ := ce.change (ys := xs) g
  exact ⟨p, e, hp⟩
theorem nvc_append {y : V} (g : getC cs i = some xs) (h : EV (withC Ds cs) te (dV y)) (z : xs.length < 100000) : NVC Ds cs (tDrop (tBM K "list" rAppend (tVar i) (tCons te tNil))) Ds (setC cs i (xs ++ [y])) := fun D σ H G ce iv en q => by
  obtain ⟨p, e, hp⟩ := cell_at ce g
  refine ⟨.ref p, e, .inl ⟨rfl, _, SqL.of hp⟩, ev_run h ce iv en fun v H1 G1 c1 l1 _ o => ?_⟩
  obtain ⟨p2, e2, hp2, c2⟩ := c1.change (ys := xs ++ [y]) g
  rw [e] at e2
  cases e2
  rw [show v = y from o]
  exact ⟨p, xs, y, rfl, rfl, hp2, sl_lt (by omega), q _ _ _ c2 l1 (en.st l1)⟩
theorem ixN_nat {n k : Nat} (h : k < n) : ixN n (k : Int) = some k := by
  unfold ixN
  simp [h]
theorem nvc_sub {y : V} (g : getC cs i = some xs) (h : EV (withC Ds cs) te (dV y)) (hk : EV (withC Ds cs) ti (dN k)) (lt : k < xs.length) : NVC Ds cs (tAsg te (gSub (tVar i) ti rSetL)) Ds (setC cs i (xs.set k y)) := fun D σ H G ce iv en q =>
  ev_run h ce iv en fun v H1 G1 c1 l1 _ o => by
    obtain ⟨p, e, hp⟩ := cell_at c1 g
    refine ⟨.ref p, e, ev_run hk c1 (W.step l1 iv) (en.st l1) fun u H2 G2 c2 l2 _ o2 => ?_⟩
    obtain ⟨p2, e2, hp2, c3⟩ := c2.change (ys := xs.set k y) g
    rw [e] at e2
    cases e2
    rw [show u = V.int (k : Int) from o2, show v = y from o]
    exact ⟨p, xs, k, k, rfl, rfl, hp2, ixN_nat lt, q _ _ _ c3 (W.trans l1 l2) ((en.st l1).st l2)⟩
/-! loops -/
theorem nvc_forR {ta : TA} (E : Nat → EnvT W) (C : Nat → List (Nat × List V)) (hl : AV Ds ta [dN n]) (h0 : ∀ σ H, EnvL Ds σ H → EnvL (E 0) σ H) (hC : CE W cs = CE W (C 0)) (h62 : n < 2 ^ 62) (hl2 : AV (withC Ds cs) ta [dN n])
    (hs : ∀ k, k < n → ((C k).all fun c => !(Nat.beq c.1 i)) = true) (hb : ∀ k, k < n → NVC ((E k).set i (some (dN k))) (C k) ts (E (k + 1)) (C (k + 1))) :
    NVC Ds cs (tFor (iRng1 ta) (gName i) ts) (E n) (C n) := fun D σ H G ce iv en q =>
  hl2 σ H _ (W.step (ce.up iv) iv) (ce.env iv en) fun vs H1 l1 o1 => by
    match vs, o1 with
    | [v], ⟨o1, _⟩ =>
      obtain ⟨G1, c1, lG⟩ := ce.go l1
      have iv1 := W.step lG iv
      refine ⟨(n : Int), by rw [show v = V.int (n : Int) from o1], by omega, by omega, ?_⟩
      refine for_range (lo := 0) (n := (n : Int).toNat) (fun k σ' H' => ∃ G', CE W (C k) σ' H' G' ∧ W.L G1 G' ∧ EnvL (E k) σ' G') ⟨G1, hC ▸ c1, W.refl G1, h0 _ _ (en.st lG)⟩ (fun k σ' H' hk hP => ?_) fun σ' H' hP => ?_
      · rw [Int.toNat_natCast] at hk
        obtain ⟨G', cP, lP, eP⟩ := hP
        refine hb k hk _ _ H' G' (cP.slot (hs k hk)) (W.step lP iv1) (eP.set (show V.int (0 + (k : Int)) = V.int (k : Int) by rw [Int.zero_add])) fun σ2 H2 G2 c2 l2 e2 => ⟨G2, c2, W.trans lP l2, e2⟩
      · rw [Int.toNat_natCast] at hP
        obtain ⟨G', cP, lP, eP⟩ := hP
        exact q σ' H' G' cP (W.trans lG lP) eP
/-- for x in l, l the list in slot j -/
theorem CE.ne {q : Addr} {o : HO} : ∀ {cs : List (Nat × List V)} {σ : L2.St} {H G : Hp}, CE W cs σ H G → G q = some o → H q = some o
  | [], σ, H, G, h, e => by
    have h : G = H := h
    subst h
    exact e
  | c :: cs, σ, H, G, ⟨p, _, _, hp, h⟩, e => (del_some (CE.ne h e)).2
theorem nvc_forV (E : Nat → EnvT W) (C : Nat → List (Nat × List V)) (hj : Ds.get j = some (dLst xs)) (hn : Nat.ble (j + 1) Ds.n = true) (h0 : ∀ σ H, EnvL Ds σ H → EnvL (E 0) σ H) (hC : CE W cs = CE W (C 0))
    (hs : ∀ k, ((C k).all fun c => !(Nat.beq c.1 i)) = true) (hb : ∀ k x, xs[k]? = some x → NVC ((E k).set i (some (dV x))) (C k) ts (E (k + 1)) (C (k + 1))) :
    NVC Ds cs (tFor (iList K (tVar j)) (gName i) ts) (E xs.length) (C xs.length) := fun D σ H G ce iv en q => by
  obtain ⟨v, e, a, ea, fa, ha⟩ := en.get hj hn
  subst ea
  refine ⟨.ref a, e, a, rfl, ⟨xs, SqL.of (ce.ne ha)⟩, ?_⟩
  refine for_list (K := K) (a := a) (xs := xs) (fun k σ' H' => ∃ G', CE W (C k) σ' H' G' ∧ W.L G G' ∧ EnvL (E k) σ' G') ⟨G, hC ▸ ce, W.refl G, h0 _ _ en⟩ (fun k σ' H' _ hP => ?_) (fun k x σ' H' hx hP => ?_) fun σ' H' hP => ?_
  · obtain ⟨G', cP, lP, _⟩ := hP
    exact SqL.of (cP.ne (W.keep fa lP ha))
  · obtain ⟨G', cP, lP, eP⟩ := hP
    exact hb k x hx _ _ H' G' (cP.slot (hs k)) (W.step lP iv) (eP.set rfl) fun σ2 H2 G2 c2 l2 e2 => ⟨G2, c2, W.trans lP l2, e2⟩
  · obtain ⟨G', cP, lP, eP⟩ := hP
    exact q σ' H' G' cP lP eP
/-- for at, x in enumerate(l), l the list in slot m -/
theorem nvc_enumV {m : Nat} (E : Nat → EnvT W) (C : Nat → List (Nat × List V)) (hj : Ds.get m = some (dLst xs)) (hn : Nat.ble (m + 1) Ds.n = true) (h0 : ∀ σ H, EnvL Ds σ H → EnvL (E 0) σ H) (hC : CE W cs = CE W (C 0))
    (hs : ∀ k, ((C k).all fun c => !(Nat.beq c.1 i)) = true) (hs2 : ∀ k, ((C k).all fun c => !(Nat.beq c.1 j)) = true) (hb : ∀ k x, xs[k]? = some x → NVC (((E k).set i (some (dN k))).set j (some (dV x))) (C k) ts (E (k + 1)) (C (k + 1))) :
    NVC Ds cs (tFor (iEnum K (tCons (tVar m) tNil)) (gTup K 2 (gCons (gName i) (gCons (gName j) gNil))) ts) (E xs.length) (C xs.length) := fun D σ H G ce iv en q => by
  obtain ⟨v, e, a, ea, fa, ha⟩ := en.get hj hn
  subst ea
  refine ⟨.ref a, e, a, xs, rfl, SqL.of (ce.ne ha), fun k m σ' H' => k + m = xs.length ∧ ∃ G', CE W (C k) σ' H' G' ∧ W.L G G' ∧ EnvL (E k) σ' G', ⟨xs.length, Nat.zero_add _, G, hC ▸ ce, W.refl G, h0 _ _ en⟩, fun k m σ' H' hW => ?_⟩
  obtain ⟨km, G', cP, lP, eP⟩ := hW
  have iv' := W.step lP iv
  have hL : SqL K H' a xs := SqL.of (cP.ne (W.keep fa lP ha))
  by_cases hk : k < xs.length
  · have hx : xs[k]? = some xs[k] := List.getElem?_eq_getElem hk
    refine .inr ⟨⟨_, _, hL, hx⟩, fun σ2 H2 => ∃ G2, CE W (C (k + 1)) σ2 H2 G2 ∧ W.L G G2 ∧ EnvL (E (k + 1)) σ2 G2, fun σ2 H2 hN => ⟨m - 1, by omega, by omega, hN⟩, fun x H2 hy => ?_⟩
    obtain ⟨T, x1, rfl, nT, rfl, fx⟩ := hy
    have e1 : x1 = xs[k] := by
      have h2 : xs[k]? = some x1 := fx _ hL
      rw [hx] at h2
      exact (Option.some.inj h2).symm
    subst e1
    have l3 : W.L H' (upd H' T (.tup [.int (k : Nat), xs[k]])) := W.put (W.step (cP.up iv') iv') (W.refl H') nT
    obtain ⟨G3, c3, lG⟩ := cP.go l3
    refine ⟨T, _, rfl, .inl (.inl upd_same), rfl, _, _, rfl, _, _, rfl, rfl, ?_⟩
    refine hb k xs[k] hx _ _ _ G3 ((c3.slot (hs k)).slot (hs2 k)) (W.step lG iv') (((eP.st lG).set rfl).set rfl) fun σ2 H2 G2 c2 l2 e2 => ⟨G2, c2, W.trans lP (W.trans lG l2), e2⟩
  · have kl : k = xs.length := by omega
    subst kl
    exact .inl ⟨⟨_, hL, Nat.le_refl _⟩, q σ' H' G' cP lP eP⟩
/-! a new cell -/
theorem env_new {σ : L2.St} {H : Hp} {v : V} (en : EnvL Ds σ H) : EnvL (Ds.set i none) (σ.set i (some v)) H := en.dropS
theorem svc_cell (h : FL (withC Ds cs) te xs) (r : SVC (Ds.set i none) ((i, xs) :: cs) tu d) (hi : Nat.ble (i + 1) Ds.n = true := by rfl) (k : (cs.all fun c => !(Nat.beq c.1 i)) = true := by rfl) : SVC Ds cs (tSeq (tAsg te (gName i)) tu) d := fun D σ H G ce iv en q =>
  h σ H _ (W.step (ce.up iv) iv) (ce.env iv en) fun p H1 hp fp l e => by
    obtain ⟨G1, c1, l1⟩ := ce.go l
    refine r D _ H1 G1 ⟨p, ?_, fp, e, c1.slot k⟩ (W.step l1 iv) (en.st l1).dropS fun v H2 l2 o => q v H2 (W.trans l1 l2) o
    exact List.getElem?_set_self (by rw [en.1]; exact Nat.le_of_ble_eq_true hi)
theorem sv_cell (h : FL Ds te xs) (r : SVC (Ds.set i none) [(i, xs)] tu d) (hi : Nat.ble (i + 1) Ds.n = true := by rfl) : SV Ds (tSeq (tAsg te (gName i)) tu) d := fun D σ H iv en q =>
  svc_cell (cs := []) h r hi rfl D σ H H rfl iv en q
theorem ok_dV {H : Hp} : ∀ {xs vs : List V}, OkL (xs.map fun x => (dV x : Dn W)) vs H → vs = xs
  | [], [], _ => rfl
  | n :: l, v :: vs, ⟨h, r⟩ => by
    rw [ok_dV (xs := l) r, show v = n from h]
  | [], _ :: _, h => h.elim
  | _ :: _, [], h => h.elim
theorem none_back {H H1 : Hp} {p : Addr} (iv : W.inv H1) (l : W.L H H1) (h : H1 p = none) : H p = none := by
  cases e : H p with
  | none => rfl
  | some o =>
    rw [W.keep (W.fresh iv h) l e] at h
    cases h
theorem fl_lst (xs : List V) (h : AV Ds t (xs.map fun x => dV x)) (hn : xs.length ≤ 100000 := by exact Nat.le_of_ble_eq_true rfl) : FL Ds (tLst t) xs := fun σ H Q iv en q => h σ H _ iv en fun vs H1 l1 o1 => by
  have iv1 := W.step l1 iv
  have e := ok_dV o1
  subst e
  exact ⟨Nat.le_of_lt (sl_lt hn), fun p np => q p _ (none_back iv1 l1 np) (W.fresh iv1 np) (by rw [del_upd np]; exact l1) upd_same⟩
theorem fl_nil : FL Ds (tLst tNil) [] := fl_lst [] av_nil
theorem fl_rep {y : V} (h : EV Ds te (dLst [y])) (h2 : EV Ds ti (dN n)) (hn : n ≤ 100000) : FL Ds (tOp rRep te ti) (List.replicate n y) := fun σ H Q iv en q => h σ H _ iv en fun v H1 l1 o1 => h2 σ H1 _ (W.step l1 iv) (en.st l1) fun u H2 l2 o2 => by
  have iv2 := W.step l2 (W.step l1 iv)
  have o1 := (dLst [y]).st l2 o1
  obtain ⟨a, e, _, ha⟩ := o1
  subst e
  rw [show u = V.int (n : Int) from o2]
  refine ⟨a, n, _, rfl, rfl, ha, by omega, by omega, by rw [Int.toNat_natCast]; exact Nat.le_of_lt (sl_lt (by simpa using hn)), fun p np => q p _ (none_back iv2 (W.trans l1 l2) np) (W.fresh iv2 np) (by rw [del_upd np]; exact W.trans l1 l2) ?_⟩
  rw [upd_same, Int.toNat_natCast, show (List.replicate n [y]).flatten = List.replicate n y by simp]
theorem ev_fl (h : FL Ds te xs) : EV Ds te (dLst xs) := fun σ H Q iv en q => h σ H Q iv en fun p H' np fp l e => q _ H' (W.trans l (L_del (W.step l iv) e)) ⟨p, rfl, fp, e⟩
end
end Vf
set_option Elab.async false
set_option linter.all false
set_option maxRecDepth 100000
set_option maxHeartbeats 4000000
namespace Vf
/-! ### sorted lists, words of rooms led -/
theorem sortN_perm (l : List Nat) : (sortN l).Perm l := (sort_ok l).1
theorem sortN_len (l : List Nat) : (sortN l).length = l.length := (sort_ok l).1.length_eq
theorem sortN_lt {l : List Nat} (h : l.Nodup) : (sortN l).Pairwise (· < ·) := by
  have nd : (sortN l).Pairwise (· ≠ ·) := (sort_ok l).1.nodup_iff.mpr h
  exact ((sort_ok l).2.and nd).imp fun k => Nat.lt_of_le_of_ne k.1 k.2
theorem map_nd {f : Nat → Nat} {l : List Nat} (inj : ∀ a ∈ l, ∀ b ∈ l, f a = f b → a = b) (h : l.Nodup) : (l.map f).Nodup := by
  unfold List.Nodup
  rw [List.pairwise_map]
  exact h.imp_of_mem fun {a b} ha hb ne e => ne (inj a ha b hb e)
theorem SpanL.sort {B l : List Nat} (nd : l.Nodup) (h : ∀ v, v ∈ l ↔ span B v) : SpanL B (sortN l) := ⟨fun v => by rw [(sortN_perm l).mem_iff, h], sortN_lt nd⟩
theorem SpanL.nd {B L : List Nat} (h : SpanL B L) : L.Nodup := h.2.imp fun k => Nat.ne_of_lt k
theorem words_spanL {B : List Nat} (pl : Plain B) : SpanL B (wordsOf B) := by
  obtain ⟨m1, n1, l1⟩ := sums_ok pl.1
  exact SpanL.sort n1 m1
theorem pow_inj {a b : Nat} (h : 2 ^ a = 2 ^ b) : a = b := by
  rcases Nat.lt_trichotomy a b with k | k | k
  · have := Nat.pow_lt_pow_right (a := 2) (by decide) k
    omega
  · exact k
  · have := Nat.pow_lt_pow_right (a := 2) (by decide) k
    omega
theorem dim_of {B D L M : List Nat} (pB : Plain B) (pD : Plain D) (h : SpanL B L) (k : SpanL D M) (e : L.length = M.length) : B.length = D.length := by
  have h1 := h.len
  have h2 := k.len
  rw [bas_self pB] at h1
  rw [bas_self pD] at h2
  exact pow_inj (by omega)
section
variable {n w : Nat} {s t A B S : List Nat}
theorem ex_list (hs : Seq n s) (ltA : ∀ c ∈ A, c < 2 ^ n) (sA : SpanL A S) : SpanL (bas (exB A s)) (sortN (S.map (ledN s))) := by
  have lt : ∀ v ∈ S, v < 2 ^ n := fun v hv => span_lt ltA ((sA.1 v).mp hv)
  refine SpanL.sort (map_nd (fun a ha b hb e => ledN_inj hs (lt a ha) (lt b hb) e) sA.nd) fun v => ?_
  rw [exB_span hs, List.mem_map]
  exact ⟨fun ⟨a, ha, e⟩ => ⟨a, (sA.1 a).mp ha, e.symm⟩, fun ⟨a, ha, e⟩ => ⟨a, (sA.1 a).mpr ha, e.symm⟩⟩
theorem ex_ge (hs : Seq n s) (B : List Nat) : ∀ c ∈ bas (exB B s), c < 2 ^ n := bas_lt (exB_lt hs)
theorem ex_dim (hs : Seq n s) (pA : Plain A) (ltA : ∀ c ∈ A, c < 2 ^ n) (sA : SpanL A S) : (bas (exB A s)).length = A.length :=
  dim_of (bas_plain _) pA (ex_list hs ltA sA) sA (by rw [sortN_len, List.length_map])
end
theorem vs_set {l : List Nat} {j x : Nat} : (vs l).set j (L2.V.int (x : Int)) = vs (l.set j x) := by
  unfold vs
  rw [List.map_set]
theorem vs_snoc {l : List Nat} {x : Nat} : vs l ++ [L2.V.int (x : Int)] = vs (l ++ [x]) := by
  rw [vs_append]
  rfl
end Vf
namespace Vf
theorem vs_rep {n x : Nat} : List.replicate n (L2.V.int (x : Int)) = vs (List.replicate n x) := by
  unfold vs
  rw [List.map_replicate]
end Vf
set_option Elab.async false
set_option linter.all false
set_option maxRecDepth 100000
set_option maxHeartbeats 4000000
namespace Vf
/-! ### rooms beside one another -/
section
variable {n m a b v : Nat} {A B D L M : List Nat}
end
open PySem PySem.Spec PyProof.Rows L2
variable {W : Wd} {C : Addr} {n m : Nat} {A B : List Nat}
end Vf
set_option Elab.async false
set_option linter.all false
set_option maxRecDepth 100000
set_option maxHeartbeats 4000000
namespace Vf
/-! ### contraries -/
/-- whether two words meet oddly -/
def par (a b : Nat) : Bool := decide (pc (a &&& b) % 2 = 1)
theorem par_comm (a b : Nat) : par a b = par b a := by
  unfold par
  rw [Nat.and_comm]
theorem par_xor (a c b : Nat) : par (a ^^^ c) b = (par a b ^^ par c b) := by
  unfold par
  rw [pc_dist]
  rcases Nat.mod_two_eq_zero_or_one (pc (a &&& b)) with h | h <;> rcases Nat.mod_two_eq_zero_or_one (pc (c &&& b)) with k | k <;> rw [Nat.add_mod, h, k] <;> rfl
theorem par_zero (b : Nat) : par 0 b = false := by
  unfold par
  rw [Nat.zero_and, pc_zero]
  rfl
theorem pc_pow {i : Nat} (h : i < 24) : pc (2 ^ i) = 1 := by
  rw [← spots_len]
  have e : spots (2 ^ i) = [i] := by
    refine up_eq ?_ (by simp) fun v => ?_
    · unfold spots spotsK
      exact (List.pairwise_lt_range).filter _
    · rw [spots_mem, List.mem_singleton, Nat.testBit_two_pow, decide_eq_true_iff]
      exact ⟨fun k => k.2.symm, fun k => ⟨by omega, k.symm⟩⟩
  rw [e]
  rfl
theorem par_pow {i : Nat} (h : i < 24) (c : Nat) : par (2 ^ i) c = c.testBit i := by
  unfold par
  by_cases k : c.testBit i = true
  · have e : 2 ^ i &&& c = 2 ^ i := by
      apply Nat.eq_of_testBit_eq
      intro j
      rw [Nat.testBit_and, Nat.testBit_two_pow]
      by_cases q : i = j
      · subst q
        rw [k, decide_eq_true rfl]
        rfl
      · rw [decide_eq_false q]
        rfl
    rw [e, pc_pow h, k]
    rfl
  · have e : 2 ^ i &&& c = 0 := by
      apply Nat.eq_of_testBit_eq
      intro j
      rw [Nat.testBit_and, Nat.testBit_two_pow, Nat.zero_testBit]
      by_cases q : i = j
      · subst q
        rw [Bool.not_eq_true] at k
        rw [k, Bool.and_false]
      · rw [decide_eq_false q]
        rfl
    rw [e, pc_zero, Bool.not_eq_true _ |>.mp k]
    rfl
def pw (p : Bool) (x : Nat) : Nat := if p then x else 0
theorem pw_xor (p q : Bool) (x : Nat) : pw (p ^^ q) x = pw p x ^^^ pw q x := by
  cases p <;> cases q <;> simp [pw]
theorem par_pw (p : Bool) (x c : Nat) : par (pw p x) c = (p && par x c) := by
  cases p
  · exact par_zero c
  · exact (Bool.true_and _).symm
/-- of each basis word that v meets oddly the highest place -/
def gW (v : Nat) : List Nat → Nat
  | [] => 0
  | b :: B => pw (par v b) (2 ^ b.log2) ^^^ gW v B
theorem xor4 (a b c d : Nat) : (a ^^^ b) ^^^ (c ^^^ d) = (a ^^^ c) ^^^ (b ^^^ d) := by
  rw [Nat.xor_assoc, ← Nat.xor_assoc b, Nat.xor_comm b c, Nat.xor_assoc c, ← Nat.xor_assoc a]
theorem gW_xor (u v : Nat) : ∀ B : List Nat, gW (u ^^^ v) B = gW u B ^^^ gW v B
  | [] => (Nat.xor_zero 0).symm
  | b :: B => by
    show pw (par (u ^^^ v) b) (2 ^ b.log2) ^^^ gW (u ^^^ v) B = (pw (par u b) (2 ^ b.log2) ^^^ gW u B) ^^^ (pw (par v b) (2 ^ b.log2) ^^^ gW v B)
    rw [gW_xor u v B, par_xor, pw_xor, xor4]
theorem gW_snoc (v b : Nat) : ∀ B : List Nat, gW v (B ++ [b]) = gW v B ^^^ pw (par v b) (2 ^ b.log2)
  | [] => by
    show pw _ _ ^^^ 0 = 0 ^^^ pw _ _
    rw [Nat.xor_zero, Nat.zero_xor]
  | c :: B => by
    show pw _ _ ^^^ gW v (B ++ [b]) = (pw _ _ ^^^ gW v B) ^^^ _
    rw [gW_snoc v b B, Nat.xor_assoc]
theorem log_lt {n c : Nat} (h0 : c ≠ 0) (h : c < 2 ^ n) : c.log2 < n := (Nat.log2_lt h0).mpr h
section
variable {n : Nat} {A B D : List Nat}
theorem par_gW (pl : Plain B) (lt : ∀ b ∈ B, b < 2 ^ 24) (v : Nat) {c : Nat} (hc : c ∈ B) : ∀ B' : List Nat, B'.Nodup → (∀ b ∈ B', b ∈ B) → par (gW v B') c = (decide (c ∈ B') && par v c)
  | [], _, _ => by
    show par 0 c = _
    rw [par_zero]
    simp
  | b :: B', nd, sub => by
    obtain ⟨n1, n2⟩ := List.nodup_cons.mp nd
    have hb := sub b List.mem_cons_self
    have lb := log_lt (pl.1.2 b hb) (lt b hb)
    show par (pw _ _ ^^^ gW v B') c = _
    rw [par_xor, par_pw, par_pow lb, par_gW pl lt v hc B' n2 fun x hx => sub x (List.mem_cons_of_mem _ hx)]
    by_cases e : b = c
    · subst e
      rw [top_bit (pl.1.2 b hb)]
      simp [n1]
    · rw [piv_off pl.1 hb hc e]
      have e2 : ¬ c = b := fun z => e z.symm
      simp [e2]
theorem gW_top (pl : Plain B) (lt : ∀ b ∈ B, b < 2 ^ 24) {c : Nat} (hc : c ∈ B) : ∀ B' : List Nat, B'.Nodup → (∀ b ∈ B', b ∈ B) → gW (2 ^ c.log2) B' = pw (decide (c ∈ B')) (2 ^ c.log2)
  | [], _, _ => rfl
  | b :: B', nd, sub => by
    obtain ⟨n1, n2⟩ := List.nodup_cons.mp nd
    have hb := sub b List.mem_cons_self
    have lc := log_lt (pl.1.2 c hc) (lt c hc)
    show pw _ _ ^^^ gW _ B' = _
    rw [gW_top pl lt hc B' n2 fun x hx => sub x (List.mem_cons_of_mem _ hx), par_pow lc]
    by_cases e : b = c
    · subst e
      rw [top_bit (pl.1.2 b hb)]
      simp [n1, pw]
    · rw [piv_off pl.1 hc hb (fun z => e z.symm)]
      have e2 : ¬ c = b := fun z => e z.symm
      simp [e2, pw]
/-- a word, even to the basis -/
def fW (B : List Nat) (v : Nat) : Nat := v ^^^ gW v B
theorem linF_gW (B : List Nat) : LinF fun v => gW v B := fun u v => gW_xor u v B
theorem linF_fW (B : List Nat) : LinF (fW B) := linF_xor linF_id (linF_gW B)
theorem fW_even (pl : Plain B) (lt : ∀ b ∈ B, b < 2 ^ 24) (v : Nat) {c : Nat} (hc : c ∈ B) : par (fW B v) c = false := by
  unfold fW
  rw [par_xor, par_gW pl lt v hc B (piv_nodup pl.1) fun _ h => h]
  simp [hc]
theorem gW_none {v : Nat} : ∀ {B : List Nat}, (∀ b ∈ B, par v b = false) → gW v B = 0
  | [], _ => rfl
  | b :: B, h => by
    show pw _ _ ^^^ gW v B = 0
    rw [h b List.mem_cons_self, gW_none fun c hc => h c (List.mem_cons_of_mem _ hc), Nat.xor_zero]
    rfl
theorem gW_zero (pl : Plain B) (lt : ∀ b ∈ B, b < 2 ^ 24) {v : Nat} : gW v B = 0 ↔ ∀ b ∈ B, par v b = false := by
  refine ⟨fun h b hb => ?_, gW_none⟩
  have := fW_even pl lt v hb
  unfold fW at this
  rwa [h, Nat.xor_zero] at this
theorem gW_lt {v : Nat} : ∀ {B : List Nat}, (∀ b ∈ B, b ≠ 0 ∧ b < 2 ^ n) → gW v B < 2 ^ n
  | [], _ => Nat.two_pow_pos n
  | b :: B, h => by
    refine Nat.xor_lt_two_pow ?_ (gW_lt fun c hc => h c (List.mem_cons_of_mem _ hc))
    obtain ⟨b0, bl⟩ := h b List.mem_cons_self
    unfold pw
    split
    · exact Nat.pow_lt_pow_right (by decide) (log_lt b0 bl)
    · exact Nat.two_pow_pos n
def conB (n : Nat) (B : List Nat) : List Nat := (List.range n).map fun i => fW B (2 ^ i)
theorem conB_lt (pl : Plain B) (ltB : ∀ b ∈ B, b < 2 ^ n) : ∀ c ∈ conB n B, c < 2 ^ n := fun c hc => by
  obtain ⟨i, hi, rfl⟩ := List.mem_map.mp hc
  exact Nat.xor_lt_two_pow (Nat.pow_lt_pow_right (by decide) (List.mem_range.mp hi)) (gW_lt fun b hb => ⟨pl.1.2 b hb, ltB b hb⟩)
theorem con_span (pl : Plain B) (n24 : n ≤ 24) (ltB : ∀ b ∈ B, b < 2 ^ n) (v : Nat) : span (bas (conB n B)) v ↔ v < 2 ^ n ∧ ∀ b ∈ B, par v b = false := by
  have lt : ∀ b ∈ B, b < 2 ^ 24 := fun b hb => lt24 n24 (ltB b hb)
  rw [bas_span]
  constructor
  · intro h
    refine ⟨span_lt (conB_lt pl ltB) h, ?_⟩
    have e : conB n B = ((List.range n).map (2 ^ ·)).map (fW B) := by
      unfold conB
      rw [List.map_map]
      rfl
    rw [e, span_map (linF_fW B)] at h
    obtain ⟨a, _, rfl⟩ := h
    exact fun b hb => fW_even pl lt a hb
  · rintro ⟨h1, h2⟩
    have e : conB n B = ((List.range n).map (2 ^ ·)).map (fW B) := by
      unfold conB
      rw [List.map_map]
      rfl
    rw [e, span_map (linF_fW B)]
    refine ⟨v, (span_units n v).mpr h1, ?_⟩
    unfold fW
    rw [gW_none h2, Nat.xor_zero]
theorem par_span {v : Nat} : (∀ b ∈ B, par v b = false) ↔ ∀ b, span B b → par v b = false := by
  constructor
  · intro h b hb
    exact hb (fun b => par v b = false) ⟨by show par v 0 = false; rw [par_comm, par_zero], fun a c (ha : par v a = false) (hc : par v c = false) => by show par v (a ^^^ c) = false; rw [par_comm, par_xor, par_comm a, par_comm c, ha, hc]; rfl⟩ h
  · exact fun h b hb => h b (span_mem hb)
theorem con_spanS (pl : Plain B) (n24 : n ≤ 24) (ltB : ∀ b ∈ B, b < 2 ^ n) (v : Nat) : span (bas (conB n B)) v ↔ v < 2 ^ n ∧ ∀ b, span B b → par v b = false := by
  rw [con_span pl n24 ltB, par_span]
theorem units_len (n : Nat) : (bas ((List.range n).map (2 ^ ·))).length = n := by
  have h : SpanL ((List.range n).map (2 ^ ·)) (List.range (2 ^ n)) := ⟨fun v => by rw [List.mem_range, span_units], List.pairwise_lt_range⟩
  have := h.len
  rw [List.length_range] at this
  exact (pow_inj this).symm
theorem tops_plain (pl : Plain B) : Plain (B.map fun b => 2 ^ b.log2) := by
  have l := plain_logs pl
  refine ⟨⟨?_, fun x hx => ?_⟩, ?_⟩
  · rw [List.pairwise_map]
    refine l.imp fun {b c} k => ?_
    have ne : ¬ c.log2 = b.log2 := by omega
    have ne2 : ¬ b.log2 = c.log2 := by omega
    constructor
    · rw [Nat.log2_two_pow, Nat.testBit_two_pow]
      simp [ne, ne2]
    · rw [Nat.log2_two_pow, Nat.testBit_two_pow]
      simp [ne, ne2]
  · obtain ⟨b, _, rfl⟩ := List.mem_map.mp hx
    exact Nat.ne_of_gt (Nat.two_pow_pos _)
  · rw [List.pairwise_map]
    exact l.imp fun {b c} k => Nat.pow_lt_pow_right (by decide) k
theorem gW_span {v : Nat} : ∀ (B : List Nat), span (B.map fun b => 2 ^ b.log2) (gW v B)
  | [] => span_zero _
  | b :: B => by
    refine span_xor ?_ (span_sub (fun w hw => span_mem (List.mem_cons_of_mem _ hw)) (gW_span B))
    unfold pw
    split
    · exact span_mem List.mem_cons_self
    · exact span_zero _
theorem con_dim (pl : Plain B) (n24 : n ≤ 24) (ltB : ∀ b ∈ B, b < 2 ^ n) : (bas (conB n B)).length + B.length = n := by
  have lt : ∀ b ∈ B, b < 2 ^ 24 := fun b hb => lt24 n24 (ltB b hb)
  have h := rank_null (ws := (List.range n).map (2 ^ ·)) (us := B.map fun b => 2 ^ b.log2) (ks := bas (conB n B)) (linF_gW B) (fun v => ?_) fun v => ?_
  · rw [units_len, bas_self (tops_plain pl), bas_self (bas_plain _), List.length_map] at h
    omega
  · constructor
    · intro hv
      have : span (((B.map fun b => 2 ^ b.log2)).map fun v => gW v B) v := by
        rw [List.map_map]
        have e : B.map ((fun v => gW v B) ∘ fun b => 2 ^ b.log2) = B.map fun b => 2 ^ b.log2 := List.map_congr_left fun b hb => by
          show gW (2 ^ b.log2) B = _
          rw [gW_top pl lt hb B (piv_nodup pl.1) fun _ h => h, decide_eq_true hb]
          rfl
        rw [e]
        exact hv
      obtain ⟨u, hu, e⟩ := (span_map (linF_gW B)).mp this
      refine ⟨u, (span_units n u).mpr (span_lt (fun w hw => ?_) hu), e⟩
      obtain ⟨b, hb, rfl⟩ := List.mem_map.mp hw
      exact Nat.pow_lt_pow_right (by decide) (log_lt (pl.1.2 b hb) (ltB b hb))
    · rintro ⟨u, _, rfl⟩
      exact gW_span B
  · rw [con_span pl n24 ltB, span_units, gW_zero pl lt]
/-- a room within another one of the same dimension is that one -/
theorem sub_dim (pA : Plain A) (pB : Plain B) (h : ∀ v, span A v → span B v) (e : A.length = B.length) (v : Nat) : span A v ↔ span B v := by
  have sA := words_spanL pA
  have sB := words_spanL pB
  refine ⟨h v, fun hv => ?_⟩
  have l1 := sA.len
  have l2 := sB.len
  rw [bas_self pA] at l1
  rw [bas_self pB] at l2
  have e2 : ((wordsOf B).filter fun x => decide (x ∈ wordsOf A)).length = (wordsOf A).length := len_same (sB.nd.filter _) sA.nd fun x => by
    rw [List.mem_filter, decide_eq_true_iff]
    exact ⟨fun k => k.2, fun k => ⟨(sB.1 x).mpr (h x ((sA.1 x).mp k)), k⟩⟩
  have e3 : ((wordsOf B).filter fun x => decide (x ∈ wordsOf A)).length = (wordsOf B).length := by rw [e2, l1, l2, e]
  have := List.length_filter_eq_length_iff.mp e3 v ((sB.1 v).mpr hv)
  exact (sA.1 v).mp (of_decide_eq_true this)
theorem con_lt (pl : Plain B) (ltB : ∀ b ∈ B, b < 2 ^ n) : ∀ c ∈ bas (conB n B), c < 2 ^ n := bas_lt (conB_lt pl ltB)
theorem con_con (pl : Plain B) (n24 : n ≤ 24) (ltB : ∀ b ∈ B, b < 2 ^ n) (v : Nat) : span (bas (conB n (bas (conB n B)))) v ↔ span B v := by
  have pD := bas_plain (conB n B)
  have ltD := con_lt pl ltB
  have d1 := con_dim pl n24 ltB
  have d2 := con_dim pD n24 ltD
  refine (sub_dim pl (bas_plain _) (fun v hv => ?_) (by omega) v).symm
  rw [con_spanS pD n24 ltD]
  refine ⟨span_lt ltB hv, fun b hb => ?_⟩
  rw [par_comm]
  exact ((con_spanS pl n24 ltB b).mp hb).2 v hv
/-- the contrary turns about what lies in what -/
theorem con_le (pA : Plain A) (pB : Plain B) (n24 : n ≤ 24) (ltA : ∀ b ∈ A, b < 2 ^ n) (ltB : ∀ b ∈ B, b < 2 ^ n) (h : ∀ v, span A v → span B v) (v : Nat) (hv : span (bas (conB n B)) v) : span (bas (conB n A)) v := by
  rw [con_spanS pA n24 ltA]
  obtain ⟨h1, h2⟩ := (con_spanS pB n24 ltB v).mp hv
  exact ⟨h1, fun b hb => h2 b (h b hb)⟩
theorem con_congr (pA : Plain A) (pB : Plain B) (n24 : n ≤ 24) (ltA : ∀ b ∈ A, b < 2 ^ n) (ltB : ∀ b ∈ B, b < 2 ^ n) (h : ∀ v, span A v ↔ span B v) (v : Nat) : span (bas (conB n A)) v ↔ span (bas (conB n B)) v :=
  ⟨con_le pB pA n24 ltB ltA (fun v => (h v).mpr) v, con_le pA pB n24 ltA ltB (fun v => (h v).mp) v⟩
theorem con_sum (pA : Plain A) (pB : Plain B) (n24 : n ≤ 24) (ltA : ∀ b ∈ A, b < 2 ^ n) (ltB : ∀ b ∈ B, b < 2 ^ n) (v : Nat) : span (bas (conB n (bas (A ++ B)))) v ↔ span (lowB n (comB n (bas (conB n A)) (bas (conB n B)))) v := by
  have ltS : ∀ c ∈ bas (A ++ B), c < 2 ^ n := bas_lt fun c hc => (List.mem_append.mp hc).elim (ltA c) (ltB c)
  rw [con_spanS (bas_plain _) n24 ltS, comB_span (con_lt pA ltA), con_spanS pA n24 ltA, con_spanS pB n24 ltB]
  constructor
  · rintro ⟨h1, h2⟩
    exact ⟨⟨h1, fun b hb => h2 b ((bas_span _ _).mpr (span_left hb))⟩, h1, fun b hb => h2 b ((bas_span _ _).mpr (span_right hb))⟩
  · rintro ⟨⟨h1, h2⟩, _, h3⟩
    refine ⟨h1, fun b hb => ?_⟩
    obtain ⟨x, y, hx, hy, rfl⟩ := span_append.mp ((bas_span _ _).mp hb)
    rw [par_comm, par_xor, par_comm x, par_comm y, h2 x hx, h3 y hy]
    rfl
theorem con_common (pA : Plain A) (pB : Plain B) (n24 : n ≤ 24) (ltA : ∀ b ∈ A, b < 2 ^ n) (ltB : ∀ b ∈ B, b < 2 ^ n) (v : Nat) : span (bas (conB n (lowB n (comB n A B)))) v ↔ span (bas (bas (conB n A) ++ bas (conB n B))) v := by
  have pS := bas_plain (bas (conB n A) ++ bas (conB n B))
  have ltS : ∀ c ∈ bas (bas (conB n A) ++ bas (conB n B)), c < 2 ^ n := bas_lt fun c hc => (List.mem_append.mp hc).elim (con_lt pA ltA c) (con_lt pB ltB c)
  rw [← con_con pS n24 ltS]
  refine con_congr (lowB_plain _ _) (bas_plain _) n24 lowB_lt (con_lt pS ltS) (fun u => ?_) v
  rw [con_sum (bas_plain _) (bas_plain _) n24 (con_lt pA ltA) (con_lt pB ltB), comB_span ltA, comB_span (con_lt (bas_plain _) (con_lt pA ltA)), con_con pA n24 ltA, con_con pB n24 ltB]
end
end Vf
set_option Elab.async false
set_option linter.all false
set_option maxRecDepth 100000
set_option maxHeartbeats 4000000
namespace Vf
open PySem PySem.Spec PyProof.Rows L2
variable {W : Wd}
section
variable {Ds Es Fs : EnvT W} {cs cs1 cs2 : List (Nat × List V)} {d d1 d2 : Dn W} {te ti tl tb : TE} {t ta : TA} {tt : TT} {ts tu t1 t2 : TS} {i j k n m : Nat} {K : PySem.W.Frag} {xs ys zs : List V} {l : List Nat}
theorem sd_highest (h0 : m ≠ 0) (h : m < 2 ^ 64) : SpD (W := W) sp_highest [] [dN m] (dN (2 ^ m.log2)) := fun vs H Q iv o q => by
  match vs, o with
  | [v], ⟨e, _⟩ =>
    rw [show v = V.int (m : Int) from e]
    exact ⟨m, rfl, h0, h, q _ H (W.refl H) rfl⟩
/-! slices -/
theorem cutTo' (xs : List V) (n : Nat) : cutV xs none (some (n : Int)) = xs.take n := by
  unfold cutV
  rw [HT.sIx_none, show HT.sIx xs.length xs.length (some (n : Int)) = min n xs.length from HT.sIx_nat xs.length xs.length n, List.drop_zero, Nat.sub_zero]
  rcases Nat.le_total n xs.length with h | h
  · rw [Nat.min_eq_left h]
  · rw [Nat.min_eq_right h, List.take_length, List.take_of_length_le h]
/-! searches -/
/-! comprehensions whose elements are told in part alone -/
theorem wipe2 {σ : L2.St} {x y : V} (ne : i ≠ j) : wipe (((wipe σ [i, j]).set i (some x)).set j (some y)) [i, j] = wipe σ [i, j] := by
  show (((((σ.set j none).set i none).set i (some x)).set j (some y)).set j none).set i none = (σ.set j none).set i none
  have e1 : ((σ.set j none).set i none).set i (some x) = (σ.set j none).set i (some x) := by rw [List.set_set]
  have e2 : (((σ.set j none).set i (some x)).set j (some y)).set j none = ((σ.set j none).set i (some x)).set j none := by rw [List.set_set]
  have e3 : ((σ.set j none).set i (some x)).set j none = ((σ.set j none).set j none).set i (some x) := by rw [List.set_comm _ _ ne]
  have e4 : (((σ.set j none).set j none).set i (some x)).set i none = ((σ.set j none).set j none).set i none := by rw [List.set_set]
  have e5 : (σ.set j none).set j none = σ.set j none := by rw [List.set_set]
  rw [e1, e2, e3, e4, e5]
theorem env_wipe {σ : L2.St} {H : Hp} {x y : V} (o1 : d1.ok x H) (o2 : d2.ok y H) (en : EnvL Ds σ H) (ne : i ≠ j) : EnvL ((Ds.set i (some d1)).set j (some d2)) (((wipe σ [i, j]).set i (some x)).set j (some y)) H := by
  show EnvL _ ((((σ.set j none).set i none).set i (some x)).set j (some y)) H
  have e1 : ((σ.set j none).set i none).set i (some x) = (σ.set j none).set i (some x) := by rw [List.set_set]
  have e2 : (σ.set j none).set i (some x) = (σ.set i (some x)).set j none := by rw [List.set_comm _ _ ne]
  have e3 : ((σ.set i (some x)).set j none).set j (some y) = (σ.set i (some x)).set j (some y) := by rw [List.set_set]
  rw [e1, e2, e3]
  exact EnvL.set (i := j) o2 (EnvL.set (i := i) o1 en)
/-! what holds as long as no cell changes -/
theorem nvv_appendX {ι : Type} {P : ι → Prop} {f : ι → V} (g : getC cs i = some xs) (h : EV Fs te (dEx P fun x => dV (f x))) (z : xs.length < 100000) (cs' : List (Nat × List V) → Prop) (q0 : ∀ x, P x → cs' (setC cs i (xs ++ [f x]))) :
    ∀ (D : Ends) (σ : L2.St) (H G : Hp), CE W cs σ H G → W.inv G → EnvL Ds σ G → EnvL Fs σ H → (∀ c σ' H' G', cs' c → CE W c σ' H' G' → W.L G G' → EnvL Ds σ' G' → D.nx σ' H') → tDrop (tBM K "list" rAppend (tVar i) (tCons te tNil)) D σ H := fun D σ H G ce iv en ef q => by
  obtain ⟨p, e, hp⟩ := cell_at ce g
  refine ⟨.ref p, e, .inl ⟨rfl, _, SqL.of hp⟩, h σ H _ (W.step (ce.up iv) iv) ef fun v H1 l ⟨x, px, o⟩ => ?_⟩
  obtain ⟨G1, c1, l1⟩ := ce.go l
  obtain ⟨p2, e2, hp2, c2⟩ := c1.change (ys := xs ++ [f x]) g
  rw [e] at e2
  cases e2
  rw [show v = f x from o]
  exact ⟨p, xs, f x, rfl, rfl, hp2, sl_lt (by omega), q _ _ _ _ (q0 x px) c2 l1 (en.st l1)⟩
end
end Vf
set_option Elab.async false
set_option linter.all false
set_option maxRecDepth 100000
set_option maxHeartbeats 4000000
namespace Vf
/-! ### still rooms, own rooms -/
/-- the first two that meet oddly -/
def oddP : List Nat → Option (Nat × Nat)
  | [] => none
  | w :: ws => match (w :: ws).find? (par w) with
    | some o => some (w, o)
    | none => oddP ws
def stillB (B : List Nat) : Bool := (oddP B).isNone
section
variable {n m v w : Nat} {A B D L : List Nat}
theorem still_cons : stillB (w :: B) = true ↔ (∀ o ∈ w :: B, par w o = false) ∧ stillB B = true := by
  unfold stillB
  rw [oddP]
  cases h : (w :: B).find? (par w) with
  | some o =>
    refine ⟨fun k => (by cases k), fun k => ?_⟩
    have h1 := List.find?_some h
    rw [k.1 o (List.mem_of_find?_eq_some h)] at h1
    cases h1
  | none =>
    have h1 := List.find?_eq_none.mp h
    exact ⟨fun k => ⟨fun o ho => Bool.eq_false_iff.mpr (h1 o ho), k⟩, fun k => k.2⟩
theorem still_iff : ∀ {B : List Nat}, stillB B = true ↔ ∀ a ∈ B, ∀ b ∈ B, par a b = false
  | [] => ⟨fun _ a ha => (List.not_mem_nil ha).elim, fun _ => rfl⟩
  | w :: B => by
    rw [still_cons, still_iff (B := B)]
    constructor
    · rintro ⟨h1, h2⟩ a ha b hb
      rcases List.mem_cons.mp ha with rfl | ha'
      · exact h1 b hb
      · rcases List.mem_cons.mp hb with rfl | hb'
        · rw [par_comm]
          exact h1 a (List.mem_cons_of_mem _ ha')
        · exact h2 a ha' b hb'
    · intro h
      exact ⟨fun o ho => h w List.mem_cons_self o ho, fun a ha b hb => h a (List.mem_cons_of_mem _ ha) b (List.mem_cons_of_mem _ hb)⟩
theorem still_span : stillB B = true ↔ ∀ a, span B a → ∀ b, span B b → par a b = false := by
  rw [still_iff]
  constructor
  · intro h a ha b hb
    have h1 : ∀ c ∈ B, par b c = false := fun c hc => by
      have := (par_span (v := c)).mp (fun x hx => h c hc x hx) b hb
      rwa [par_comm]
    have := par_span.mp h1 a ha
    rwa [par_comm]
  · exact fun h a ha b hb => h a (span_mem ha) b (span_mem hb)
theorem still_con (pl : Plain B) (n24 : n ≤ 24) (ltB : ∀ b ∈ B, b < 2 ^ n) : stillB B = true ↔ ∀ v, span B v → span (bas (conB n B)) v := by
  rw [still_span]
  constructor
  · exact fun h v hv => (con_spanS pl n24 ltB v).mpr ⟨span_lt ltB hv, fun b hb => h v hv b hb⟩
  · exact fun h a ha b hb => ((con_spanS pl n24 ltB a).mp (h a ha)).2 b hb
theorem dim_le (pA : Plain A) (pB : Plain B) (h : ∀ v, span A v → span B v) : A.length ≤ B.length := by
  have sA := words_spanL pA
  have sB := words_spanL pB
  have l1 := sA.len
  have l2 := sB.len
  rw [bas_self pA] at l1
  rw [bas_self pB] at l2
  have e2 : ((wordsOf B).filter fun x => decide (x ∈ wordsOf A)).length = (wordsOf A).length := len_same (sB.nd.filter _) sA.nd fun x => by
    rw [List.mem_filter, decide_eq_true_iff]
    exact ⟨fun k => k.2, fun k => ⟨(sB.1 x).mpr (h x ((sA.1 x).mp k)), k⟩⟩
  have le := List.length_filter_le (fun x => decide (x ∈ wordsOf A)) (wordsOf B)
  rw [e2, l1, l2] at le
  exact (Nat.pow_le_pow_iff_right (by decide)).mp le
def ownB (n : Nat) (B : List Nat) : Bool := stillB B && decide (2 * B.length = n)
theorem own_iff (pl : Plain B) (n24 : n ≤ 24) (ltB : ∀ b ∈ B, b < 2 ^ n) : ownB n B = true ↔ B = bas (conB n B) := by
  unfold ownB
  rw [Bool.and_eq_true, decide_eq_true_iff]
  have d := con_dim pl n24 ltB
  constructor
  · rintro ⟨h1, h2⟩
    exact plain_unique pl (bas_plain _) (sub_dim pl (bas_plain _) ((still_con pl n24 ltB).mp h1) (by omega))
  · intro h
    refine ⟨(still_con pl n24 ltB).mpr fun v hv => by rw [← h]; exact hv, ?_⟩
    rw [← h] at d
    omega
/-! parities of words beside one another -/
end
open PySem PySem.Spec PyProof.Rows L2
variable {W : Wd}
section
variable {C p : Addr} {n m : Nat} {A B ws l : List Nat}
/-! ### what the defs of contraries mean -/
structure EwP (i : Nat × List Nat) : Prop where
  i24 : i.1 < 24
  pl : Plain i.2
  lt : ∀ b ∈ i.2, b < 2 ^ 24
def sp_even_word : Sp := spW (ι := Nat × List Nat) (fun _ i => EwP i) (fun _ i => [dN (2 ^ i.1), dVs i.2]) fun _ i => dN (fW i.2 (2 ^ i.1))
theorem sd_even_word (h : n < 24) (pl : Plain B) (lt : ∀ b ∈ B, b < 2 ^ 24) : SpD sp_even_word [] [(dN (2 ^ n) : Dn W), dVs B] (dN (fW B (2 ^ n))) := spW_sd (i := (n, B)) ⟨h, pl, lt⟩
def sp_contrary (C : Addr) : Sp := spW (ι := Nat × List Nat) (fun _ _ => True) (fun _ i => [dRoom C i.1 i.2]) fun _ i => dRoom C i.1 (bas (conB i.1 i.2))
theorem sd_contrary : SpD (sp_contrary C) [] [(dRoom C n B : Dn W)] (dRoom C n (bas (conB n B))) := spW_sd (i := (n, B)) trivial
/-! the laws' own -/
end
end Vf
set_option Elab.async false
set_option linter.all false
set_option maxRecDepth 100000
set_option maxHeartbeats 4000000
namespace Vf
open PySem PySem.Spec PyProof.Rows L2
variable {W : Wd}
/-! ### cells whose content is told in part alone -/
def NVX (Ds : EnvT W) (cs : List (Nat × List V)) (ts : TS) (Es : EnvT W) (P : List (Nat × List V) → Prop) : Prop := ∀ (D : Ends) (σ : L2.St) (H G : Hp), CE W cs σ H G → W.inv G → EnvL Ds σ G →
  (∀ c σ' H' G', P c → CE W c σ' H' G' → W.L G G' → EnvL Es σ' G' → D.nx σ' H') → ts D σ H
section
variable {Ds Es Fs : EnvT W} {cs cs1 cs2 : List (Nat × List V)} {P Q : List (Nat × List V) → Prop} {d d1 d2 : Dn W} {te ti tl tb : TE} {t ta : TA} {tt : TT} {ts tu t1 t2 : TS} {i j k n m : Nat} {K : PySem.W.Frag} {xs ys zs : List V} {l : List Nat}
theorem nvx_wk (is : List Nat) (h : NVX Ds cs ts Es P) (e : forget Es is = Fs) : NVX Ds cs ts Fs P := fun D σ H G ce iv en q => h D σ H G ce iv en fun c σ' H' G' p c' l' e' => q c σ' H' G' p c' l' (e ▸ e'.forget is)
theorem nvx_imp (h : NVX Ds cs ts Es Q) (k : ∀ c, Q c → P c) : NVX Ds cs ts Es P := fun D σ H G ce iv en q => h D σ H G ce iv en fun c σ' H' G' p c' l' e' => q c σ' H' G' (k c p) c' l' e'
theorem nvx_append {ι : Type} {R : ι → Prop} {f : ι → V} (g : getC cs i = some xs) (h : EV (withC Ds cs) te (dEx R fun x => dV (f x))) (z : xs.length < 100000) :
    NVX Ds cs (tDrop (tBM K "list" rAppend (tVar i) (tCons te tNil))) Ds (fun c => ∃ x, R x ∧ c = setC cs i (xs ++ [f x])) := fun D σ H G ce iv en q =>
  nvv_appendX (Ds := Ds) (Fs := withC Ds cs) g h z (fun c => ∃ x, R x ∧ c = setC cs i (xs ++ [f x])) (fun x px => ⟨x, px, rfl⟩) D σ H G ce iv en (ce.env iv en) q
/-- for k in range(n), n told in part alone -/
theorem svx_forR {ι : Type} {Pn : ι → Prop} {f : ι → Nat} (I : Nat → List (Nat × List V) → Prop) (is : List Nat) (hl : AX (withC Ds cs) ta Pn fun x => [dN (f x)]) (hz : ∀ x, Pn x → f x < 2 ^ 62) (h0 : I 0 cs) (he : forget Ds is = Fs)
    (hs : ∀ k c, I k c → (c.all fun c => !(Nat.beq c.1 i)) = true) (hb : ∀ x k c, Pn x → k < f x → I k c → NVX (Fs.set i (some (dN k))) c ts Fs (I (k + 1))) (hk : ∀ x c, Pn x → I (f x) c → SVC Fs c tu d) :
    SVC Ds cs (tSeq (tFor (iRng1 ta) (gName i) ts) tu) d := fun D σ H G ce iv en q =>
  hl σ H _ (W.step (ce.up iv) iv) (ce.env iv en) fun x0 vs H1 px l1 o1 => by
    match vs, o1 with
    | [v], ⟨o1, _⟩ =>
      obtain ⟨G1, c1, lG⟩ := ce.go l1
      have iv1 := W.step lG iv
      have hz := hz x0 px
      refine ⟨(f x0 : Int), by rw [show v = V.int (f x0 : Int) from o1], by omega, by omega, ?_⟩
      refine for_range (lo := 0) (n := (f x0 : Int).toNat) (fun k σ' H' => ∃ c G', I k c ∧ CE W c σ' H' G' ∧ W.L G1 G' ∧ EnvL Fs σ' G') ⟨cs, G1, h0, c1, W.refl G1, he ▸ (en.st lG).forget is⟩ (fun k σ' H' hk hP => ?_) fun σ' H' hP => ?_
      · rw [Int.toNat_natCast] at hk
        obtain ⟨c, G', ic, cP, lP, eP⟩ := hP
        exact hb x0 k c px hk ic _ _ H' G' (cP.slot (hs k c ic)) (W.step lP iv1) (eP.set (show V.int (0 + (k : Int)) = V.int (k : Int) by rw [Int.zero_add])) fun c2 σ2 H2 G2 p2 c2' l2 e2 => ⟨c2, G2, p2, c2', W.trans lP l2, e2⟩
      · rw [Int.toNat_natCast] at hP
        obtain ⟨c, G', ic, cP, lP, eP⟩ := hP
        exact hk x0 c px ic D σ' H' G' cP (W.step lP iv1) eP fun v H2 l2 o => q v H2 (W.trans lG (W.trans lP l2)) o
/-- return the cell -/
theorem svc_ret (g : getC cs i = some xs) (h : d.ok = (dLst xs : Dn W).ok) : SVC Ds cs (tRet (tVar i)) d := fun D σ H G ce iv en q => by
  obtain ⟨p, e, hp⟩ := cell_at ce g
  refine ⟨.ref p, e, q _ H (ce.up iv) ?_⟩
  rw [h]
  refine ⟨p, rfl, ?_, hp⟩
  have : ∀ {cs : List (Nat × List V)} {σ : L2.St} {H G : Hp}, CE W cs σ H G → ∀ {xs : List V}, getC cs i = some xs → ∀ {p : Addr}, σ[i]? = some (some (.ref p)) → W.F p := by
    intro cs
    induction cs with
    | nil => intro σ H G _ xs g; cases g
    | cons c cs ih =>
      intro σ H G ⟨r, e1, f, _, h2⟩ xs g p e2
      have g : (bif Nat.beq c.1 i then some c.2 else getC cs i) = some xs := g
      cases kk : Nat.beq c.1 i with
      | true =>
        have := Nat.eq_of_beq_eq_true kk
        rw [this, e2] at e1
        cases e1
        exact f
      | false =>
        rw [kk] at g
        exact ih h2 g e2
  exact this ce g e
end
/-! ### finding -/
end Vf
namespace Vf
open PySem PySem.Spec PyProof.Rows L2
variable {W : Wd}
section
variable {C p : Addr} {n m w : Nat} {A B ws l : List Nat}
end
end Vf
set_option Elab.async false
set_option linter.all false
set_option maxRecDepth 100000
set_option maxHeartbeats 4000000
namespace Vf
/-! ### the laws' own plain bases and sums -/
section
variable {B L ws : List Nat} {v w : Nat}
/-- where the loop stands -/
structure Lpl (ws B : List Nat) : Prop where
  pv : Piv B
  sp : ∀ v, span B v ↔ span ws v
  ln : B.length ≤ ws.length
theorem Lpl.nil : Lpl [] [] := ⟨plain_nil.1, fun _ => Iff.rfl, Nat.le_refl _⟩
theorem Lpl.skip (h : Lpl ws B) (k : restOf w B = 0) : Lpl (ws ++ [w]) B := by
  refine ⟨h.pv, fun v => ?_, by rw [List.length_append]; exact Nat.le_succ_of_le h.ln⟩
  have hw : span ws w := (h.sp w).mp ((rest_zero h.pv w).mp k)
  rw [h.sp, span_append_of (ws := ws) (vs := [w]) fun x hx => by rw [List.mem_singleton.mp hx]; exact hw]
theorem Lpl.put (h : Lpl ws B) (k : restOf w B ≠ 0) : Lpl (ws ++ [w]) (B.map (clear1 (restOf w B)) ++ [restOf w B]) := by
  refine ⟨put_piv h.pv k fun x hx => rest_off h.pv w hx, fun v => ?_, ?_⟩
  · rw [put_span, rest_room h.pv, span_cons, h.sp, h.sp, ← span_cons]
    exact span_perm (List.perm_append_comm (l₁ := [w]) (l₂ := ws)) v
  · rw [List.length_append, List.length_append, List.length_map]
    exact Nat.succ_le_succ h.ln
theorem Lpl.bas (h : Lpl ws B) : (sortN B).reverse = bas ws := by
  refine bas_of ⟨?_, ?_⟩ fun v => ?_
  · exact piv_perm ((List.reverse_perm _).trans (sortN_perm B)).symm h.pv
  · rw [List.pairwise_reverse]
    exact sortN_lt (piv_nodup h.pv)
  · rw [span_perm ((List.reverse_perm _).trans (sortN_perm B)), h.sp]
/-- all sums, one word behind another -/
def spanU (ws : List Nat) : List Nat := ws.foldl (fun f w => f ++ f.map (· ^^^ w)) [0]
theorem spanU_len : ∀ ws : List Nat, (spanU ws).length = 2 ^ ws.length := by
  have : ∀ (ws f : List Nat), (ws.foldl (fun f w => f ++ f.map (· ^^^ w)) f).length = f.length * 2 ^ ws.length := fun ws => by
    induction ws with
    | nil => intro f; simp
    | cons w ws ih =>
      intro f
      rw [List.foldl_cons, ih, List.length_append, List.length_map, List.length_cons, Nat.pow_succ]
      rw [← Nat.two_mul, Nat.mul_comm 2 f.length, Nat.mul_assoc, Nat.mul_comm 2]
  intro ws
  have := this ws [0]
  rw [List.length_singleton, Nat.one_mul] at this
  exact this
end
open PySem PySem.Spec PyProof.Rows L2
variable {W : Wd}
section
variable {Ds Es Fs Gs : EnvT W} {d d1 d2 : Dn W} {te ti tl tb : TE} {t ta tk : TA} {tt : TT} {ts tu t1 t2 : TS} {i j k n m : Nat} {K : PySem.W.Frag} {xs ys zs : List V} {l ws : List Nat}
theorem open_env {σ : L2.St} {H : Hp} {ι : Type} {P : ι → Prop} {f : ι → Dn W} (e : Ds.get i = some (dEx P f)) (hi : Nat.ble (i + 1) Ds.n = true) (en : EnvL Ds σ H) : ∃ x, P x ∧ EnvL (Ds.set i (some (f x))) σ H := by
  obtain ⟨v, e1, x, px, o⟩ := en.get e hi
  have := EnvL.set (i := i) o en
  rw [set_id e1] at this
  exact ⟨x, px, this⟩
theorem nv_open {ι : Type} {P : ι → Prop} {f : ι → Dn W} (i : Nat) (e : Ds.get i = some (dEx P f)) (h : ∀ x, P x → NV (Ds.set i (some (f x))) ts Es) (hi : Nat.ble (i + 1) Ds.n = true := by rfl) : NV Ds ts Es := fun D σ H iv en q => by
  obtain ⟨x, px, en'⟩ := open_env e hi en
  exact h x px D σ H iv en' q
theorem sv_open {ι : Type} {P : ι → Prop} {f : ι → Dn W} (i : Nat) (e : Ds.get i = some (dEx P f)) (h : ∀ x, P x → SV (Ds.set i (some (f x))) ts d) (hi : Nat.ble (i + 1) Ds.n = true := by rfl) : SV Ds ts d := fun D σ H iv en q => by
  obtain ⟨x, px, en'⟩ := open_env e hi en
  exact h x px D σ H iv en' q
/-- a slot's meaning told in part alone -/
theorem nv_close {ι : Type} {P : ι → Prop} {f : ι → Dn W} {x : ι} (i : Nat) (h : NV Ds ts Gs) (g : Gs.get i = some (f x)) (px : P x) (hn : Fs.n = Gs.n) (k : AllIn (Gs.set i (some (dEx P f))) Fs.l) (hi : Nat.ble (i + 1) Gs.n = true := by rfl) : NV Ds ts Fs := fun D σ H iv en q => h D σ H iv en fun σ' H' l e => by
  obtain ⟨v, e1, o⟩ := e.get g hi
  have := EnvL.set (i := i) (d := dEx P f) (v := v) ⟨x, px, o⟩ e
  rw [set_id e1] at this
  exact q σ' H' l (this.sub hn k)
end
section
variable {n m : Nat} {ws l : List Nat} {C : Addr}
end
end Vf
namespace Vf
open PySem PySem.Spec PyProof.Rows L2
theorem env_close {W : Wd} {Fs Gs : EnvT W} {σ : L2.St} {H : Hp} {ι : Type} {P : ι → Prop} {f : ι → Dn W} {x : ι} (i : Nat) (e : EnvL Gs σ H) (g : Gs.get i = some (f x)) (px : P x) (hn : Fs.n = Gs.n) (k : AllIn (Gs.set i (some (dEx P f))) Fs.l) (hi : Nat.ble (i + 1) Gs.n = true := by rfl) : EnvL Fs σ H := by
  obtain ⟨v, e1, o⟩ := e.get g hi
  have := EnvL.set (i := i) (d := dEx P f) (v := v) ⟨x, px, o⟩ e
  rw [set_id e1] at this
  exact this.sub hn k
end Vf
namespace Vf
open PySem PySem.Spec PyProof.Rows L2
variable {W : Wd}
section
variable {n m N M : Nat} {ws l B : List Nat}
theorem SpanL.bas {B L : List Nat} (pl : Plain B) (h : SpanL B L) : bas L = B := (bas_of pl fun v => ⟨fun k => span_mem ((h.1 v).mpr k), span_sub fun w hw => (h.1 w).mp hw⟩).symm
end
end Vf
namespace Vf
open PySem PySem.Spec PyProof.Rows L2
end Vf
set_option Elab.async false
set_option linter.all false
set_option maxRecDepth 100000
set_option maxHeartbeats 4000000
namespace Vf
open PySem PySem.Spec PyProof.Rows L2
variable {W : Wd}
section
variable {Ds Es Fs : EnvT W} {cs cs1 cs2 : List (Nat × List V)} {P Q : List (Nat × List V) → Prop} {d d1 d2 : Dn W} {te ti tl tb : TE} {t ta : TA} {tt : TT} {ts tu t1 t2 : TS} {i j k n m : Nat} {K : PySem.W.Frag} {xs ys zs : List V} {l : List Nat}
theorem nvc_sub' {Gs : EnvT W} (h : NVC Ds cs ts Gs cs1) (hn : Es.n = Gs.n) (k : AllIn Gs Es.l) : NVC Ds cs ts Es cs1 := fun D σ H G ce iv en q => h D σ H G ce iv en fun σ' H' G' c l e => q σ' H' G' c l (e.sub hn k)
/-! a list made anew by list(range(..)) -/
end
end Vf
set_option Elab.async false
set_option linter.all false
set_option maxRecDepth 100000
set_option maxHeartbeats 4000000
namespace Vf
/-! ### led words by |, pairs, still lists -/
section
variable {n m k w : Nat} {s l B ws : List Nat}
theorem led_par {a b : Nat} (h : Seq n s) (n24 : n ≤ 24) (ha : a < 2 ^ n) : par (ledN s a) (ledN s b) = par a b := by
  unfold par
  rw [← ledN_and h.nd, ledN_pc h n24 (Nat.lt_of_le_of_lt Nat.and_le_left ha)]
theorem still_bas (h : ∀ a ∈ ws, ∀ b ∈ ws, par a b = false) : stillB (bas ws) = true := by
  rw [still_span]
  intro a ha b hb
  have ha := (bas_span ws a).mp ha
  have hb := (bas_span ws b).mp hb
  exact still_span.mp (still_iff.mpr h) a ha b hb
end
open PySem PySem.Spec PyProof.Rows L2
variable {W : Wd}
section
variable {p : Addr} {n m : Nat} {s l ws : List Nat}
end
end Vf
namespace Vf
open PySem PySem.Spec PyProof.Rows L2
theorem ev_neg {W : Wd} {Ds : EnvT W} {te : TE} {i : Int} (h : EV Ds te (dI i)) : EV Ds (tUn (rU fun i => .int (-i)) te) (dI (-i)) := fun σ H Q iv en q => h σ H _ iv en fun v H1 l o => ⟨i, o, q _ H1 l rfl⟩
end Vf
namespace Vf
end Vf
namespace Vf
section
variable {n m : Nat} {s B ws : List Nat}
/-- as many dimensions as words, if each top is off in the others -/
theorem piv_dim (h : Piv B) : (bas B).length = B.length := by
  obtain ⟨m1, n1, l1⟩ := sums_ok h
  have k := (SpanL.sort n1 m1).len
  rw [sortN_len, l1] at k
  exact (pow_inj k).symm
theorem exB_dim (hs : Seq n s) (ltB : ∀ b ∈ B, b < 2 ^ n) : (bas (exB B s)).length = (bas B).length := by
  have e : bas (exB B s) = bas (exB (bas B) s) := plain_unique (bas_plain _) (bas_plain _) fun v => by
    rw [exB_span hs, exB_span hs]
    exact ⟨fun ⟨a, ha, e⟩ => ⟨a, (bas_span B a).mpr ha, e⟩, fun ⟨a, ha, e⟩ => ⟨a, (bas_span B a).mp ha, e⟩⟩
  rw [e]
  exact ex_dim hs (bas_plain B) (bas_lt ltB) (words_spanL (bas_plain B))
end
end Vf
set_option Elab.async false
set_option linter.all false
set_option maxRecDepth 100000
set_option maxHeartbeats 4000000
namespace Vf
/-! ### fill-ups -/
section
variable {n k w : Nat} {A B ws : List Nat}
theorem pc_mask (h : n ≤ 24) : pc (2 ^ n - 1) = n := by
  rw [← spots_len]
  have e : spots (2 ^ n - 1) = List.range n := by
    refine up_eq ?_ List.pairwise_lt_range fun v => ?_
    · unfold spots spotsK
      exact (List.pairwise_lt_range).filter _
    · rw [spots_mem, List.mem_range, Nat.testBit_two_pow_sub_one, decide_eq_true_iff]
      omega
  rw [e, List.length_range]
theorem add_dim (pB : Plain B) (h : ¬ span B w) : (bas (B ++ [w])).length = B.length + 1 := by
  have l : Lpl B B := ⟨pB.1, fun _ => Iff.rfl, Nat.le_refl _⟩
  have r0 : restOf w B ≠ 0 := fun z => h ((rest_zero pB.1 w).mp z)
  have k := l.put r0
  have e : bas (B.map (clear1 (restOf w B)) ++ [restOf w B]) = bas (B ++ [w]) := plain_unique (bas_plain _) (bas_plain _) fun v => by rw [bas_span, bas_span, k.sp]
  rw [← e, piv_dim k.pv, List.length_append, List.length_map]
  rfl
theorem app_lt (h : ∀ b ∈ B, b < 2 ^ n) (hw : w < 2 ^ n) : ∀ b ∈ B ++ [w], b < 2 ^ n := fun b hb => (List.mem_append.mp hb).elim (h b) fun k => by rw [List.mem_singleton.mp k]; exact hw
theorem app_even (h : ∀ a ∈ B, ∀ b ∈ B, par a b = false) (k : ∀ b ∈ B, par w b = false) (ww : par w w = false) : ∀ a ∈ B ++ [w], ∀ b ∈ B ++ [w], par a b = false := fun a ha b hb => by
  rcases List.mem_append.mp ha with p | p <;> rcases List.mem_append.mp hb with q | q
  · exact h a p b q
  · rw [List.mem_singleton.mp q, par_comm]
    exact k a p
  · rw [List.mem_singleton.mp p]
    exact k b q
  · rw [List.mem_singleton.mp p, List.mem_singleton.mp q]
    exact ww
theorem own_len (h : ownB n B = true) : 2 * B.length = n := by
  unfold ownB at h
  exact of_decide_eq_true (Bool.and_eq_true _ _ |>.mp h).2
end
open PySem PySem.Spec PyProof.Rows L2
variable {W : Wd}
section
variable {C : Addr} {n m w : Nat} {A B ws : List Nat} {X : Cx}
/-! the defs -/
end
end Vf
namespace Vf
open PySem PySem.Spec PyProof.Rows L2
variable {W : Wd} {n N M : Nat} {ws : List Nat}
end Vf
set_option Elab.async false
set_option linter.all false
set_option maxRecDepth 100000
set_option maxHeartbeats 4000000
namespace Vf
/-! ### papers -/
inductive Pap where
  | none
  | odd (a b : Nat)
  | lacks (a : Nat)
def Pap.isNone : Pap → Bool
  | .none => true
  | _ => false
section
variable {n : Nat} {B : List Nat} {p : Pap}
end
open PySem PySem.Spec PyProof.Rows L2
variable {W : Wd}
section
variable {Ds : EnvT W} {d d1 d2 d3 : Dn W} {ds : List (Dn W)} {te ta tb tc : TE} {C : Addr} {n m k : Nat} {A B ws : List Nat} {K : PySem.W.Frag} {p : Pap} {r r' : R2}
theorem ev_chainT (ha : EV Ds ta d1) (hb : EV Ds tb d2) (h1 : OpD r d1 d2 (dB true)) (hc : EV Ds tc d3) (h2 : OpD r' d2 d3 d) : EV Ds (tChain r r' ta tb tc) d := fun σ H Q iv en q =>
  ha σ H _ iv en fun x H1 l1 o1 => hb σ H1 _ (W.step l1 iv) (en.st l1) fun y H2 l2 o2 => by
    have iv2 := W.step l2 (W.step l1 iv)
    refine h1 x y H2 _ iv2 (d1.st l2 o1) o2 fun z H3 l3 o3 => ⟨true, o3, ?_⟩
    rw [if_pos rfl]
    have iv3 := W.step l3 iv2
    refine hc σ H3 _ iv3 (((en.st l1).st l2).st l3) fun w H4 l4 o4 => ?_
    refine h2 y w H4 Q (W.step l4 iv3) (d2.st l4 (d2.st l3 o2)) o4 fun v H5 l5 o5 => q v H5 (W.trans l1 (W.trans l2 (W.trans l3 (W.trans l4 l5)))) o5
/-! the defs -/
theorem all_rep (k : Nat) : (List.replicate k true).all id = true := by simp
end
end Vf
namespace Vf
open PySem PySem.Spec PyProof.Rows L2
variable {W : Wd} {Ds : EnvT W} {tt t1 t2 : TT} {ts tu : TS} {d : Dn W}
end Vf
namespace Vf
open PySem PySem.Spec PyProof.Rows L2
end Vf
set_option Elab.async false
set_option linter.all false
set_option maxRecDepth 100000
set_option maxHeartbeats 400000
namespace Vf
/-! ### sums of signs, numbers by weight -/
def sg (b : Bool) : Int := if b then -1 else 1
theorem sg_xor (a b : Bool) : sg (a ^^ b) = sg a * sg b := by cases a <;> cases b <;> rfl
section
variable {α β : Type}
theorem sum_add' (f g : α → Int) : ∀ l : List α, (l.map fun x => f x + g x).sum = (l.map f).sum + (l.map g).sum
  | [] => rfl
  | x :: l => by
    rw [List.map_cons, List.sum_cons, sum_add' f g l, List.map_cons, List.sum_cons, List.map_cons, List.sum_cons]
    omega
theorem sum_mul' (c : Int) (f : α → Int) : ∀ l : List α, (l.map fun x => c * f x).sum = c * (l.map f).sum
  | [] => (Int.mul_zero c).symm
  | x :: l => by
    rw [List.map_cons, List.sum_cons, sum_mul' c f l, List.map_cons, List.sum_cons, Int.mul_add]
theorem sum_zero' : ∀ l : List α, (l.map fun _ => (0 : Int)).sum = 0
  | [] => rfl
  | x :: l => by
    rw [List.map_cons, List.sum_cons, sum_zero' l]
    rfl
theorem sum_swap (f : α → β → Int) (m : List β) : ∀ l : List α, (l.map fun a => (m.map fun b => f a b).sum).sum = (m.map fun b => (l.map fun a => f a b).sum).sum
  | [] => (sum_zero' m).symm
  | x :: l => by
    rw [List.map_cons, List.sum_cons, sum_swap f m l, ← sum_add']
    rfl
theorem sum_congr' {f g : α → Int} {l : List α} (h : ∀ x ∈ l, f x = g x) : (l.map f).sum = (l.map g).sum := by rw [List.map_congr_left h]
theorem sum_perm' {l m : List Int} (h : l.Perm m) : l.sum = m.sum := by
  induction h with
  | nil => rfl
  | cons x _ ih => rw [List.sum_cons, List.sum_cons, ih]
  | swap x y l => rw [List.sum_cons, List.sum_cons, List.sum_cons, List.sum_cons]; omega
  | trans _ _ a b => rw [a, b]
theorem sum_const' (c : Int) : ∀ l : List α, (l.map fun _ => c).sum = l.length * c
  | [] => by simp
  | x :: l => by
    rw [List.map_cons, List.sum_cons, sum_const' c l, List.length_cons, Int.natCast_succ, Int.add_mul, Int.one_mul, Int.add_comm]
/-- the sum over those that hold -/
theorem sum_filter (p : α → Bool) (f : α → Int) : ∀ l : List α, ((l.filter p).map f).sum = (l.map fun x => if p x = true then f x else 0).sum
  | [] => rfl
  | x :: l => by
    by_cases h : p x = true
    · rw [List.filter_cons_of_pos h, List.map_cons, List.sum_cons, sum_filter p f l, List.map_cons, List.sum_cons, if_pos h]
    · rw [List.filter_cons_of_neg h, sum_filter p f l, List.map_cons, List.sum_cons, if_neg h, Int.zero_add]
end
/-- the numbers of the product of 1 + e y -/
def polN : List Int → Nat → Int
  | [], j => if j = 0 then 1 else 0
  | e :: es, 0 => polN es 0
  | e :: es, j + 1 => polN es (j + 1) + e * polN es j
theorem pol_swap (a b : Int) (es : List Int) : ∀ j, polN (a :: b :: es) j = polN (b :: a :: es) j
  | 0 => rfl
  | 1 => by
    show (polN es 1 + b * polN es 0) + a * polN es 0 = (polN es 1 + a * polN es 0) + b * polN es 0
    omega
  | j + 2 => by
    show (polN es (j + 2) + b * polN es (j + 1)) + a * (polN es (j + 1) + b * polN es j) = (polN es (j + 2) + a * polN es (j + 1)) + b * (polN es (j + 1) + a * polN es j)
    rw [Int.mul_add, Int.mul_add, ← Int.mul_assoc, ← Int.mul_assoc, Int.mul_comm a b]
    omega
theorem pol_cons {e : Int} {es fs : List Int} (h : ∀ j, polN es j = polN fs j) : ∀ j, polN (e :: es) j = polN (e :: fs) j
  | 0 => h 0
  | j + 1 => by
    show polN es (j + 1) + e * polN es j = polN fs (j + 1) + e * polN fs j
    rw [h, h]
theorem pol_perm {es fs : List Int} (h : es.Perm fs) : ∀ j, polN es j = polN fs j := by
  induction h with
  | nil => exact fun _ => rfl
  | cons x _ ih => exact pol_cons ih
  | swap x y l => exact fun j => pol_swap y x l j
  | trans _ _ a b => exact fun j => (a j).trans (b j)
theorem pol_off {es : List Int} : ∀ {j : Nat}, es.length < j → polN es j = 0 := by
  induction es with
  | nil =>
    intro j h
    have h : 0 < j := h
    show (if j = 0 then (1 : Int) else 0) = 0
    rw [if_neg (by omega)]
  | cons e es ih =>
    intro j h
    have h : es.length + 1 < j := h
    match j, h with
    | j + 1, h =>
      show polN es (j + 1) + e * polN es j = 0
      rw [ih (by omega), ih (by omega), Int.mul_zero]
      rfl
section
variable {n k v w u j : Nat} {B L : List Nat}
/-- the signs of a word, the last place first -/
def sgs (v : Nat) : Nat → List Int
  | 0 => []
  | n + 1 => sg (v.testBit n) :: sgs v n
/-- over all numbers below 2 ^ n of weight j -/
def sumS (P : Nat → Nat) (Q : Nat → Bool) (n j : Nat) : Int := (((List.range (2 ^ n)).filter fun u => decide (P u = j)).map fun u => sg (Q u)).sum
def sgS (n v j : Nat) : Int := sumS pc (fun u => par u v) n j
theorem range_two (n : Nat) : List.range (2 ^ (n + 1)) = List.range (2 ^ n) ++ (List.range (2 ^ n)).map (2 ^ n + ·) := by
  rw [Nat.pow_succ, Nat.mul_two, List.range_add]
theorem top_xor (h : u < 2 ^ n) : 2 ^ n + u = u ^^^ 2 ^ n := pow_add_off (bit_hi h (Nat.le_refl _))
theorem pc_top (h : u < 2 ^ n) (n24 : n < 24) : pc (2 ^ n + u) = pc u + 1 := by
  have e := pc_two u (2 ^ n)
  have z : u &&& 2 ^ n = 0 := by
    apply Nat.eq_of_testBit_eq
    intro i
    rw [Nat.testBit_and, Nat.testBit_two_pow, Nat.zero_testBit]
    by_cases q : n = i
    · subst q
      rw [bit_hi h (Nat.le_refl _), Bool.false_and]
    · rw [decide_eq_false q, Bool.and_false]
  rw [z, pc_zero, pc_pow n24] at e
  rw [top_xor h]
  omega
theorem sumS_step {P : Nat → Nat} {Q : Nat → Bool} {c : Bool} (hP : ∀ u, u < 2 ^ n → P (2 ^ n + u) = P u + 1) (hQ : ∀ u, u < 2 ^ n → Q (2 ^ n + u) = (Q u ^^ c)) : ∀ j, sumS P Q (n + 1) j = (match j with | 0 => sumS P Q n 0 | j + 1 => sumS P Q n (j + 1) + sg c * sumS P Q n j) := by
  have key : ∀ j, sumS P Q (n + 1) j = sumS P Q n j + sg c * (((List.range (2 ^ n)).filter fun u => decide (P u + 1 = j)).map fun u => sg (Q u)).sum := fun j => by
    unfold sumS
    rw [range_two, List.filter_append, List.map_append, List.sum_append, List.filter_map, List.map_map, ← sum_mul']
    congr 1
    have e : ((List.range (2 ^ n)).filter ((fun u => decide (P u = j)) ∘ fun x => 2 ^ n + x)) = (List.range (2 ^ n)).filter fun u => decide (P u + 1 = j) := List.filter_congr fun u hu => by
      show decide (P (2 ^ n + u) = j) = _
      rw [hP u (List.mem_range.mp hu)]
    rw [e]
    refine sum_congr' fun u hu => ?_
    have lu := List.mem_range.mp (List.mem_filter.mp hu).1
    show sg (Q (2 ^ n + u)) = _
    rw [hQ u lu, sg_xor, Int.mul_comm]
  intro j
  rw [key j]
  match j with
  | 0 =>
    have e : ((List.range (2 ^ n)).filter fun u => decide (P u + 1 = 0)) = [] := List.filter_eq_nil_iff.mpr fun u _ => by simp
    rw [e]
    show _ + _ * 0 = _
    rw [Int.mul_zero, Int.add_zero]
  | j + 1 =>
    have e : ((List.range (2 ^ n)).filter fun u => decide (P u + 1 = j + 1)) = (List.range (2 ^ n)).filter fun u => decide (P u = j) := List.filter_congr fun u _ => decide_eq_decide.mpr (by omega)
    rw [e]
    rfl
theorem sumS_zero {P : Nat → Nat} {Q : Nat → Bool} (hP : P 0 = 0) (hQ : Q 0 = false) (j : Nat) : sumS P Q 0 j = if j = 0 then 1 else 0 := by
  unfold sumS
  rw [show List.range (2 ^ 0) = [0] from rfl]
  by_cases h : j = 0
  · rw [if_pos h, List.filter_cons_of_pos (by rw [hP, h]; simp), List.filter_nil, List.map_cons, List.map_nil, List.sum_cons, List.sum_nil, hQ]
    rfl
  · rw [if_neg h, List.filter_cons_of_neg (by rw [hP]; simp; omega), List.filter_nil, List.map_nil, List.sum_nil]
theorem sumS_pol {P : Nat → Nat} {Q : Nat → Bool} {c : Nat → Bool} {ss : Nat → List Int} (s0 : ss 0 = []) (hs : ∀ n, ss (n + 1) = sg (c n) :: ss n) (p0 : P 0 = 0) (q0 : Q 0 = false) (hP : ∀ n, n < 24 → ∀ u, u < 2 ^ n → P (2 ^ n + u) = P u + 1) (hQ : ∀ n, n < 24 → ∀ u, u < 2 ^ n → Q (2 ^ n + u) = (Q u ^^ c n)) : ∀ n, n ≤ 24 → ∀ j, sumS P Q n j = polN (ss n) j
  | 0, _, j => by
    rw [sumS_zero p0 q0, s0]
    rfl
  | n + 1, h, j => by
    rw [sumS_step (hP n (by omega)) (hQ n (by omega)) j, hs]
    match j with
    | 0 => exact sumS_pol s0 hs p0 q0 hP hQ n (by omega) 0
    | j + 1 =>
      show sumS P Q n (j + 1) + _ * sumS P Q n j = polN (ss n) (j + 1) + _ * polN (ss n) j
      rw [sumS_pol s0 hs p0 q0 hP hQ n (by omega), sumS_pol s0 hs p0 q0 hP hQ n (by omega)]
theorem sgS_pol (v : Nat) (n : Nat) (h : n ≤ 24) (j : Nat) : sgS n v j = polN (sgs v n) j := by
  unfold sgS
  exact sumS_pol (P := pc) (Q := fun u => par u v) (c := fun n => v.testBit n) (ss := sgs v) rfl (fun _ => rfl) pc_zero (par_zero v) (fun n hn u hu => pc_top hu hn) (fun n hn u hu => by
    show par (2 ^ n + u) v = _
    rw [top_xor hu, par_xor, par_pow hn]) n h j
/-- so many signs - first -/
def sgI (n i : Nat) : List Int := List.replicate i (-1) ++ List.replicate (n - i) 1
theorem sgs_perm (v : Nat) : ∀ n, n ≤ 24 → (sgs v n).Perm (sgI n (pc (v % 2 ^ n)))
  | 0, _ => by
    rw [Nat.pow_zero, Nat.mod_one, pc_zero]
    exact .refl _
  | n + 1, h => by
    have ih := sgs_perm v n (by omega)
    have lt : v % 2 ^ n < 2 ^ n := Nat.mod_lt _ (Nat.two_pow_pos n)
    have lp : pc (v % 2 ^ n) ≤ n := by
      have : ∀ m, m ≤ 24 → ∀ x, x < 2 ^ m → pc x ≤ m := fun m hm x hx => by
        rw [← spots_len]
        have e : (spots x).length = ((List.range m).filter fun i => x.testBit i).length := len_same (spots_nd x) (List.nodup_range.filter _) fun i => by
          rw [spots_mem, List.mem_filter, List.mem_range]
          exact ⟨fun ⟨a, b⟩ => ⟨Nat.lt_of_not_le fun z => (by rw [bit_hi hx z] at b; cases b), b⟩, fun ⟨a, b⟩ => ⟨by omega, b⟩⟩
        rw [e]
        have := List.length_filter_le (fun i => x.testBit i) (List.range m)
        rwa [List.length_range] at this
      exact this n (by omega) _ lt
    have e : v % 2 ^ (n + 1) = if v.testBit n = true then 2 ^ n + v % 2 ^ n else v % 2 ^ n := by
      have p := Nat.two_pow_pos n
      rw [Nat.testBit_eq_decide_div_mod_eq, Nat.pow_succ, Nat.mod_mul]
      by_cases q : v / 2 ^ n % 2 = 1
      · rw [q, decide_eq_true rfl, if_pos rfl]
        omega
      · have q0 : v / 2 ^ n % 2 = 0 := by omega
        rw [q0]
        simp
    show (sg (v.testBit n) :: sgs v n).Perm _
    rw [e]
    by_cases q : v.testBit n = true
    · rw [if_pos q, q, pc_top lt (by omega)]
      have e2 : sgI (n + 1) (pc (v % 2 ^ n) + 1) = (-1 : Int) :: sgI n (pc (v % 2 ^ n)) := by
        unfold sgI
        rw [List.replicate_succ, List.cons_append, show n + 1 - (pc (v % 2 ^ n) + 1) = n - pc (v % 2 ^ n) by omega]
      rw [e2]
      exact ih.cons _
    · rw [if_neg q, Bool.not_eq_true _ |>.mp q]
      have e2 : (sgI (n + 1) (pc (v % 2 ^ n))).Perm ((1 : Int) :: sgI n (pc (v % 2 ^ n))) := by
        unfold sgI
        rw [show n + 1 - pc (v % 2 ^ n) = (n - pc (v % 2 ^ n)) + 1 by omega, List.replicate_succ]
        exact List.perm_middle
      exact (ih.cons _).trans e2.symm
/-- the entry of j and i -/
def entN (n i j : Nat) : Int := polN (sgI n i) j
theorem sgS_ent (n24 : n ≤ 24) (hv : v < 2 ^ n) (j : Nat) : sgS n v j = entN n (pc v) j := by
  rw [sgS_pol v n n24, pol_perm (sgs_perm v n n24) j, Nat.mod_eq_of_lt hv]
  rfl
theorem pc_le_n (n24 : n ≤ 24) (hv : v < 2 ^ n) : pc v ≤ n := by
  rw [← spots_len]
  have e : (spots v).length = ((List.range n).filter fun i => v.testBit i).length := len_same (spots_nd v) (List.nodup_range.filter _) fun i => by
    rw [spots_mem, List.mem_filter, List.mem_range]
    exact ⟨fun ⟨a, b⟩ => ⟨Nat.lt_of_not_le fun z => (by rw [bit_hi hv z] at b; cases b), b⟩, fun ⟨a, b⟩ => ⟨by omega, b⟩⟩
  rw [e]
  have := List.length_filter_le (fun i => v.testBit i) (List.range n)
  rwa [List.length_range] at this
/-- sums by weight -/
theorem sum_group (g : Nat → Int) : ∀ {L : List Nat}, (∀ v ∈ L, pc v ≤ n) → (L.map fun v => g (pc v)).sum = ((List.range (n + 1)).map fun i => ((L.filter fun w => decide (pc w = i)).length : Int) * g i).sum
  | [], _ => by
    have : ((List.range (n + 1)).map fun i => (((([] : List Nat).filter fun w => decide (pc w = i)).length : Nat) : Int) * g i).sum = ((List.range (n + 1)).map fun _ => (0 : Int)).sum := sum_congr' fun i _ => by simp
    rw [this, sum_zero']
    rfl
  | v :: L, h => by
    rw [List.map_cons, List.sum_cons, sum_group g (L := L) fun x hx => h x (List.mem_cons_of_mem _ hx)]
    have e : ∀ i, (((((v :: L).filter fun w => decide (pc w = i)).length : Nat) : Int)) * g i = (if decide (i = pc v) = true then g (pc v) else 0) + ((L.filter fun w => decide (pc w = i)).length : Int) * g i := fun i => by
      by_cases q : pc v = i
      · subst q
        rw [List.filter_cons_of_pos (by simp), if_pos (by simp), List.length_cons, Int.natCast_succ, Int.add_mul, Int.one_mul, Int.add_comm]
      · rw [List.filter_cons_of_neg (by simp [q]), if_neg (by simp; omega), Int.zero_add]
    rw [List.map_congr_left fun i _ => e i, sum_add', ← sum_filter (fun i => decide (i = pc v)) (fun _ => g (pc v))]
    have e2 : (List.range (n + 1)).filter (fun i => decide (i = pc v)) = [pc v] := up_eq (List.pairwise_lt_range.filter _) (by simp) fun x => by
      have := h v List.mem_cons_self
      rw [List.mem_filter, List.mem_range, List.mem_singleton, decide_eq_true_iff]
      exact ⟨fun k => k.2, fun k => ⟨by omega, k⟩⟩
    rw [e2]
    simp
theorem flip_sum {q : Nat → Bool} {L : List Nat} {b : Nat} (pm : (L.map fun v => v ^^^ b).Perm L) (hq : ∀ v, q (v ^^^ b) = (q v ^^ true)) : (L.map fun v => sg (q v)).sum = 0 := by
  have e1 : (L.map fun v => sg (q v)).sum = ((L.map fun v => v ^^^ b).map fun v => sg (q v)).sum := (sum_perm' (pm.map _)).symm
  have e2 : ((L.map fun v => v ^^^ b).map fun v => sg (q v)).sum = (-1) * (L.map fun v => sg (q v)).sum := by
    rw [← sum_mul', List.map_map]
    refine sum_congr' fun v _ => ?_
    show sg (q (v ^^^ b)) = (-1) * sg (q v)
    rw [hq, sg_xor, Int.mul_comm, show sg true = -1 from rfl]
  rw [e2] at e1
  generalize (L.map fun v => sg (q v)).sum = S at e1
  omega
theorem xor_perm {b : Nat} (hL : ∀ x, x ∈ L ↔ span B x) (nd : L.Nodup) (sb : span B b) : (L.map fun v => v ^^^ b).Perm L := (List.perm_ext_iff_of_nodup (map_nd (fun x _ y _ e => by
  have := congrArg (· ^^^ b) e
  simpa [xor_cancel] using this) nd) nd).mpr fun x => by
    rw [List.mem_map, hL]
    constructor
    · rintro ⟨y, hy, rfl⟩
      exact span_xor ((hL y).mp hy) sb
    · intro hx
      exact ⟨x ^^^ b, (hL _).mpr (span_xor hx sb), xor_cancel x b⟩
def evTo (B : List Nat) (u : Nat) : Bool := B.all fun b => !par u b
theorem evTo_iff : evTo B u = true ↔ ∀ b ∈ B, par u b = false := by
  unfold evTo
  rw [List.all_eq_true]
  constructor
  · intro h b hb
    have := h b hb
    rwa [Bool.not_eq_true'] at this
  · intro h b hb
    rw [Bool.not_eq_true']
    exact h b hb
/-- signs over a room -/
theorem sum_room_sg (hL : ∀ x, x ∈ L ↔ span B x) (nd : L.Nodup) (u : Nat) : (L.map fun v => sg (par u v)).sum = if evTo B u = true then (L.length : Int) else 0 := by
  by_cases h : evTo B u = true
  · rw [if_pos h]
    have h' := evTo_iff.mp h
    have e : (L.map fun v => sg (par u v)).sum = (L.map fun _ => (1 : Int)).sum := sum_congr' fun v hv => by
      rw [par_span.mp h' v ((hL v).mp hv)]
      rfl
    rw [e, sum_const', Int.mul_one]
  · rw [if_neg h]
    have ⟨b, hb, pb⟩ : ∃ b, b ∈ B ∧ par u b = true := by
      refine Decidable.byContradiction fun z => h (evTo_iff.mpr fun b hb => Bool.eq_false_iff.mpr fun k => z ⟨b, hb, k⟩)
    exact flip_sum (q := fun v => par u v) (xor_perm hL nd (span_mem hb)) fun v => by
      show par u (v ^^^ b) = _
      rw [par_comm, par_xor, par_comm v, par_comm b, pb]
theorem mac_abs {P : Nat → Nat} {Q : Nat → Nat → Bool} {K : Nat → Int} {E : Nat → Bool} {N m : Nat} {L : List Nat} (hg : (L.map fun v => K (P v)).sum = ((List.range (n + 1)).map fun i => ((L.filter fun w => decide (P w = i)).length : Int) * K i).sum)
    (hS : ∀ v ∈ L, (((List.range N).filter fun u => decide (P u = j)).map fun u => sg (Q u v)).sum = K (P v)) (hR : ∀ u, (L.map fun v => sg (Q u v)).sum = if E u = true then (L.length : Int) else 0)
    (hM : (((List.range N).filter fun u => decide (P u = j)).filter E).length = m) : ((List.range (n + 1)).map fun i => ((L.filter fun w => decide (P w = i)).length : Int) * K i).sum = (L.length : Int) * (m : Int) := by
  rw [← hg, ← sum_congr' hS, sum_swap, sum_congr' (g := fun u => if E u = true then (L.length : Int) else 0) fun u _ => hR u, ← sum_filter E fun _ => (L.length : Int), sum_const', hM, Int.mul_comm]
/-- the contrary's row (MacWilliams) -/
theorem mac {M : List Nat} (pl : Plain B) (n24 : n ≤ 24) (ltB : ∀ b ∈ B, b < 2 ^ n) (hL : ∀ x, x ∈ L ↔ span B x) (nd : L.Nodup) (hM : ∀ x, x ∈ M ↔ span (bas (conB n B)) x) (ndM : M.Nodup) (j : Nat) :
    ((List.range (n + 1)).map fun i => ((L.filter fun w => decide (pc w = i)).length : Int) * entN n i j).sum = (L.length : Int) * ((M.filter fun w => decide (pc w = j)).length : Int) := by
  have lt : ∀ v ∈ L, v < 2 ^ n := fun v hv => span_lt ltB ((hL v).mp hv)
  refine mac_abs (Q := par) (E := evTo B) (N := 2 ^ n) (K := fun i => entN n i j) (sum_group (fun i => entN n i j) fun v hv => pc_le_n n24 (lt v hv)) (fun v hv => sgS_ent n24 (lt v hv) j) (fun u => sum_room_sg hL nd u) ?_
  refine len_same ((List.nodup_range.filter _).filter _) (ndM.filter _) fun u => ?_
  rw [List.mem_filter, List.mem_filter, List.mem_filter, List.mem_range, hM, con_span pl n24 ltB, evTo_iff]
  exact ⟨fun ⟨⟨a, b⟩, c⟩ => ⟨⟨a, c⟩, b⟩, fun ⟨⟨a, c⟩, b⟩ => ⟨⟨a, b⟩, c⟩⟩
end
end Vf
set_option Elab.async false
set_option linter.all false
set_option maxRecDepth 100000
set_option maxHeartbeats 400000
namespace Vf
/-! ### lists of numbers of a product -/
def polL (es : List Int) : List Int := (List.range (es.length + 1)).map (polN es)
theorem polL_len (es : List Int) : (polL es).length = es.length + 1 := by
  unfold polL
  rw [List.length_map, List.length_range]
/-- one factor more -/
def facL (e : Int) (l : List Int) : List Int := List.zipWith (fun x y => x + e * y) (l ++ [0]) ([0] ++ l)
theorem facL_len (e : Int) (l : List Int) : (facL e l).length = l.length + 1 := by
  unfold facL
  rw [List.length_zipWith, List.length_append, List.length_append]
  simp
  omega
theorem polL_at {es : List Int} {j : Nat} (h : j < es.length + 1) : (polL es)[j]? = some (polN es j) := by
  unfold polL
  rw [List.getElem?_map, List.getElem?_range h]
  rfl
theorem polL_step (e : Int) (es : List Int) : facL e (polL es) = polL (e :: es) := by
  apply List.ext_getElem?
  intro j
  by_cases h : j < es.length + 2
  · rw [polL_at (es := e :: es) (show j < es.length + 1 + 1 by omega)]
    unfold facL
    rw [List.getElem?_zipWith]
    have a1 : (polL es ++ [0])[j]? = some (polN es j) := by
      by_cases q : j < es.length + 1
      · rw [List.getElem?_append_left (by rw [polL_len]; exact q), polL_at q]
      · have : j = es.length + 1 := by omega
        subst this
        rw [List.getElem?_append_right (by rw [polL_len]; exact Nat.le_refl _), polL_len, Nat.sub_self, pol_off (Nat.lt_succ_self _)]
        rfl
    match j, h with
    | 0, _ =>
      rw [a1]
      show some (polN es 0 + e * 0) = some (polN es 0)
      rw [Int.mul_zero, Int.add_zero]
    | j + 1, h =>
      have a2 : ([0] ++ polL es)[j + 1]? = some (polN es j) := by
        show (polL es)[j]? = _
        exact polL_at (by omega)
      rw [a1, a2]
      rfl
  · rw [List.getElem?_eq_none (by rw [facL_len, polL_len]; omega), List.getElem?_eq_none (by rw [polL_len]; show es.length + 1 + 1 ≤ j; omega)]
def entL (n i : Nat) : List Int := (List.range (n + 1)).map (entN n i)
theorem sgs_len (v : Nat) : ∀ n, (sgs v n).length = n
  | 0 => rfl
  | n + 1 => congrArg (· + 1) (sgs_len v n)
theorem ent_of {n i : Nat} (n24 : n ≤ 24) (h : i ≤ n) : polL (sgs (2 ^ i - 1) n) = entL n i := by
  unfold polL entL
  rw [sgs_len]
  refine List.map_congr_left fun j _ => ?_
  have lt : 2 ^ i - 1 < 2 ^ n := by
    have := pw_le h
    have := Nat.two_pow_pos i
    omega
  rw [pol_perm (sgs_perm (2 ^ i - 1) n n24) j, Nat.mod_eq_of_lt lt, pc_mask (by omega)]
  rfl
theorem sg_mask (i k : Nat) : sg ((2 ^ i - 1).testBit k) = if k < i then -1 else 1 := by
  rw [Nat.testBit_two_pow_sub_one]
  by_cases h : k < i
  · rw [if_pos h, decide_eq_true h]
    rfl
  · rw [if_neg h, decide_eq_false h]
    rfl
theorem entL_at {n i j : Nat} (h : j ≤ n) : (entL n i)[j]? = some (entN n i j) := by
  unfold entL
  rw [List.getElem?_map, List.getElem?_range (by omega)]
  rfl
theorem entL_len (n i : Nat) : (entL n i).length = n + 1 := by
  unfold entL
  rw [List.length_map, List.length_range]
/-! identities -/
theorem pol_bound : ∀ {es : List Int}, (∀ e ∈ es, e = 1 ∨ e = -1) → ∀ j, (polN es j).natAbs ≤ 2 ^ es.length
  | [], _, j => by
    show (if j = 0 then (1 : Int) else 0).natAbs ≤ 1
    split <;> decide
  | e :: es, h, 0 => by
    have := pol_bound (es := es) (fun x hx => h x (List.mem_cons_of_mem _ hx)) 0
    show (polN es 0).natAbs ≤ 2 ^ (es.length + 1)
    rw [Nat.pow_succ]
    omega
  | e :: es, h, j + 1 => by
    have h1 := pol_bound (es := es) (fun x hx => h x (List.mem_cons_of_mem _ hx)) (j + 1)
    have h2 := pol_bound (es := es) (fun x hx => h x (List.mem_cons_of_mem _ hx)) j
    show (polN es (j + 1) + e * polN es j).natAbs ≤ 2 ^ (es.length + 1)
    rw [Nat.pow_succ]
    rcases h e List.mem_cons_self with k | k <;> rw [k] <;> omega
theorem sgI_mem {n i : Nat} : ∀ e ∈ sgI n i, e = 1 ∨ e = -1 := fun e he => by
  unfold sgI at he
  rcases List.mem_append.mp he with h | h
  · exact .inr (List.eq_of_mem_replicate h)
  · exact .inl (List.eq_of_mem_replicate h)
theorem sgI_len {n i : Nat} (h : i ≤ n) : (sgI n i).length = n := by
  unfold sgI
  rw [List.length_append, List.length_replicate, List.length_replicate]
  omega
theorem ent_bound {n i : Nat} (h : i ≤ n) (j : Nat) : (entN n i j).natAbs ≤ 2 ^ n := by
  have := pol_bound (sgI_mem (n := n) (i := i)) j
  rwa [sgI_len h] at this
end Vf
set_option Elab.async false
set_option linter.all false
set_option maxRecDepth 100000
set_option maxHeartbeats 1000000
namespace Vf
open PySem PySem.Spec PyProof.Rows L2
variable {W : Wd}
/-! ### numbers with signs -/
abbrev dIs (l : List Int) : Dn W := dLst (l.map V.int)
section
variable {Ds Es Fs : EnvT W} {cs cs1 : List (Nat × List V)} {d d1 d2 : Dn W} {te ti tl tb : TE} {t ta : TA} {tt : TT} {ts tu : TS} {i j k n m : Nat} {K : PySem.W.Frag} {xs ys : List V} {a b : Int} {l l2 : List Int} {C : Addr}
theorem od_addI : OpD (W := W) (rI0 fun i j => .int (i + j)) (dI a) (dI b) (dI (a + b)) := fun x y H Q iv e1 e2 q => ⟨a, b, e1, e2, q _ H (W.refl H) rfl⟩
theorem od_mulI (h : CMul a b) : OpD (W := W) (rI CMul fun i j => .int (i * j)) (dI a) (dI b) (dI (a * b)) := fun x y H Q iv e1 e2 q => ⟨a, b, e1, e2, h, q _ H (W.refl H) rfl⟩
theorem od_eqI : OpD (W := W) rEq (dI a) (dI b) (dB (decide (a = b))) := fun u v H Q iv e1 e2 k => by
  rw [show u = V.int a from e1, show v = V.int b from e2]
  refine ⟨rfl, k _ H (W.refl H) ?_⟩
  exact congrArg V.bl (decide_eq_decide.mpr ⟨fun z => by injection z, fun z => by rw [z]⟩)
theorem od_neI : OpD (W := W) rNe (dI a) (dI b) (dB (!decide (a = b))) := fun u v H Q iv e1 e2 k => by
  rw [show u = V.int a from e1, show v = V.int b from e2]
  refine ⟨rfl, k _ H (W.refl H) ?_⟩
  exact congrArg (fun b => V.bl (!b)) (decide_eq_decide.mpr ⟨fun z => by injection z, fun z => by rw [z]⟩)
theorem flat_is (l : List Int) : ∀ x ∈ l.map V.int, flat x = true := fun x hx => by
  obtain ⟨i, _, rfl⟩ := List.mem_map.mp hx
  rfl
theorem od_ixG {x : V} (h : xs[k]? = some x) : OpD (W := W) (rIxL K) (dLst xs) (dN k) (dV x) := fun u v H Q iv ⟨p, e1, g1, h1⟩ e2 q => by
  subst e1
  rw [show v = V.int (k : Int) from e2]
  exact ⟨p, _, k, x, rfl, rfl, SqL.of h1, atI_nat (j := k) h, q _ H (W.refl H) rfl⟩
theorem od_ixI (h : l[k]? = some a) : OpD (W := W) (rIxL K) (dIs l) (dN k) (dI a) := od_ixG (by rw [List.getElem?_map, h]; rfl)
theorem ev_lstI (l : List Int) (h : AV Ds t (l.map fun n => dI n)) (hn : l.length ≤ 100000 := by exact Nat.le_of_ble_eq_true rfl) : EV Ds (tLst t) (dIs l) := ev_fl (fl_lst (l.map V.int) (by rw [List.map_map]; exact h) (by rw [List.length_map]; exact hn))
theorem od_catI (h : l.length + l2.length ≤ 100000) : OpD (W := W) rCat (dIs l) (dIs l2) (dIs (l ++ l2)) := fun u v H Q iv o1 o2 k => od_catG (by rw [List.length_map, List.length_map]; exact h) u v H Q iv o1 o2 fun v' H' l' o' => k v' H' l' (by
  show (dLst ((l ++ l2).map V.int)).ok v' H'
  rw [List.map_append]
  exact o')
theorem cd_lenI : CrD (W := W) (fun xs H Q => ∃ p ys, xs = [.ref p] ∧ (SqL K H p ys ∨ SqT K H p ys) ∧ Q (.int ys.length) H) [dIs l] (dN l.length) := fun vs H Q iv o q => cd_len vs H Q iv o (by rw [List.length_map]; exact q)
theorem cd_sumI : CrD (W := W) (rSum K) [dIs l] (dI l.sum) := fun vs H Q iv o q => by
  match vs, o with
  | [v], ⟨⟨p, e, g, h⟩, _⟩ =>
    subst e
    exact ⟨p, l, rfl, SqL.of h, q _ H (W.refl H) rfl⟩
theorem dd_Is (l : List Int) : DD K (dIs l : Dn W) (.list ((l.map V.int).map toD)) := fun v H ⟨a, e, g, h⟩ => by
  subst e
  exact .lst (SqL.of h) (dp_all (flat_is l))
theorem nice_is {l : List Int} (h : ∀ v ∈ l, v.natAbs < 2 ^ 64) : Nice 1 (l.length * 1923 + 2) (.list ((l.map V.int).map toD)) := by
  have := nice_list (dep := 0) (n := 1921) (es := (l.map V.int).map toD) fun e he => by
    obtain ⟨x, hx, rfl⟩ := List.mem_map.mp he
    obtain ⟨v, hv, rfl⟩ := List.mem_map.mp hx
    refine nice_int ?_
    by_cases h0 : v.natAbs = 0
    · rw [h0]
      decide
    · exact Nat.lt_of_lt_of_le ((Nat.log2_lt h0).mpr (h v hv)) (by decide)
  rw [List.length_map, List.length_map] at this
  exact this
/-- [g x y for x, y in zip(l, m)] -/
theorem ev_lcZ {g : Int → Int → Int} (hl : AV Ds ta [dIs l, dIs l2]) (hlen : l.length = l2.length) (hz : l.length ≤ 100000) (ne : i ≠ j) (hb : ∀ x y, x ∈ l → y ∈ l2 → EV ((Ds.set i (some (dI x))).set j (some (dI y))) te (dI (g x y))) :
    EV Ds (tLc (iZip K ta) (gTup K 2 (gCons (gName i) (gCons (gName j) gNil))) tYes te [i, j]) (dIs (List.zipWith g l l2)) := fun σ H Q iv en q =>
  hl σ H _ iv en fun vs H1 l1 o1 => by
    match vs, o1 with
    | [v, u], ⟨⟨a, e1, ga, ha⟩, ⟨b, e2, gb, hb2⟩, _⟩ =>
      subst e1 e2
      have iv1 := W.step l1 iv
      refine ⟨a, b, _, _, rfl, SqL.of ha, SqL.of hb2, fun D nD => ?_⟩
      refine ⟨fun k m H' => k + m = l.length ∧ W.L H1 H' ∧ H' D = some (.lst ((List.zipWith g (l.take k) (l2.take k)).map V.int)), ⟨l.length, Nat.zero_add _, W.put iv1 (W.refl H1) nD, upd_same⟩, fun k m H' hW => ?_⟩
      obtain ⟨km, lP, eD⟩ := hW
      have iv' := W.step lP iv1
      have hLa : SqL K H' a (l.map V.int) := SqL.of (W.keep ga lP ha)
      have hLb : SqL K H' b (l2.map V.int) := SqL.of (W.keep gb lP hb2)
      by_cases hk : k < l.length
      · have hk2 : k < l2.length := by omega
        have hx : (l.map V.int)[k]? = some (V.int l[k]) := by rw [List.getElem?_map, List.getElem?_eq_getElem hk]; rfl
        have hy : (l2.map V.int)[k]? = some (V.int l2[k]) := by rw [List.getElem?_map, List.getElem?_eq_getElem hk2]; rfl
        refine .inr ⟨⟨_, _, _, _, hLa, hLb, hx, hy⟩, fun H2 => W.L H1 H2 ∧ H2 D = some (.lst ((List.zipWith g (l.take (k + 1)) (l2.take (k + 1))).map V.int)), fun H2 hN => ⟨m - 1, by omega, by omega, hN⟩, fun z H2 hyl => ?_⟩
        obtain ⟨T, x1, y1, rfl, nT, rfl, fx, fy⟩ := hyl
        have ex : x1 = V.int l[k] := by
          have h2 := fx _ hLa
          rw [hx] at h2
          exact (Option.some.inj h2).symm
        have ey : y1 = V.int l2[k] := by
          have h2 := fy _ hLb
          rw [hy] at h2
          exact (Option.some.inj h2).symm
        subst ex ey
        have l3 : W.L H' (upd H' T (.tup [V.int l[k], V.int l2[k]])) := W.put iv' (W.refl _) nT
        have iv3 := W.step l3 iv'
        refine ⟨T, _, rfl, .inl (.inl upd_same), rfl, _, _, rfl, _, _, rfl, rfl, wipe2 ne, tv_yes _ _ _ iv3 (env_wipe (d1 := dI l[k]) (d2 := dI l2[k]) rfl rfl (en.st (W.trans l1 (W.trans lP l3))) ne) fun H3 l4 => ?_⟩
        refine (if_pos rfl).mpr (hb l[k] l2[k] (List.getElem_mem hk) (List.getElem_mem hk2) _ H3 _ (W.step l4 iv3) ((env_wipe (d1 := dI l[k]) (d2 := dI l2[k]) rfl rfl (en.st (W.trans l1 (W.trans lP l3))) ne).st l4) fun y H4 l5 o5 => ?_)
        have eD5 := W.keep (W.fresh iv1 nD) l5 (W.keep (W.fresh iv1 nD) l4 (W.keep (W.fresh iv1 nD) l3 eD))
        refine ⟨_, eD5, ?_, W.put iv1 (W.trans lP (W.trans l3 (W.trans l4 l5))) nD, ?_⟩
        · rw [List.length_map, List.length_zipWith, List.length_take]
          exact sl_lt (by omega)
        · rw [upd_same, show y = V.int (g l[k] l2[k]) from o5, List.take_add_one, List.take_add_one, List.getElem?_eq_getElem hk, List.getElem?_eq_getElem hk2, List.zipWith_append (by rw [List.length_take, List.length_take]; omega), List.map_append]
          rfl
      · refine .inl ⟨⟨_, _, hLa, hLb, .inl (by rw [List.length_map]; omega)⟩, q _ H' (W.trans l1 lP) ⟨D, rfl, W.fresh iv1 nD, ?_⟩⟩
        rw [eD, List.take_of_length_le (by omega), List.take_of_length_le (by omega)]
theorem ev_lcRI {g : Nat → Int} (hl : AV Ds t [dN n]) (hz : n ≤ 100000) (hb : ∀ x < n, EV (Ds.set i (some (dN x))) te (dI (g x))) : EV Ds (tLc (iRng1 t) (gName i) tYes te [i]) (dIs ((List.range n).map g)) := by
  have := ev_lcR (p := fun _ => true) (g := fun x => V.int (g x)) hl hz (fun _ _ => tv_yes) fun x hx _ => hb x hx
  rw [filt_true] at this
  unfold dIs
  rw [List.map_map]
  exact this
end
/-! ### the defs of entries -/
section
variable {n m i j k : Nat} {l : List Int} {e : Int}
theorem sd_is_countN : SpD (W := W) sp_is_count [] [dN n] (dB true) := fun vs H Q iv o q => by
  match vs, o with
  | [v], ⟨e1, _⟩ =>
    rw [show v = V.int (n : Int) from e1]
    refine ⟨n, rfl, ?_⟩
    rw [decide_eq_true (by omega)]
    exact q _ H (W.refl H) rfl
structure EntP (i : Nat × Nat) : Prop where
  n24 : i.1 ≤ 24
  h : i.2 ≤ i.1
def sp_entries : Sp := spW (ι := Nat × Nat) (fun _ i => EntP i) (fun _ i => [dN i.1, dN i.2]) fun _ i => dIs (entL i.1 i.2)
theorem sd_entries (n24 : n ≤ 24) (h : i ≤ n) : SpD sp_entries [] [(dN n : Dn W), dN i] (dIs (entL n i)) := spW_sd (i := (n, i)) ⟨n24, h⟩
end
end Vf
set_option Elab.async false
set_option linter.all false
set_option maxRecDepth 100000
set_option maxHeartbeats 1000000
namespace Vf
open PySem PySem.Spec PyProof.Rows L2
variable {W : Wd}
section
variable {Ds Es Fs : EnvT W} {d d1 d2 d3 : Dn W} {t ta tk : TA} {te : TE}
theorem ev_eqD (h : EV Ds te d1) (e : d1 = d2) : EV Ds te d2 := e ▸ h
end
/-! sums gone through -/
/-! the list of entries, from its factors -/
theorem ent_step {i k : Nat} : facL (if k < i then -1 else 1) (polL (sgs (2 ^ i - 1) k)) = polL (sgs (2 ^ i - 1) (k + 1)) := by
  rw [polL_step, ← sg_mask]
  rfl
theorem polS_len {v k : Nat} : (polL (sgs v k)).length = k + 1 := by rw [polL_len, sgs_len]
theorem sgn_cases (p : Prop) [Decidable p] : (if p then (-1 : Int) else 1) = 1 ∨ (if p then (-1 : Int) else 1) = -1 := by
  by_cases h : p
  · rw [if_pos h]; exact .inr rfl
  · rw [if_neg h]; exact .inl rfl
theorem cmul_l {a b : Int} (h : a = 1 ∨ a = -1) : CMul a b := .inl (by rcases h with rfl | rfl <;> omega)
end Vf
set_option Elab.async false
set_option linter.all false
set_option maxRecDepth 100000
set_option maxHeartbeats 1000000
namespace Vf
open PySem PySem.Spec PyProof.Rows L2
variable {W : Wd}
/-! ### defs whose result is a list made anew -/
def SVF (Ds : EnvT W) (cs : List (Nat × List V)) (ts : TS) (xs : List V) : Prop := ∀ (D : Ends) (σ : L2.St) (H G : Hp), CE W cs σ H G → W.inv G → EnvL Ds σ G →
  (∀ p H', H' p = some (.lst xs) → W.F p → W.L G (del p H') → D.rt (.ref p) H') → ts D σ H
def spF {ι : Type} (P : Wd → ι → Prop) (ds : (W : Wd) → ι → List (Dn W)) (xs : ι → List V) : Sp := fun vs H Q _ => ∃ (W : Wd) (i : ι), P W i ∧ W.inv H ∧ OkL (ds W i) vs H ∧ ∀ p H', H' p = some (.lst (xs i)) → W.F p → W.L H (del p H') → Q (.ref p) H'
theorem fresh_none {H H' : Hp} {p : Addr} (f : W.F p) (l : W.L H (del p H')) : H p = none := by
  cases e : H p with
  | none => rfl
  | some o =>
    have := W.keep f l e
    rw [del_same] at this
    cases this
section
variable {Ds Es Fs : EnvT W} {cs cs1 : List (Nat × List V)} {d d1 d2 : Dn W} {te ti tl : TE} {t ta : TA} {tt : TT} {ts tu tb : TS} {i j k n : Nat} {K : PySem.W.Frag} {xs ys : List V} {l : List Nat}
theorem svf_seq (h : NVC Ds cs ts Es cs1) (k : SVF Es cs1 tu xs) : SVF Ds cs (tSeq ts tu) xs := fun D σ H G ce iv en q =>
  h _ σ H G ce iv en fun σ' H' G' ce' l e' => k D σ' H' G' ce' (W.step l iv) e' fun p H2 e f l2 => q p H2 e f (W.trans l l2)
theorem svf_seqN (h : NV Ds ts Es) (k : SVF Es [] tu xs) : SVF Ds [] (tSeq ts tu) xs := fun D σ H G ce iv en q => by
  have ce : G = H := ce
  subst ce
  exact h _ σ G iv en fun σ' H' l e' => k D σ' H' H' rfl (W.step l iv) e' fun p H2 e f l2 => q p H2 e f (W.trans l l2)
theorem svf_ret (h : FL Ds te xs) : SVF Ds [] (tRet te) xs := fun D σ H G ce iv en q => by
  have ce : G = H := ce
  subst ce
  exact h σ G _ iv en fun p H' _ f l e => q p H' e f l
theorem svf_cell (h : FL Ds te ys) (r : SVF (Ds.set i none) [(i, ys)] tu xs) (hi : Nat.ble (i + 1) Ds.n = true := by rfl) : SVF Ds [] (tSeq (tAsg te (gName i)) tu) xs := fun D σ H G ce iv en q => by
  have ce : G = H := ce
  subst ce
  refine h σ G _ iv en fun p H1 hp fp l e => ?_
  refine r D _ H1 _ ⟨p, ?_, fp, e, rfl⟩ (W.step l iv) (en.st l).dropS fun p2 H2 e2 f2 l2 => q p2 H2 e2 f2 (W.trans l l2)
  exact List.getElem?_set_self (by rw [en.1]; exact Nat.le_of_ble_eq_true hi)
/-- the one cell is told -/
theorem svf_retC : SVF Ds [(i, xs)] (tRet (tVar i)) xs := fun D σ H G ce iv en q => by
  obtain ⟨p, e, f, hp, h⟩ := ce
  have h : G = del p H := h
  subst h
  exact ⟨.ref p, e, q p H hp f (W.refl _)⟩
theorem svf_ifR {b : Bool} (h : TV Ds tt b) (h1 : b = true → SVF Ds [] ts xs) (h2 : b = false → SVF Ds [] tu xs) : SVF Ds [] (tSeq (tIfS tt ts tNext) tu) xs := fun D σ H G ce iv en q => by
  have ce : G = H := ce
  subst ce
  refine h σ G _ iv en fun H1 l1 => ?_
  cases b with
  | true => exact (if_pos rfl).mpr (h1 rfl { D with nx := tu D } σ H1 H1 rfl (W.step l1 iv) (en.st l1) fun p H2 e f l2 => q p H2 e f (W.trans l1 l2))
  | false => exact (if_neg Bool.false_ne_true).mpr (h2 rfl D σ H1 H1 rfl (W.step l1 iv) (en.st l1) fun p H2 e f l2 => q p H2 e f (W.trans l1 l2))
theorem spF_sd {ι : Type} {P : Wd → ι → Prop} {ds : (W : Wd) → ι → List (Dn W)} {ys : ι → List V} {i : ι} (h : P W i) : SpD (spF P ds ys) [] (ds W i) (dLst (ys i)) := fun vs H Q iv o q => by
  rw [List.append_nil]
  exact ⟨W, i, h, iv, o, fun p H' e f l => q _ H' (W.trans l (L_del (W.step l iv) e)) ⟨p, rfl, f, e⟩⟩
theorem fl_call {ι : Type} {P : Wd → ι → Prop} {ds : (W : Wd) → ι → List (Dn W)} {ys : ι → List V} {i : ι} (h : P W i) (ha : AV Ds t (ds W i)) : FL Ds (tCall (spF P ds ys) [] E0 t) (ys i) := fun σ H Q iv en q =>
  ha σ H _ iv en fun vs H1 l1 o1 => by
    rw [List.append_nil]
    exact ⟨W, i, h, W.step l1 iv, o1, fun p H' e f l => q p H' (fresh_none f (W.trans l1 l)) f (W.trans l1 l) e⟩
/-! a loop over a told list, cells at hand -/
theorem CE.more {p : Addr} {o : HO} : ∀ {cs : List (Nat × List V)} {σ : L2.St} {H G : Hp}, CE W cs σ (del p H) G → H p = some o → CE W cs σ H (upd G p o)
  | [], σ, H, G, h, e => by
    have h : G = del p H := h
    subst h
    exact upd_del e
  | c :: cs, σ, H, G, ⟨q, e1, f, hq, h⟩, e => by
    obtain ⟨ne, hq⟩ := del_some hq
    rw [del_del] at h
    refine ⟨q, e1, f, hq, CE.more h ?_⟩
    rw [del_ne (Ne.symm ne)]
    exact e
theorem fl_sums {B : List Nat} (pl : Piv B) (h : B.length ≤ 12) (ha : AV Ds t [dVs B]) : FL Ds (tCall sp_sums_of [] E0 t) (vs (wordsOf B)) := fun σ H Q iv en q =>
  ha σ H _ iv en fun us H1 l1 o1 => by
    match us, o1 with
    | [u], ⟨⟨b, e, fb, hb⟩, _⟩ =>
      subst e
      have iv1 := W.step l1 iv
      refine ⟨b, B, rfl, hb, pl, h, fun H' p L sm np ep pm od => ?_⟩
      have s2 : Same H1 (del p H') := fun c v hc => by
        have nc : c ≠ p := fun z => by
          subst z
          rw [np] at hc
          cases hc
        rw [del_ne nc]
        exact sm c v hc
      refine q p H' (none_back iv1 l1 np) (W.fresh iv1 np) (W.trans l1 (W.same s2)) ?_
      rw [ep, sort_uniq pm od]
      rfl
/-! numbers[k] += y -/
def rGetN (K : PySem.W.Frag) : V → V → Hp → VK → Prop := fun o i H Q => ∃ (p : Addr) (xs : List V) (k : Nat) (v : V), o = .ref p ∧ i = .int (k : Int) ∧ SqL K H p xs ∧ xs[k]? = some v ∧ Q v H
theorem get_listN {X : Cx} : PGet X (rGetN X.K) := by
  intro pins s σ H o i ov iv Q I ro ri h
  obtain ⟨p, xs, k, z, rfl, rfl, hq, he, q⟩ := h
  cases ro
  obtain ⟨t, rfl⟩ := ri
  obtain ⟨its, r, pl, hz⟩ := I.list hq
  obtain ⟨w, ew, rw'⟩ := r.get he
  have fin : EP X pins σ Q w s := ⟨z, H, I, rw', q⟩
  have hl := r.length
  have hk := (List.getElem?_eq_some_iff.mp he).1
  have hn := line63
  exact wpAny_getItem_list pl.isList (by omega) (by omega) (by simpa using ew) fin
theorem nvc_aug {a b : Int} (g : getC cs i = some xs) (hk : EV (withC Ds cs) ti (dN k)) (gx : xs[k]? = some (.int a)) (h : EV (withC Ds cs) te (dI b)) : NVC Ds cs (tAugS (tVar i) ti te (rGetN K) (ipI fun i j => i + j) rSetL) Ds (setC cs i (xs.set k (.int (a + b)))) := fun D σ H G ce iv en q => by
  obtain ⟨p0, e0, hp0⟩ := cell_at ce g
  refine ⟨.ref p0, e0, ev_run hk ce iv en fun u H1 G1 c1 l1 _ o => ?_⟩
  obtain ⟨p, e, hp⟩ := cell_at c1 g
  have ep : p = p0 := by
    rw [e] at e0
    cases e0
    rfl
  subst ep
  refine ⟨p, xs, k, _, rfl, o, SqL.of hp, gx, ev_run h c1 (W.step l1 iv) (en.st l1) fun v H2 G2 c2 l2 _ o2 => ?_⟩
  obtain ⟨p2, e2, hp2, c3⟩ := c2.change (ys := xs.set k (.int (a + b))) g
  have eq : p = p2 := by
    rw [e] at e2
    cases e2
    rfl
  subst eq
  refine ⟨a, b, rfl, o2, ?_⟩
  have lt := (List.getElem?_eq_some_iff.mp gx).1
  exact ⟨p, xs, k, k, rfl, o, hp2, ixN_nat lt, q _ _ _ c3 (W.trans l1 l2) ((en.st l1).st l2)⟩
end
end Vf
set_option Elab.async false
set_option linter.all false
set_option maxRecDepth 100000
set_option maxHeartbeats 400000
namespace Vf
open PySem PySem.Spec PyProof.Rows L2
variable {W : Wd}
/-! ### a comprehension as a new list; defs that tell new lists -/
section
variable {Ds : EnvT W} {te ti tl : TE} {tt : TT} {i j k n : Nat} {K : PySem.W.Frag} {xs : List V} {l : List Nat}
theorem fl_lc {p : V → Bool} {g : V → V} (hl : EV Ds tl (dLst xs)) (hz : xs.length ≤ 100000) (ht : ∀ x ∈ xs, TV (Ds.set i (some (dV x))) tt (p x))
    (hb : ∀ x ∈ xs, p x = true → EV (Ds.set i (some (dV x))) te (dV (g x))) : FL Ds (tLc (iList K tl) (gName i) tt te [i]) ((xs.filter p).map g) := fun σ H Q iv en q =>
  hl σ H _ iv en fun v H1 l1 ⟨a, e, ga, h⟩ => by
    subst e
    have iv1 := W.step l1 iv
    refine ⟨a, rfl, ⟨xs, .inl (.inl h)⟩, fun D nD => ?_⟩
    have fD := W.fresh iv1 nD
    have up : ∀ {H' : Hp} {o : HO}, W.L H1 (del D H') → H' D = some o → W.L H1 H' := fun l e => W.trans l (L_del (W.step l iv1) e)
    refine lc_list (K := K) (a := a) (xs := xs) (fun k H' => W.L H1 (del D H') ∧ H' D = some (.lst (((xs.take k).filter p).map g))) ⟨by rw [del_upd nD]; exact W.refl H1, upd_same⟩ (fun k H' _ hP => .inl (.inl (W.keep ga (up hP.1 hP.2) h))) (fun k x H' hx hP => ?_)
      fun H' hP => q D H' (none_back iv1 l1 nD) fD (W.trans l1 hP.1) (by rw [hP.2, List.take_length])
    obtain ⟨lP', eD⟩ := hP
    have lP := up lP' eD
    have xm := List.mem_of_getElem? hx
    have en' : EnvL (Ds.set i (some (dV x))) ((wipe σ [i]).set i (some x)) H' := env_lc rfl (en.st (W.trans l1 lP))
    have tk : (xs.take (k + 1)).filter p = (xs.take k).filter p ++ [x].filter p := by
      rw [List.take_add_one, hx, List.filter_append]
      rfl
    refine ⟨wipe_lc, ?_⟩
    refine ht x xm _ H' _ (W.step lP iv1) en' fun H2 l2 => ?_
    cases hp : p x with
    | true =>
      refine (if_pos rfl).mpr (hb x xm hp _ H2 _ (W.step l2 (W.step lP iv1)) (en'.st l2) fun y H3 l3 o3 => ?_)
      have eD3 := W.keep fD l3 (W.keep fD l2 eD)
      refine ⟨_, eD3, ?_, ?_, ?_⟩
      · rw [List.length_map]
        refine sl_lt (Nat.le_trans (List.length_filter_le _ _) ?_)
        rw [List.length_take]
        omega
      · rw [del_updS]
        exact W.trans lP' (W.trans (W.delL fD l2) (W.delL fD l3))
      · rw [upd_same, tk, List.map_append, (show y = g x from o3), List.filter_cons_of_pos hp]
        rfl
    | false =>
      refine (if_neg Bool.false_ne_true).mpr ⟨W.trans lP' (W.delL fD l2), ?_⟩
      rw [tk, List.filter_cons_of_neg (by simp [hp]), List.filter_nil, List.append_nil]
      exact W.keep fD l2 eD
theorem fl_eq {ys : List V} (h : FL Ds te xs) (e : xs = ys) : FL Ds te ys := e ▸ h
end
section
variable {P : Program} {w : World} {K : PySem.W.Frag} {mg : Str → Option Value} {base : Heap} {x qual : Str} {st : Stmt} {f : Addr} {fd : FuncData} {N ps : List Str} {k : Nat}
  {ι : Type} {Pr : Wd → ι → Prop} {ds : (W : Wd) → ι → List (Dn W)} {ys : ι → List V}
theorem fn_svf (F : Fun K x qual st f fd) (S : FnScope N ps (defScope st)) (len : ∀ W i, (ds W i).length = ps.length)
    (hb : ∀ (W : Wd) (i : ι), Pr W i → ∀ (cdv : Value) (A : Around) (outer : List Env) (s : Shared) (H : Hp) (E : XK), Room k (A.deeper (envOfC qual (defScope st) s.heap.objs.size f cdv)) →
      ∃ t, PSs (cxOf CX0 P w K mg base N qual (defScope st) f cdv A outer s H E).nox (defBody st) t ∧ SVF (envOf (ds W i) (N.length - ps.length)) [] t (ys i)) : FnOk P w K mg base CX0 (k + 1) f fd ps (spF Pr ds ys) := by
  refine F.ok S (fun vs H Q E h => ?_) (fun cdv A outer s H vs Q E hr h => ?_)
  · obtain ⟨W, i, _, _, o, _⟩ := h
    exact o.length.trans (len W i)
  · obtain ⟨W, i, p, iv, o, q⟩ := h
    obtain ⟨t, ht, sv⟩ := hb W i p cdv A outer s H E hr
    refine ⟨t, ht, sv _ _ H H rfl iv ?_ q⟩
    have l := o.length.trans (len W i)
    unfold L2.start
    rw [l]
    exact EnvL.start o
end
/-! ### rows -/
def rowP (P : Nat → Nat) (n : Nat) (L : List Nat) : List Nat := (List.range (n + 1)).map fun j => (L.filter fun w => decide (P w = j)).length
theorem rowP_len (P : Nat → Nat) (n : Nat) (L : List Nat) : (rowP P n L).length = n + 1 := by
  unfold rowP
  rw [List.length_map, List.length_range]
theorem rowP_at {P : Nat → Nat} {n j : Nat} {L : List Nat} (h : j ≤ n) : (rowP P n L)[j]? = some (L.filter fun w => decide (P w = j)).length := by
  unfold rowP
  rw [List.getElem?_map, List.getElem?_range (by omega)]
  rfl
theorem rowP_nil (P : Nat → Nat) (n : Nat) : rowP P n [] = List.replicate (n + 1) 0 := by
  apply List.ext_getElem?
  intro j
  by_cases h : j ≤ n
  · rw [rowP_at h, List.getElem?_replicate_of_lt (by omega)]
    rfl
  · rw [List.getElem?_eq_none (by rw [rowP_len]; omega), List.getElem?_eq_none (by rw [List.length_replicate]; omega)]
theorem rowP_step {P : Nat → Nat} {n w : Nat} {L : List Nat} (h : P w ≤ n) : (rowP P n L).set (P w) ((L.filter fun v => decide (P v = P w)).length + 1) = rowP P n (L ++ [w]) := by
  apply List.ext_getElem?
  intro j
  by_cases hj : j ≤ n
  · rw [rowP_at hj, List.filter_append, List.length_append]
    by_cases e : P w = j
    · subst e
      rw [List.getElem?_set_self (by rw [rowP_len]; omega), List.filter_cons, if_pos (decide_eq_true rfl)]
      rfl
    · rw [List.getElem?_set_ne e, rowP_at hj, List.filter_cons, if_neg (by rw [decide_eq_false e]; decide)]
      rfl
  · rw [List.getElem?_eq_none (by rw [List.length_set, rowP_len]; omega), List.getElem?_eq_none (by rw [rowP_len]; omega)]
theorem rowP_perm {P : Nat → Nat} {n : Nat} {L M : List Nat} (h : L.Perm M) : rowP P n L = rowP P n M := by
  unfold rowP
  exact List.map_congr_left fun j _ => (h.filter _).length_eq
theorem rowP_sum {P : Nat → Nat} {n : Nat} : ∀ {L : List Nat}, (∀ v ∈ L, P v ≤ n) → (rowP P n L).sum = L.length
  | [], _ => by rw [rowP_nil]; simp
  | w :: L, h => by
    have ih := rowP_sum (P := P) (n := n) (L := L) fun v hv => h v (List.mem_cons_of_mem _ hv)
    have hw := h w (List.mem_cons_self ..)
    rw [rowP_perm (show (w :: L).Perm (L ++ [w]) from (List.perm_append_singleton w L).symm), ← rowP_step hw]
    have ha := rowP_at (P := P) (L := L) hw
    generalize (L.filter fun v => decide (P v = P w)).length = c at ha ⊢
    generalize rowP P n L = R at ih ha ⊢
    have : ∀ (R : List Nat) (k c : Nat), R[k]? = some c → (R.set k (c + 1)).sum = R.sum + 1 := by
      intro R
      induction R with
      | nil => intro k c h; cases h
      | cons a R ih =>
        intro k c h
        cases k with
        | zero =>
          cases h
          rw [List.set_cons_zero, List.sum_cons, List.sum_cons]
          omega
        | succ k =>
          rw [List.set_cons_succ, List.sum_cons, List.sum_cons, ih k c h]
          omega
    rw [this R _ _ ha, ih, List.length_cons]
theorem pc_pos {v : Nat} (hv : v < 2 ^ 24) (h : pc v = 0) : v = 0 := by
  refine Decidable.byContradiction fun z => ?_
  rw [← spots_len, List.length_eq_zero_iff] at h
  have h : ((List.range 24).filter fun i => v.testBit i) = [] := h
  rw [List.filter_eq_nil_iff] at h
  exact h v.log2 (List.mem_range.mpr ((Nat.log2_lt z).mpr hv)) (Nat.testBit_log2 z)
end Vf
set_option Elab.async false
set_option linter.all false
set_option maxRecDepth 100000
set_option maxHeartbeats 400000
namespace Vf
open PySem PySem.Spec PyProof.Rows L2
variable {W : Wd}
/-- the row of a room -/
noncomputable def rowB (n : Nat) (B : List Nat) : List Nat := rowP pc n (wordsOf B)
theorem words_ok {B : List Nat} (pl : Plain B) : (∀ v, v ∈ wordsOf B ↔ span B v) ∧ (wordsOf B).Nodup ∧ (wordsOf B).length = 2 ^ B.length := by
  have s := words_spanL pl
  have pm : (wordsOf B).Perm (sumsOf B) := List.mergeSort_perm _ _
  have ok := sums_ok pl.1
  exact ⟨s.1, pm.nodup_iff.mpr ok.2.1, by rw [pm.length_eq, ok.2.2]⟩
theorem words_lt {B : List Nat} {n : Nat} (pl : Plain B) (lt : ∀ b ∈ B, b < 2 ^ n) : ∀ v ∈ wordsOf B, v < 2 ^ n := fun v hv => span_lt lt (((words_ok pl).1 v).mp hv)
structure RowP (r : List Nat) : Prop where
  l2 : 2 ≤ r.length
  l25 : r.length ≤ 25
  one : r[0]? = some 1
  pw : ∃ k, r.sum = 2 ^ k ∧ k + 1 ≤ r.length
theorem RowP.sum0 {r : List Nat} (h : RowP r) : 0 < r.sum ∧ r.sum < 1073741824 := by
  obtain ⟨k, e, hk⟩ := h.pw
  have := h.l25
  rw [e]
  exact ⟨Nat.two_pow_pos k, pw_lt (by omega)⟩
theorem rowB_P {n : Nat} {B : List Nat} (f : RoomF n B) : RowP (rowB n B) := by
  obtain ⟨mem, nd, len⟩ := words_ok f.pl
  have lt := words_lt f.pl f.lt
  have n1 := f.n1
  have n24 := f.n24
  have pl := plain_len f.pl f.lt
  have z : 0 ∈ wordsOf B := (mem 0).mpr (span_zero _)
  have l24 : ∀ v ∈ wordsOf B, v < 2 ^ 24 := fun v hv => lt24 n24 (lt v hv)
  have ple : ∀ v ∈ wordsOf B, pc v ≤ n := fun v hv => pc_le_n n24 (lt v hv)
  have z1 : (List.filter (fun w => decide (pc w = 0)) (wordsOf B)).length = 1 := by
    refine (len_same (m := [0]) (nd.filter _) (by simp) fun x => ?_).trans rfl
    rw [List.mem_filter, List.mem_singleton, decide_eq_true_eq]
    refine ⟨fun ⟨a, b⟩ => pc_pos (l24 x a) b, fun e => ?_⟩
    rw [e]
    exact ⟨z, pc_zero⟩
  unfold rowB
  generalize wordsOf B = L at *
  have lr := rowP_len pc n L
  refine ⟨by omega, by omega, ?_, B.length, ?_, by omega⟩
  · rw [rowP_at (Nat.zero_le n), z1]
  · rw [rowP_sum ple, len]
/-- what a row is changed to -/
def chK (r : List Nat) (k : Nat) : List Int := (List.range r.length).map fun j => ((List.range k).map fun i => (r.getD i 0 : Int) * entN (r.length - 1) i j).sum
structure ChgP (i : List Nat × List Nat) : Prop where
  row : RowP i.1
  len : i.2.length = i.1.length
  ch : ∀ j < i.1.length, ((List.range i.1.length).map fun k => (i.1.getD k 0 : Int) * entN (i.1.length - 1) k j).sum = (i.1.sum : Int) * (i.2.getD j 0 : Int)
theorem chK_len (r : List Nat) (k : Nat) : (chK r k).length = r.length := by
  unfold chK
  rw [List.length_map, List.length_range]
theorem chK_at {r : List Nat} {k j : Nat} (h : j < r.length) : (chK r k)[j]? = some ((List.range k).map fun i => (r.getD i 0 : Int) * entN (r.length - 1) i j).sum := by
  unfold chK
  rw [List.getElem?_map, List.getElem?_range h]
  rfl
theorem chK_zero (r : List Nat) : chK r 0 = List.replicate r.length 0 := by
  apply List.ext_getElem?
  intro j
  by_cases h : j < r.length
  · rw [chK_at h, List.getElem?_replicate_of_lt h]
    rfl
  · rw [List.getElem?_eq_none (by rw [chK_len]; omega), List.getElem?_eq_none (by rw [List.length_replicate]; omega)]
theorem chK_step {r : List Nat} {k : Nat} : List.zipWith (fun x y => x + (r.getD k 0 : Int) * y) (chK r k) (entL (r.length - 1) k) = chK r (k + 1) := by
  apply List.ext_getElem?
  intro j
  by_cases h : j < r.length
  · rw [chK_at h, List.getElem?_zipWith, chK_at h, entL_at (show j ≤ r.length - 1 by omega), List.range_succ, List.map_append, List.sum_append_int]
    simp
  · rw [List.getElem?_eq_none (by rw [List.length_zipWith, chK_len]; omega), List.getElem?_eq_none (by rw [chK_len]; omega)]
theorem chK_end {r d : List Nat} (h : ChgP (r, d)) : (chK r r.length).map V.int = vs (d.map (r.sum * ·)) := by
  have hl : d.length = r.length := h.len
  apply List.ext_getElem?
  intro j
  by_cases hj : j < r.length
  · have hc := h.ch j hj
    have gd : d[j]? = some (d.getD j 0) := by rw [List.getD_eq_getElem?_getD, List.getElem?_eq_getElem (show j < d.length by omega)]; rfl
    unfold vs
    rw [List.getElem?_map, chK_at hj, List.getElem?_map, List.getElem?_map, gd]
    exact congrArg (fun z => some (V.int z)) (hc.trans (Int.natCast_mul _ _).symm)
  · rw [List.getElem?_eq_none (by rw [List.length_map, chK_len]; omega), List.getElem?_eq_none (by rw [len_vs, List.length_map]; omega)]
/-- MacWilliams, for rows of rooms -/
theorem rowB_chg {n : Nat} {B : List Nat} (f : RoomF n B) (f2 : RoomF n (bas (conB n B))) : ChgP (rowB n B, rowB n (bas (conB n B))) := by
  obtain ⟨mem, nd, len⟩ := words_ok f.pl
  obtain ⟨mem2, nd2, _⟩ := words_ok f2.pl
  have m := fun j => mac (n := n) f.pl f.n24 f.lt mem nd mem2 nd2 j
  have sm : (rowB n B).sum = (wordsOf B).length := rowP_sum fun v hv => pc_le_n f.n24 (words_lt f.pl f.lt v hv)
  have l1 := rowP_len pc n (wordsOf B)
  have a1 := fun j (h : j ≤ n) => rowP_at (P := pc) (L := wordsOf B) h
  have a2 := fun j (h : j ≤ n) => rowP_at (P := pc) (L := wordsOf (bas (conB n B))) h
  refine ⟨rowB_P f, (rowP_len ..).trans (rowP_len ..).symm, fun j hj => ?_⟩
  have hj : j < (rowB n B).length := hj
  show ((List.range (rowB n B).length).map fun k => ((rowB n B).getD k 0 : Int) * entN ((rowB n B).length - 1) k j).sum = ((rowB n B).sum : Int) * ((rowB n (bas (conB n B))).getD j 0 : Int)
  unfold rowB at hj sm ⊢
  rw [l1] at hj
  rw [sm, l1, Nat.add_sub_cancel, List.getD_eq_getElem?_getD, a2 j (by omega)]
  refine Eq.trans ?_ (m j)
  refine sum_congr' fun i hi => ?_
  rw [List.getD_eq_getElem?_getD, a1 i (by have := List.mem_range.mp hi; omega)]
  rfl
theorem rowB_congr {n : Nat} {A B : List Nat} (pA : Plain A) (pB : Plain B) (h : ∀ v, span A v ↔ span B v) : rowB n A = rowB n B := by
  obtain ⟨mem, nd, _⟩ := words_ok pA
  obtain ⟨mem2, nd2, _⟩ := words_ok pB
  exact rowP_perm ((List.perm_ext_iff_of_nodup nd nd2).mpr fun v => (mem v).trans ((h v).trans (mem2 v).symm))
/-! promises -/
section
variable {n k : Nat} {B r d l : List Nat} {C : Addr}
def sp_pow2 : Sp := spW (ι := Nat) (fun _ k => k ≤ 24) (fun _ k => [dN (2 ^ k)]) fun _ _ => dB true
theorem sd_pow2 (h : k ≤ 24) : SpD sp_pow2 [] [(dN (2 ^ k) : Dn W)] (dB true) := spW_sd (i := k) h
theorem pow2_and (k : Nat) : 2 ^ k &&& (2 ^ k - 1) = 0 := by rw [Nat.and_two_pow_sub_one_eq_mod, Nat.mod_self]
theorem sd_is_listL {xs : List V} : SpD (W := W) sp_is_list [] [dLst xs] (dB true) := fun vs H Q iv o q => by
  match vs, o with
  | [v], ⟨⟨a, e, g, h⟩, _⟩ =>
    subst e
    exact ⟨a, xs, rfl, .inl h, fun H' s => q _ H' (W.same s) rfl⟩
def sp_is_row : Sp := spW (ι := List Nat) (fun _ r => RowP r) (fun _ r => [dVs r]) fun _ _ => dB true
theorem sd_is_row (h : RowP r) : SpD sp_is_row [] [(dVs r : Dn W)] (dB true) := spW_sd (i := r) h
def sp_check_row : Sp := spW (ι := List Nat) (fun _ r => RowP r) (fun _ r => [dVs r]) fun _ _ => dV .non
theorem sd_check_row (h : RowP r) : SpD sp_check_row [] [(dVs r : Dn W)] (dV .non) := spW_sd (i := r) h
def sp_changed_sums : Sp := spW (ι := List Nat × List Nat) (fun _ i => ChgP i) (fun _ i => [dVs i.1]) fun _ i => dVs (i.2.map (i.1.sum * ·))
theorem sd_changed_sums (h : ChgP (r, d)) : SpD sp_changed_sums [] [(dVs r : Dn W)] (dVs (d.map (r.sum * ·))) := spW_sd (i := (r, d)) h
noncomputable def sp_changed : Sp := spF (ι := List Nat × List Nat) (fun _ i => ChgP i) (fun _ i => [dVs i.1]) fun i => vs i.2
noncomputable def sp_counted (C : Addr) : Sp := spF (ι := Nat × List Nat) (fun _ i => i.2.length ≤ 12) (fun _ i => [dRoom C i.1 i.2]) fun i => vs (rowB i.1 i.2)
theorem sd_counted (h : B.length ≤ 12) : SpD (sp_counted C) [] [(dRoom C n B : Dn W)] (dVs (rowB n B)) := spF_sd (i := (n, B)) h
noncomputable def sp_row (C : Addr) : Sp := spF (ι := Nat × List Nat) (fun _ _ => True) (fun _ i => [dRoom C i.1 i.2]) fun i => vs (rowB i.1 i.2)
theorem sd_row : SpD (sp_row C) [] [(dRoom C n B : Dn W)] (dVs (rowB n B)) := spF_sd (i := (n, B)) trivial
end
end Vf
set_option Elab.async false
set_option linter.all false
set_option maxRecDepth 100000
set_option maxHeartbeats 400000
namespace Vf
open PySem PySem.Spec PyProof.Rows L2
variable {W : Wd}
section
variable {Ds : EnvT W} {te ti tl : TE} {ts : TS} {tt : TT} {i j k n : Nat} {K : PySem.W.Frag} {xs ys : List V} {l : List Nat} {d1 d2 : Dn W}
theorem od_tt {r : R2} {b : Bool} (h : OpD (W := W) r d1 d2 (dB b)) (e : b = true) : OpD r d1 d2 (dB true) := e ▸ h
theorem fl_lcM {g : Nat → Nat} (hl : EV Ds tl (dVs l)) (hz : l.length ≤ 100000) (hb : ∀ x ∈ l, EV (Ds.set i (some (dN x))) te (dN (g x))) : FL Ds (tLc (iList K tl) (gName i) tYes te [i]) (vs (l.map g)) := by
  have h := fl_lc (K := K) (i := i) (tt := tYes) (te := te) (p := fun _ => true) (g := fun x => .int (g (nOf x) : Int)) hl (by rw [len_vs]; exact hz) (fun x hx => tv_yes) fun x hx hp => by
    obtain ⟨c, hc, rfl⟩ := List.mem_map.mp hx
    exact hb c hc
  rw [filt_true] at h
  unfold vs at h ⊢
  rw [List.map_map] at h ⊢
  exact h
theorem svf_roomF {C : Addr} {B : List Nat} (i : Nat) (e : Ds.get i = some (dRoom C n B)) (h : RoomF n B → SVF Ds [] ts xs) (hi : Nat.ble (i + 1) Ds.n = true := by rfl) : SVF Ds [] ts xs := fun D σ H G ce iv en q => by
  obtain ⟨v, _, a, dx, b, _, _, _, _, _, f⟩ := en.get e hi
  exact h f D σ H G ce iv en q
theorem svf_eq {cs : List (Nat × List V)} (h : SVF Ds cs ts xs) (e : xs = ys) : SVF Ds cs ts ys := e ▸ h
end
theorem vs_getR {l : List Nat} {k c : Nat} (h : l[k]? = some c) : (vs l)[k]? = some (.int (c : Int)) := by
  unfold vs
  rw [List.getElem?_map, h]
  rfl
theorem chK_start (r : List Nat) : (dLst (List.replicate r.length (V.int 0)) : Dn W) = dIs (chK r 0) := by
  unfold dIs
  rw [chK_zero, List.map_replicate]
theorem cmul_mem {n i : Nat} {a b : Int} (n24 : n ≤ 24) (h : i ≤ n) (hb : b ∈ entL n i) : CMul a b := by
  unfold entL at hb
  obtain ⟨j, _, rfl⟩ := List.mem_map.mp hb
  have h1 := ent_bound h j
  have h2 : 2 ^ n ≤ 2 ^ 24 := pw_le n24
  refine .inr ?_
  omega
theorem con_F {n : Nat} {B : List Nat} (f : RoomF n B) : RoomF n (bas (conB n B)) := ⟨bas_plain _, f.n1, f.n24, con_lt f.pl f.lt⟩
theorem rowB_chg2 {n : Nat} {B : List Nat} (f : RoomF n B) : ChgP (rowB n (bas (conB n B)), rowB n B) := by
  have := rowB_chg (con_F f) (con_F (con_F f))
  rw [rowB_congr (bas_plain _) f.pl (con_con f.pl f.n24 f.lt)] at this
  exact this
end Vf
set_option Elab.async false
set_option linter.all false
set_option maxRecDepth 100000
set_option maxHeartbeats 400000
namespace Vf
open PySem PySem.Spec PyProof.Rows L2
variable {W : Wd}
/-! ### steps whose next state is told by an index -/
section
variable {ι : Type} {E : ι → EnvT W} {P : ι → List (Nat × List V) → Prop} {Ds Es Fs : EnvT W} {cs cs1 cs2 : List (Nat × List V)} {d d1 d2 : Dn W} {te ti tl tb : TE} {t ta : TA} {tt tt2 : TT} {ts tu t1 t2 : TS} {i j k n m : Nat} {K : PySem.W.Frag} {xs ys zs : List V} {l : List Nat} {b : Bool}
end
/-! promises of the laws of rows -/
def SpanN (ws L : List Nat) : Prop := (∀ v, v ∈ L ↔ span ws v) ∧ L.Nodup
end Vf
set_option Elab.async false
set_option linter.all false
set_option maxRecDepth 100000
set_option maxHeartbeats 400000
namespace Vf
open PySem PySem.Spec PyProof.Rows L2
variable {W : Wd}
section
variable {Ds Es Fs : EnvT W} {d : Dn W} {te ta tb tl : TE} {t : TA} {ts tu : TS} {t1 t2 : TT} {i j n : Nat} {K : PySem.W.Frag} {xs : List V} {l : List Nat}
end
/-! spans without repeated words -/
theorem SpanN.nil : SpanN [] [0] := ⟨fun v => ⟨fun h => by rw [List.mem_singleton.mp h]; exact span_zero _, fun h => List.mem_singleton.mpr (span_nil h)⟩, by simp⟩
theorem span_last {ws : List Nat} {w v : Nat} : span (ws ++ [w]) v ↔ span ws v ∨ span ws (v ^^^ w) := by
  rw [← span_cons]
  exact span_perm (List.perm_append_singleton w ws) v
theorem SpanN.old {ws L : List Nat} {w : Nat} (h : SpanN ws L) (hw : w ∈ L) : SpanN (ws ++ [w]) L := ⟨fun v => by
  rw [h.1, span_last]
  have sw := (h.1 w).mp hw
  refine ⟨.inl, fun k => k.elim id fun k => ?_⟩
  have := span_xor k sw
  rwa [Nat.xor_assoc, Nat.xor_self, Nat.xor_zero] at this, h.2⟩
theorem SpanN.new {ws L : List Nat} {w : Nat} (h : SpanN ws L) (hw : ¬ w ∈ L) : SpanN (ws ++ [w]) (L ++ L.map fun o => w ^^^ o) := by
  have mem : ∀ v, v ∈ L.map (fun o => w ^^^ o) ↔ span ws (v ^^^ w) := fun v => by
    rw [List.mem_map]
    refine ⟨fun ⟨o, ho, e⟩ => ?_, fun k => ⟨v ^^^ w, (h.1 _).mpr k, ?_⟩⟩
    · rw [← e, Nat.xor_comm w o, Nat.xor_assoc, Nat.xor_self, Nat.xor_zero]
      exact (h.1 o).mp ho
    · rw [Nat.xor_comm v w, ← Nat.xor_assoc, Nat.xor_self, Nat.zero_xor]
  refine ⟨fun v => ?_, ?_⟩
  · rw [List.mem_append, h.1, mem, span_last]
  · refine List.nodup_append.mpr ⟨h.2, map_nd (fun x _ y _ e => by
      have e2 := congrArg (fun z => w ^^^ z) e
      have e2 : w ^^^ (w ^^^ x) = w ^^^ (w ^^^ y) := e2
      rwa [← Nat.xor_assoc, ← Nat.xor_assoc, Nat.xor_self, Nat.zero_xor, Nat.zero_xor] at e2) h.2, fun a ha b hb e => ?_⟩
    subst e
    have s1 := (h.1 a).mp ha
    have s2 := (mem a).mp hb
    have := span_xor s1 s2
    rw [← Nat.xor_assoc, Nat.xor_self, Nat.zero_xor] at this
    exact hw ((h.1 w).mpr this)
theorem SpanN.len {ws L : List Nat} {n : Nat} (h : SpanN ws L) (lt : ∀ v ∈ ws, v < 2 ^ n) : L.length ≤ 2 ^ n := by
  have := h.2.length_le_of_subset (l₂ := List.range (2 ^ n)) fun v hv => List.mem_range.mpr (span_lt lt ((h.1 v).mp hv))
  rwa [List.length_range] at this
end Vf
set_option Elab.async false
set_option linter.all false
set_option maxRecDepth 100000
set_option maxHeartbeats 400000
namespace Vf
open PySem PySem.Spec PyProof.Rows L2
variable {W : Wd}
theorem rowB_of {n : Nat} {B L : List Nat} (pl : Plain B) (mem : ∀ v, v ∈ L ↔ span B v) (nd : L.Nodup) : rowP pc n L = rowB n B := by
  obtain ⟨m2, n2, _⟩ := words_ok pl
  exact rowP_perm ((List.perm_ext_iff_of_nodup nd n2).mpr fun v => (mem v).trans (m2 v).symm)
theorem SpanN.row {n : Nat} {ws L : List Nat} (h : SpanN ws L) : rowP pc n L = rowB n (bas ws) := rowB_of (bas_plain _) (fun v => by rw [h.1, bas_span]) h.2
theorem SpanN.lenB {ws L : List Nat} (h : SpanN ws L) : L.length = 2 ^ (bas ws).length := by
  obtain ⟨m2, n2, len⟩ := words_ok (bas_plain ws)
  rw [← len]
  exact len_same h.2 n2 fun v => by rw [h.1, m2, bas_span]
section
variable {K : PySem.W.Frag} {C : Addr} {r : List Nat}
end
/-! rows of all words: Pascal's numbers -/
end Vf
set_option Elab.async false
set_option linter.all false
set_option maxRecDepth 100000
set_option maxHeartbeats 400000
namespace Vf
open PySem PySem.Spec PyProof.Rows L2
variable {W : Wd}
section
variable {Ds : EnvT W} {te tl : TE} {i : Nat} {K : PySem.W.Frag} {l : List Nat}
end
end Vf
set_option Elab.async false
set_option linter.all false
set_option maxRecDepth 100000
set_option maxHeartbeats 400000
namespace Vf
open PySem PySem.Spec PyProof.Rows L2
variable {W : Wd}
/-! ### product_of, counted_weights -/
section
variable {c k n : Nat} {L : List Nat}
def sp_counted_weights : Sp := spF (ι := Nat × List Nat) (fun _ i => i.1 ≤ 24 ∧ ∀ v ∈ i.2, v < 2 ^ i.1) (fun _ i => [dN i.1, dVs i.2]) fun i => vs (rowP pc i.1 i.2)
theorem fl_counted_weights {Ds : EnvT W} {t : TA} (h : n ≤ 24) (h2 : ∀ v ∈ L, v < 2 ^ n) (ha : AV Ds t [dN n, dVs L]) : FL Ds (tCall sp_counted_weights [] E0 t) (vs (rowP pc n L)) := fl_call (i := (n, L)) ⟨h, h2⟩ ha
end
/-! ### while with a state told by an index, ranges of any length -/
section
variable {ι κ : Type} {Ds Es Fs : EnvT W} {ta : TA} {tt : TT} {ts : TS} {i n : Nat} {d1 : Dn W}
end
end Vf
set_option Elab.async false
set_option linter.all false
set_option maxRecDepth 100000
set_option maxHeartbeats 400000
namespace Vf
open PySem PySem.Spec PyProof.Rows L2
variable {W : Wd}
/-! ### neighbours -/
section
variable {n m w v : Nat} {A B D L ws X : List Nat}
structure OwnF (n : Nat) (B : List Nat) : Prop where
  f : RoomF n B
  own : ownB n B = true
theorem OwnF.len (h : OwnF n B) : 2 * B.length = n := own_len h.own
theorem OwnF.max (h : OwnF n B) (v : Nat) : span B v ↔ v < 2 ^ n ∧ ∀ b ∈ B, par v b = false := by
  have e := (own_iff h.f.pl h.f.n24 h.f.lt).mp h.own
  rw [← con_span h.f.pl h.f.n24 h.f.lt v, ← e]
theorem OwnF.still (h : OwnF n B) : ∀ a, span B a → ∀ b, span B b → par a b = false := by
  have o := h.own
  unfold ownB at o
  exact still_span.mp (Bool.and_eq_true _ _ |>.mp o).1
theorem own_mk (f : RoomF n B) (st : ∀ a ∈ B, ∀ b ∈ B, par a b = false) (l : 2 * B.length = n) : OwnF n B := ⟨f, by
  unfold ownB
  rw [still_iff.mpr st, decide_eq_true l]
  rfl⟩
noncomputable def halfB (n : Nat) (B : List Nat) (w : Nat) : List Nat := lowB n (comB n B (bas (conB n (bas [w]))))
noncomputable def nbB (n : Nat) (B : List Nat) (w : Nat) : List Nat := bas (halfB n B w ++ [w])
theorem one_lt (h : w < 2 ^ n) : ∀ v ∈ [w], v < 2 ^ n := fun v hv => by rw [List.mem_singleton.mp hv]; exact h
theorem half_span (f : RoomF n B) (hw : w < 2 ^ n) (v : Nat) : span (halfB n B w) v ↔ span B v ∧ par v w = false := by
  unfold halfB
  rw [comB_span f.lt, con_spanS (bas_plain _) f.n24 (bas_lt (one_lt hw))]
  have e : (∀ b, span (bas [w]) b → par v b = false) ↔ par v w = false := by
    constructor
    · intro h
      exact h w ((bas_span _ _).mpr (span_mem (List.mem_singleton.mpr rfl)))
    · intro h b hb
      exact par_span.mp (fun x hx => by rw [List.mem_singleton.mp hx]; exact h) b ((bas_span _ _).mp hb)
  rw [e]
  exact ⟨fun h => ⟨h.1, h.2.2⟩, fun h => ⟨h.1, span_lt f.lt h.1, h.2⟩⟩
theorem half_lt : ∀ v ∈ halfB n B w, v < 2 ^ n := lowB_lt
theorem half_len (h : OwnF n B) (hw : w < 2 ^ n) (nw : ¬ span B w) : 2 * (halfB n B w).length + 2 = n := by
  have f := h.f
  have pC := bas_plain (conB n (bas [w]))
  have lC := con_lt (n := n) (bas_plain [w]) (bas_lt (one_lt hw))
  have w0 : ¬ span [] w := fun k => nw (by rw [(span_emp w).mp k]; exact span_zero _)
  have l1 : (bas [w]).length = 1 := add_dim plain_nil w0
  have dC := con_dim (bas_plain [w]) f.n24 (bas_lt (one_lt hw))
  have sm := sum_common2 f.pl pC f.lt lC
  have cs := con_spanS (bas_plain [w]) f.n24 (bas_lt (one_lt hw))
  have hb : ∃ b ∈ B, par w b = true := by
    refine Decidable.byContradiction fun k => nw ((h.max w).mpr ⟨hw, fun b hb => ?_⟩)
    cases e : par w b with
    | false => rfl
    | true => exact absurd ⟨b, hb, e⟩ k
  obtain ⟨b, hb, pb⟩ := hb
  have nb : ¬ span (bas (conB n (bas [w]))) b := fun k => by
    have := ((cs b).mp k).2 w ((bas_span _ _).mpr (span_mem (List.mem_singleton.mpr rfl)))
    rw [par_comm, pb] at this
    cases this
  have d1 := add_dim pC nb
  have d2 := dim_le (bas_plain (bas (conB n (bas [w])) ++ [b])) (bas_plain (B ++ bas (conB n (bas [w])))) fun v hv => by
    rw [bas_span] at hv ⊢
    exact span_app_sub (fun x hx => span_right hx) (fun x hx => span_left (span_sub (fun y hy => by rw [List.mem_singleton.mp hy]; exact span_mem hb) hx)) hv
  have d3 := plain_len (n := n) (bas_plain (B ++ bas (conB n (bas [w])))) (bas_lt fun v hv => by
    rcases List.mem_append.mp hv with k | k
    · exact f.lt v k
    · exact lC v k)
  have hl := h.len
  unfold halfB
  omega
theorem nb_span (f : RoomF n B) (hw : w < 2 ^ n) (v : Nat) : span (nbB n B w) v ↔ (span B v ∧ par v w = false) ∨ (span B (v ^^^ w) ∧ par (v ^^^ w) w = false) := by
  unfold nbB
  rw [bas_span, span_last, half_span f hw, half_span f hw]
theorem nb_F (f : RoomF n B) (hw : w < 2 ^ n) : RoomF n (nbB n B w) := ⟨bas_plain _, f.n1, f.n24, bas_lt (app_lt half_lt hw)⟩
theorem nb_len (h : OwnF n B) (hw : w < 2 ^ n) (nw : ¬ span B w) : 2 * (nbB n B w).length = n := by
  have := half_len h hw nw
  have e : (bas (halfB n B w ++ [w])).length = (halfB n B w).length + 1 := add_dim (lowB_plain _ _) fun k => nw ((half_span h.f hw w).mp k).1
  unfold nbB
  omega
theorem own_nb (h : OwnF n B) (hw : w < 2 ^ n) (nw : ¬ span B w) (ww : par w w = false) : OwnF n (nbB n B w) := by
  have f2 := nb_F h.f hw
  have hs := half_span h.f hw
  have st : stillB (nbB n B w) = true := still_bas (app_even (fun a ha b hb => h.still a ((hs a).mp (span_mem ha)).1 b ((hs b).mp (span_mem hb)).1) (fun b hb => by
    rw [par_comm]
    exact ((hs b).mp (span_mem hb)).2) ww)
  exact own_mk f2 (still_iff.mp st) (nb_len h hw nw)
/-! lists of all words -/
/-! a lacked even word -/
/-! the first pairs -/
/-! distances -/
noncomputable def distB (n : Nat) (A B : List Nat) : Nat := A.length - (lowB n (comB n A B)).length
theorem com_le (fA : RoomF n A) : (lowB n (comB n A B)).length ≤ A.length := dim_le (lowB_plain _ _) fA.pl fun v hv => ((comB_span fA.lt v).mp hv).1
theorem com_comm (fA : RoomF n A) (fB : RoomF n B) : lowB n (comB n A B) = lowB n (comB n B A) := plain_unique (lowB_plain _ _) (lowB_plain _ _) fun v => by
  rw [comB_span fA.lt, comB_span fB.lt, and_comm]
theorem com_self (fA : RoomF n A) : lowB n (comB n A A) = A := plain_unique (lowB_plain _ _) fA.pl fun v => by
  rw [comB_span fA.lt, and_self]
theorem dist_self (fA : RoomF n A) : distB n A A = 0 := by
  unfold distB
  rw [com_self fA, Nat.sub_self]
theorem dist_zero (hA : OwnF n A) (hB : OwnF n B) : distB n A B = 0 ↔ A = B := by
  constructor
  · intro h
    have l := com_le (B := B) hA.f
    have l2 := com_le (B := A) hB.f
    rw [com_comm hB.f hA.f] at l2
    have a := hA.len
    have b := hB.len
    have e1 : (lowB n (comB n A B)).length = A.length := by
      unfold distB at h
      omega
    have s1 : ∀ v, span (lowB n (comB n A B)) v ↔ span A v := sub_dim (lowB_plain _ _) hA.f.pl (fun v hv => ((comB_span hA.f.lt v).mp hv).1) e1
    have s2 : ∀ v, span (lowB n (comB n A B)) v ↔ span B v := sub_dim (lowB_plain _ _) hB.f.pl (fun v hv => ((comB_span hA.f.lt v).mp hv).2) (by omega)
    exact plain_unique hA.f.pl hB.f.pl fun v => (s1 v).symm.trans (s2 v)
  · rintro rfl
    exact dist_self hA.f
end
end Vf
set_option Elab.async false
set_option linter.all false
set_option maxRecDepth 100000
set_option maxHeartbeats 400000
namespace Vf
open PySem PySem.Spec PyProof.Rows L2
variable {W : Wd}
/-! ### plain bases out of sorted lists of all words -/
section
variable {n i : Nat} {B M L : List Nat}
end
/-! ### rules -/
section
variable {Ds Es Fs : EnvT W} {te tl : TE} {ts : TS} {i : Nat} {K : PySem.W.Frag} {l : List Nat}
end
/-! ### promises -/
section
variable {n m w k : Nat} {A B L ws : List Nat} {C p : Addr}
/-! the program's -/
end
end Vf
set_option Elab.async false
set_option linter.all false
set_option maxRecDepth 100000
set_option maxHeartbeats 400000
namespace Vf
open PySem PySem.Spec PyProof.Rows L2
variable {W : Wd}
/-! ### neighbours have distance 1, and are made again by any further word -/
section
variable {n w u v : Nat} {A B D : List Nat}
theorem nb_has (f : RoomF n A) (hw : w < 2 ^ n) : span (nbB n A w) w := (nb_span f hw w).mpr (.inr (by rw [Nat.xor_self]; exact ⟨span_zero _, par_zero w⟩))
theorem com_nb (h : OwnF n A) (hw : w < 2 ^ n) (nw : ¬ span A w) : lowB n (comB n A (nbB n A w)) = halfB n A w := plain_unique (lowB_plain _ _) (lowB_plain _ _) fun v => by
  rw [comB_span h.f.lt, nb_span h.f hw]
  refine Iff.trans ?_ (half_span h.f hw v).symm
  constructor
  · rintro ⟨h1, h2 | ⟨h2, _⟩⟩
    · exact h2
    · refine absurd ?_ nw
      have := span_xor h1 h2
      rwa [← Nat.xor_assoc, Nat.xor_self, Nat.zero_xor] at this
  · exact fun k => ⟨k.1, .inl k⟩
theorem dist_nb (h : OwnF n A) (hw : w < 2 ^ n) (nw : ¬ span A w) : distB n A (nbB n A w) = 1 := by
  have := half_len h hw nw
  have := h.len
  unfold distB
  rw [com_nb h hw nw]
  omega
end
end Vf
set_option Elab.async false
set_option linter.all false
set_option maxRecDepth 100000
set_option maxHeartbeats 4000000
set_option pp.maxSteps 300
namespace Vf
open PySem PySem.Spec PyProof.Rows L2
/-! ### chains: distances of own rooms -/
section
variable {n u k : Nat} {A B D : List Nat}
theorem dist_tri (hA : OwnF n A) (hB : OwnF n B) (hD : OwnF n D) : distB n A B ≤ distB n A D + distB n D B := by
  have lA := hA.len
  have lB := hB.len
  have lD := hD.len
  have eq := sum_common2 (n := n) (A := lowB n (comB n A D)) (B := lowB n (comB n D B)) (lowB_plain _ _) (lowB_plain _ _) lowB_lt lowB_lt
  have h1 : (bas (lowB n (comB n A D) ++ lowB n (comB n D B))).length ≤ D.length := dim_le (bas_plain _) hD.f.pl fun v hv => by
    rw [bas_span] at hv
    exact span_app_sub (fun v k => ((comB_span hA.f.lt v).mp k).2) (fun v k => ((comB_span hD.f.lt v).mp k).1) hv
  have h2 : (lowB n (comB n (lowB n (comB n A D)) (lowB n (comB n D B)))).length ≤ (lowB n (comB n A B)).length := dim_le (lowB_plain _ _) (lowB_plain _ _) fun v hv => by
    have k := (comB_span lowB_lt v).mp hv
    exact (comB_span hA.f.lt v).mpr ⟨((comB_span hA.f.lt v).mp k.1).1, ((comB_span hD.f.lt v).mp k.2).2⟩
  have c1 := com_le (B := D) hA.f
  have c2 := com_le (B := B) hD.f
  have c3 := com_le (B := B) hA.f
  unfold distB
  omega
theorem dist_le (hA : OwnF n A) : distB n A B ≤ 12 := by
  have := hA.len
  have := hA.f.n24
  unfold distB
  omega
theorem dist_near (hA : OwnF n A) (hB : OwnF n B) (hu : span B u) (nu : ¬ span A u) : OwnF n (nbB n A u) ∧ distB n (nbB n A u) B + 1 = distB n A B := by
  have lu := span_lt hB.f.lt hu
  have uu := hB.still u hu u hu
  have hN := own_nb hA lu nu uu
  have d1 := dist_nb hA lu nu
  have tr := dist_tri hA hB hN
  have lA := hA.len
  have lN := hN.len
  have ad : (bas (lowB n (comB n A B) ++ [u])).length = (lowB n (comB n A B)).length + 1 := add_dim (lowB_plain _ _) fun h => nu ((comB_span hA.f.lt u).mp h).1
  have le : (bas (lowB n (comB n A B) ++ [u])).length ≤ (lowB n (comB n (nbB n A u) B)).length := dim_le (bas_plain _) (lowB_plain _ _) fun v hv => by
    rw [bas_span] at hv
    refine span_app_sub (D := lowB n (comB n (nbB n A u) B)) (fun v k => ?_) (fun v k => ?_) hv
    · have k := (comB_span hA.f.lt v).mp k
      exact (comB_span hN.f.lt v).mpr ⟨(nb_span hA.f lu v).mpr (.inl ⟨k.1, hB.still v k.2 u hu⟩), k.2⟩
    · have : v = 0 ∨ v = u := by
        have := (span_last (ws := []) (w := u) (v := v)).mp k
        rcases this with h | h
        · exact .inl ((span_emp v).mp h)
        · have z := (span_emp _).mp h
          have : v ^^^ u ^^^ u = u := by rw [z, Nat.zero_xor]
          rw [Nat.xor_assoc, Nat.xor_self, Nat.xor_zero] at this
          exact .inr this
      rcases this with rfl | rfl
      · exact span_zero _
      · exact (comB_span hN.f.lt v).mpr ⟨nb_has hA.f lu, hu⟩
  have c1 := com_le (B := B) hN.f
  have c2 := com_le (B := B) hA.f
  refine ⟨hN, ?_⟩
  unfold distB at *
  omega
/-- a chain of own rooms of n places from A to B -/
structure IsCh (n : Nat) (A B : List Nat) (l : List (List Nat)) : Prop where
  own : ∀ D ∈ l, OwnF n D
  hd : l[0]? = some A
  lst : l[l.length - 1]? = some B
  nx : ∀ k X Y, l[k]? = some X → l[k + 1]? = some Y → distB n X Y = 1
  ln : l.length ≤ 100
theorem IsCh.pos {l : List (List Nat)} (h : IsCh n A B l) : 0 < l.length := (List.getElem?_eq_some_iff.mp h.hd).1
theorem IsCh.app {l m : List (List Nat)} (h : IsCh n A D l) (k : IsCh n D B m) (ln : l.length + m.length ≤ 100) : IsCh n A B (l ++ m.drop 1) := by
  have p1 := h.pos
  have p2 := k.pos
  refine ⟨fun X hX => (List.mem_append.mp hX).elim (h.own X) fun z => k.own X (List.mem_of_mem_drop z), ?_, ?_, fun i X Y hX hY => ?_, ?_⟩
  · rw [List.getElem?_append_left p1]
    exact h.hd
  · rw [List.length_append, List.length_drop]
    by_cases e : m.length = 1
    · have : m.drop 1 = [] := List.drop_eq_nil_of_le (by omega)
      rw [this, List.append_nil, e]
      have hl := h.lst
      have ml := k.lst
      rw [e] at ml
      have md := k.hd
      rw [show 1 - 1 = 0 from rfl, md] at ml
      cases ml
      exact hl
    · rw [List.getElem?_append_right (by omega), List.getElem?_drop, show 1 + (l.length + (m.length - 1) - 1 - l.length) = m.length - 1 by omega]
      exact k.lst
  · by_cases c : i + 1 < l.length
    · rw [List.getElem?_append_left c] at hY
      rw [List.getElem?_append_left (by omega)] at hX
      exact h.nx i X Y hX hY
    · rw [List.getElem?_append_right (by omega), List.getElem?_drop] at hY
      by_cases c2 : i < l.length
      · rw [List.getElem?_append_left c2] at hX
        have : i = l.length - 1 := by omega
        subst this
        rw [h.lst] at hX
        cases hX
        rw [show 1 + (l.length - 1 + 1 - l.length) = 0 + 1 by omega] at hY
        exact k.nx 0 _ _ k.hd hY
      · rw [List.getElem?_append_right (by omega), List.getElem?_drop] at hX
        exact k.nx _ _ _ hX (by rw [show 1 + (i - l.length) + 1 = 1 + (i + 1 - l.length) by omega]; exact hY)
  · rw [List.length_append, List.length_drop]
    omega
end
end Vf
set_option Elab.async false
set_option linter.all false
set_option maxRecDepth 100000
set_option maxHeartbeats 4000000
set_option pp.maxSteps 300
namespace Vf
open PySem PySem.Spec PyProof.Rows L2
variable {W : Wd}
/-! ### lists of rooms that a def makes and changes -/
/-- a list whose first item is an object -/
def Rf (xs : List V) : Prop := ∃ a ys, xs = V.ref a :: ys
/-- a meaning that such a list has no part in -/
def Sep (d : Dn W) : Prop := ∀ v H p xs, d.ok v H → H p = some (.lst xs) → Rf xs → d.ok v (del p H)
theorem OkL.app {H : Hp} : ∀ {ds es : List (Dn W)} {xs ys : List V}, OkL ds xs H → OkL es ys H → OkL (ds ++ es) (xs ++ ys) H
  | [], _, [], _, _, h => h
  | _ :: _, _, _ :: _, _, ⟨o, r⟩, h => ⟨o, OkL.app r h⟩
  | [], _, _ :: _, _, h, _ => h.elim
  | _ :: _, _, [], _, h, _ => h.elim
theorem OkL.drop {H : Hp} : ∀ (k : Nat) {ds : List (Dn W)} {xs : List V}, OkL ds xs H → OkL (ds.drop k) (xs.drop k) H
  | 0, _, _, h => h
  | _ + 1, [], [], _ => trivial
  | k + 1, _ :: _, _ :: _, h => OkL.drop k h.2
  | _ + 1, [], _ :: _, h => h.elim
  | _ + 1, _ :: _, [], h => h.elim
theorem OkL.take {H : Hp} : ∀ (k : Nat) {ds : List (Dn W)} {xs : List V}, OkL ds xs H → OkL (ds.take k) (xs.take k) H
  | 0, _, _, _ => trivial
  | _ + 1, [], [], _ => trivial
  | k + 1, _ :: _, _ :: _, h => ⟨h.1, OkL.take k h.2⟩
  | _ + 1, [], _ :: _, h => h.elim
  | _ + 1, _ :: _, [], h => h.elim
theorem OkL.get {H : Hp} : ∀ {ds : List (Dn W)} {xs : List V} {k : Nat} {d : Dn W}, OkL ds xs H → ds[k]? = some d → ∃ x, xs[k]? = some x ∧ d.ok x H
  | [], [], _, _, _, e => by simp at e
  | d :: ds, x :: xs, 0, d', h, e => by
    have : d = d' := by simpa using e
    subst this
    exact ⟨x, rfl, h.1⟩
  | d :: ds, x :: xs, k + 1, d', h, e => by
    obtain ⟨y, hy, o⟩ := OkL.get (k := k) h.2 (by simpa using e)
    exact ⟨y, by simpa using hy, o⟩
  | [], _ :: _, _, _, h, _ => h.elim
  | _ :: _, [], _, _, h, _ => h.elim
section
variable {Ds Es Fs : EnvT W} {d d1 d2 d3 : Dn W} {ds es : List (Dn W)} {te ta tb tl ti : TE} {t : TA} {tt : TT} {ts tu : TS} {i j l k n : Nat} {K : PySem.W.Frag} {b : Bool}
theorem od_ixLD (h : ds[k]? = some d) : OpD (W := W) (rIxL K) (dLD ds) (dN k) d := fun u v H Q iv ⟨a, xs, e, g, h1, o⟩ e2 q => by
  subst e
  rw [show v = V.int (k : Int) from e2]
  obtain ⟨x, hx, ox⟩ := o.get h
  exact ⟨a, xs, k, x, rfl, rfl, SqL.of h1, atI_nat (j := k) hx, q x H (W.refl H) ox⟩
theorem cd_lenLD : CrD (W := W) (fun xs H Q => ∃ p ys, xs = [.ref p] ∧ (SqL K H p ys ∨ SqT K H p ys) ∧ Q (.int ys.length) H) [dLD ds] (dN ds.length) := fun us H Q iv o q => by
  match us, o with
  | [u], ⟨⟨a, xs, e, g, h1, o⟩, _⟩ =>
    subst e
    exact ⟨a, xs, rfl, .inl (SqL.of h1), q _ H (W.refl H) (by rw [o.length]; rfl)⟩
end
/-! ### worlds away from one thing -/
def awayW (W : Wd) (D : Addr) (hD : W.F D) : Wd where
  L := W.L
  inv H := W.inv H ∧ ∃ xs, H D = some (.lst xs)
  F a := W.F a ∧ a ≠ D
  refl := W.refl
  trans := W.trans
  same := W.same
  step l h := ⟨W.step l h.1, h.2.elim fun xs e => ⟨xs, W.keep hD l e⟩⟩
  keep f l e := W.keep f.1 l e
  fresh h n := ⟨W.fresh h.1 n, by
    rintro rfl
    obtain ⟨xs, e⟩ := h.2
    rw [n] at e
    cases e⟩
  insF h e := ⟨W.insF h.1 e, by
    rintro rfl
    obtain ⟨xs, k⟩ := h.2
    rw [e] at k
    cases k⟩
  put h l n := W.put h.1 l n
  delL f l := W.delL f.1 l
  delI f h := ⟨W.delI f.1 h.1, h.2.elim fun xs e => ⟨xs, by rw [del_ne (Ne.symm f.2)]; exact e⟩⟩
/-- a meaning in each world -/
structure UD where
  f : ∀ W : Wd, Dn W
  lift : ∀ {W : Wd} {D : Addr} (hD : W.F D) {v : V} {H : Hp}, H D = none → (f W).ok v H → (f (awayW W D hD)).ok v H
  stay : ∀ {W : Wd} {D : Addr} (hD : W.F D) {v : V} {H : Hp} {o : HO}, (f (awayW W D hD)).ok v H → (f (awayW W D hD)).ok v (upd H D o)
  drop : ∀ {W : Wd} {D : Addr} (hD : W.F D) {v : V} {H : Hp}, (f (awayW W D hD)).ok v H → (f W).ok v H
def uV (v0 : V) : UD := ⟨fun _ => dV v0, fun _ _ _ _ h => h, fun _ _ _ _ h => h, fun _ _ _ h => h⟩
def uLst (xs : List V) : UD := ⟨fun _ => dLst xs, fun _ _ _ n ⟨a, e, g, h⟩ => ⟨a, e, ⟨g, ne_of_none h n⟩, h⟩, fun _ _ _ _ ⟨a, e, g, h⟩ => ⟨a, e, g, by rw [upd_ne g.2]; exact h⟩, fun _ _ _ ⟨a, e, g, h⟩ => ⟨a, e, g.1, h⟩⟩
def uTup (xs : List V) : UD := ⟨fun _ => dTup xs, fun _ _ _ n ⟨a, e, g, h⟩ => ⟨a, e, ⟨g, ne_of_none h n⟩, h⟩, fun _ _ _ _ ⟨a, e, g, h⟩ => ⟨a, e, g, by rw [upd_ne g.2]; exact h⟩, fun _ _ _ ⟨a, e, g, h⟩ => ⟨a, e, g.1, h⟩⟩
def uN (n : Nat) : UD := uV (.int (n : Int))
/-- an environment in each world -/
def uEnv (n : Nat) (l : List (Nat × UD)) (W : Wd) : EnvT W := ⟨n, l.map fun p => (p.1, p.2.f W)⟩
theorem getE_u {l : List (Nat × UD)} {i : Nat} {W : Wd} {d : Dn W} (h : getE (l.map fun p => (p.1, p.2.f W)) i = some d) : ∃ u : UD, d = u.f W ∧ ∀ W' : Wd, getE (l.map fun p => (p.1, p.2.f W')) i = some (u.f W') := by
  induction l with
  | nil => cases h
  | cons p l ih =>
    have h : (bif Nat.beq p.1 i then some (p.2.f W) else getE (l.map fun p => (p.1, p.2.f W)) i) = some d := h
    cases c : Nat.beq p.1 i with
    | true =>
      rw [c] at h
      have h : some (p.2.f W) = some d := h
      cases h
      refine ⟨p.2, rfl, fun W' => ?_⟩
      show (bif Nat.beq p.1 i then some (p.2.f W') else getE (l.map fun p => (p.1, p.2.f W')) i) = _
      rw [c]
      rfl
    | false =>
      rw [c] at h
      obtain ⟨u, e, k⟩ := ih h
      refine ⟨u, e, fun W' => ?_⟩
      show (bif Nat.beq p.1 i then some (p.2.f W') else getE (l.map fun p => (p.1, p.2.f W')) i) = _
      rw [c]
      exact k W'
theorem uEnv_lift {n : Nat} {l : List (Nat × UD)} {σ : L2.St} {H : Hp} {D : Addr} (hD : W.F D) (nD : H D = none) (h : EnvL (uEnv n l W) σ H) : EnvL (uEnv n l (awayW W D hD)) σ H := ⟨h.1, fun i d e lt => by
  obtain ⟨u, rfl, k⟩ := getE_u e
  obtain ⟨v, e1, o⟩ := h.2 i (u.f W) (k W) lt
  exact ⟨v, e1, u.lift hD nD o⟩⟩
theorem uEnv_stay {n : Nat} {l : List (Nat × UD)} {σ : L2.St} {H : Hp} {D : Addr} {o : HO} (hD : W.F D) (h : EnvL (uEnv n l (awayW W D hD)) σ H) : EnvL (uEnv n l (awayW W D hD)) σ (upd H D o) := ⟨h.1, fun i d e lt => by
  obtain ⟨u, rfl, k⟩ := getE_u e
  obtain ⟨v, e1, x⟩ := h.2 i _ e lt
  exact ⟨v, e1, u.stay hD x⟩⟩
def uDs (us : List UD) (W : Wd) : List (Dn W) := us.map fun u => u.f W
theorem uDs_lift {D : Addr} {H : Hp} (hD : W.F D) (nD : H D = none) : ∀ {us : List UD} {xs : List V}, OkL (uDs us W) xs H → OkL (uDs us (awayW W D hD)) xs H
  | [], [], _ => trivial
  | u :: us, x :: xs, h => ⟨u.lift hD nD h.1, uDs_lift hD nD h.2⟩
  | [], _ :: _, h => h.elim
  | _ :: _, [], h => h.elim
theorem uDs_stay {D : Addr} {H : Hp} {o : HO} (hD : W.F D) : ∀ {us : List UD} {xs : List V}, OkL (uDs us (awayW W D hD)) xs H → OkL (uDs us (awayW W D hD)) xs (upd H D o)
  | [], [], _ => trivial
  | u :: us, x :: xs, h => ⟨u.stay hD h.1, uDs_stay hD h.2⟩
  | [], _ :: _, h => h.elim
  | _ :: _, [], h => h.elim
theorem uDs_drop {D : Addr} {H : Hp} (hD : W.F D) : ∀ {us : List UD} {xs : List V}, OkL (uDs us (awayW W D hD)) xs H → OkL (uDs us W) xs H
  | [], [], _ => trivial
  | u :: us, x :: xs, h => ⟨u.drop hD h.1, uDs_drop hD h.2⟩
  | [], _ :: _, h => h.elim
  | _ :: _, [], h => h.elim
section
variable {Ds Es Fs : EnvT W} {d d1 d2 d3 : Dn W} {ds es : List (Dn W)} {te ta tb tl ti : TE} {t : TA} {tt : TT} {ts tu : TS} {i j l k n N : Nat} {K : PySem.W.Frag} {b : Bool} {us : List UD} {ue : List (Nat × UD)}
/-! ### zip over two lists of things -/
end
end Vf
set_option Elab.async false
set_option linter.all false
set_option maxRecDepth 100000
set_option maxHeartbeats 4000000
set_option pp.maxSteps 300
namespace Vf
open PySem PySem.Spec PyProof.Rows L2
variable {W : Wd}
/-! ### a list of things in slot i, that grows: its content told by meanings, the world without it -/
structure LS (W : Wd) (i : Nat) (ds : List (Dn W)) (Ds : EnvT W) (p : Addr) (σ : L2.St) (H : Hp) : Prop where
  slot : σ[i]? = some (some (.ref p))
  F : W.F p
  ct : ∃ xs, H p = some (.lst xs) ∧ Rf xs ∧ OkL ds xs (del p H)
  inv : W.inv (del p H)
  env : EnvL Ds σ (del p H)
def NVR {ι : Type} (i : Nat) (Ds : EnvT W) (ds : List (Dn W)) (ts : TS) (E : ι → EnvT W) (R : ι → List (Dn W)) (P : ι → Prop) : Prop := ∀ (D : Ends) (σ : L2.St) (H : Hp) (p : Addr), LS W i ds Ds p σ H →
  (∀ x σ' H', P x → LS W i (R x) (E x) p σ' H' → W.L (del p H) (del p H') → D.nx σ' H') → ts D σ H
def SVR (i : Nat) (Ds : EnvT W) (ds : List (Dn W)) (ts : TS) (d : Dn W) : Prop := ∀ (D : Ends) (σ : L2.St) (H : Hp) (p : Addr), LS W i ds Ds p σ H → (∀ v H', W.L (del p H) H' → d.ok v H' → D.rt v H') → ts D σ H
theorem LS.has {i : Nat} {ds : List (Dn W)} {Ds : EnvT W} {p : Addr} {σ : L2.St} {H : Hp} (h : LS W i ds Ds p σ H) : W.L (del p H) H ∧ W.inv H ∧ EnvL (Ds.set i (some (dLD ds))) σ H := by
  obtain ⟨xs, hp, _, o⟩ := h.ct
  have l := L_del h.inv hp
  refine ⟨l, W.step l h.inv, ?_⟩
  have := EnvL.set (d := dLD ds) (v := .ref p) (i := i) ⟨p, xs, rfl, h.F, hp, o.st l⟩ (h.env.st l)
  rwa [set_id h.slot] at this
theorem LS.go {i : Nat} {ds : List (Dn W)} {Ds : EnvT W} {p : Addr} {σ : L2.St} {H H1 : Hp} (h : LS W i ds Ds p σ H) (l : W.L H H1) : LS W i ds Ds p σ H1 ∧ W.L (del p H) (del p H1) := by
  obtain ⟨xs, hp, r, o⟩ := h.ct
  have l2 := W.delL h.F l
  exact ⟨⟨h.slot, h.F, ⟨xs, W.keep h.F l hp, r, o.st l2⟩, W.step l2 h.inv, h.env.st l2⟩, l2⟩
section
variable {ι κ : Type} {Ds Es Fs : EnvT W} {d d1 d2 d3 : Dn W} {ds es : List (Dn W)} {te ta tb tl ti : TE} {t : TA} {tt : TT} {ts tu : TS} {i j l k n N : Nat} {K : PySem.W.Frag} {b : Bool} {E : ι → EnvT W} {R : ι → List (Dn W)} {P : ι → Prop} {E' : κ → EnvT W} {R' : κ → List (Dn W)} {P' : κ → Prop}
theorem svr_seq (h : NVR i Ds ds ts E R P) (k : ∀ x, P x → SVR i (E x) (R x) tu d) : SVR i Ds ds (tSeq ts tu) d := fun D σ H p s q =>
  h _ σ H p s fun x σ' H' px s' l => k x px D σ' H' p s' fun v H2 l2 o => q v H2 (W.trans l l2) o
theorem svr_end (h : SV (Ds.set i (some (dLD ds))) ts d) : SVR i Ds ds ts d := fun D σ H p s q => by
  obtain ⟨l, iv, en⟩ := s.has
  exact h D σ H iv en fun v H' l2 o => q v H' (W.trans l l2) o
theorem nvr_appendx {P : ι → Prop} {f : ι → Dn W} (h : EV (Ds.set i (some (dLD ds))) te (dEx P f)) (sp : ∀ x, Sep (f x)) (z : ds.length < 100000) : NVR i Ds ds (tDrop (tBM K "list" rAppend (tVar i) (tCons te tNil))) (fun _ => Ds) (fun x => ds ++ [f x]) P := fun D σ H p s q => by
  obtain ⟨l, iv, en⟩ := s.has
  obtain ⟨ys, hy, _, _⟩ := s.ct
  refine ⟨.ref p, s.slot, .inl ⟨rfl, _, SqL.of hy⟩, h σ H _ iv en fun v H1 l1 ⟨x, px, o⟩ => ?_⟩
  obtain ⟨s1, l2⟩ := s.go l1
  obtain ⟨xs, hp, r, ok⟩ := s1.ct
  refine ⟨p, xs, v, rfl, rfl, hp, sl_lt (by rw [ok.length]; omega), q x _ _ px ⟨s1.slot, s1.F, ⟨xs ++ [v], upd_same, ?_, ?_⟩, ?_, ?_⟩ ?_⟩
  · obtain ⟨a, zs, e⟩ := r
    exact ⟨a, zs ++ [v], by rw [e]; rfl⟩
  · rw [del_updS]
    exact OkL.app ok ⟨sp x v H1 p xs o hp r, trivial⟩
  · rw [del_updS]
    exact s1.inv
  · rw [del_updS]
    exact s1.env
  · rw [del_updS]
    exact l2
theorem nvr_append (h : EV (Ds.set i (some (dLD ds))) te d) (sp : Sep d) (z : ds.length < 100000) : NVR i Ds ds (tDrop (tBM K "list" rAppend (tVar i) (tCons te tNil))) (fun _ : Unit => Ds) (fun _ => ds ++ [d]) (fun _ => True) :=
  nvr_appendx (ι := Unit) (P := fun _ => True) (f := fun _ => d) (ev_ex h) (fun _ => sp) z
theorem nvr_imp (h : NVR i Ds ds ts E R P) (f : ι → κ) (k : ∀ x, P x → P' (f x) ∧ R x = R' (f x) ∧ ∀ σ H, EnvL (E x) σ H → EnvL (E' (f x)) σ H) : NVR i Ds ds ts E' R' P' := fun D σ H p s q =>
  h D σ H p s fun x σ' H' px s' l => by
    obtain ⟨py, er, ee⟩ := k x px
    exact q (f x) σ' H' py ⟨s'.slot, s'.F, er ▸ s'.ct, s'.inv, ee _ _ s'.env⟩ l
theorem nvr_forR {ta : TA} (E : Nat → ι → EnvT W) (R : Nat → ι → List (Dn W)) (P : Nat → ι → Prop) (x0 : ι) (hl : AV (Ds.set i (some (dLD ds))) ta [dN N]) (h62 : N < 2 ^ 62) (p0 : P 0 x0) (r0 : R 0 x0 = ds) (e0 : ∀ σ H, EnvL Ds σ H → EnvL (E 0 x0) σ H)
    (hb : ∀ k, k < N → ∀ x, P k x → NVR i ((E k x).set j (some (dN k))) (R k x) ts (E (k + 1)) (R (k + 1)) (P (k + 1))) (ne : j ≠ i := by decide) : NVR i Ds ds (tFor (iRng1 ta) (gName j) ts) (E N) (R N) (P N) := fun D σ H p s q => by
  obtain ⟨l, iv, en⟩ := s.has
  refine hl σ H _ iv en fun vs H1 l1 o1 => ?_
  match vs, o1 with
  | [v], ⟨o1, _⟩ =>
    obtain ⟨s1, l2⟩ := s.go l1
    refine ⟨(N : Int), by rw [show v = V.int (N : Int) from o1], by omega, by omega, ?_⟩
    refine for_range (lo := 0) (n := (N : Int).toNat) (fun k σ' H' => ∃ x, P k x ∧ LS W i (R k x) (E k x) p σ' H' ∧ W.L (del p H) (del p H')) ⟨x0, p0, ⟨s1.slot, s1.F, r0 ▸ s1.ct, s1.inv, e0 _ _ s1.env⟩, l2⟩ (fun k σ' H' hk hP => ?_) fun σ' H' hP => ?_
    · rw [Int.toNat_natCast] at hk
      obtain ⟨x, px, sx, lx⟩ := hP
      refine hb k hk x px _ _ H' p ⟨by rw [List.getElem?_set_ne ne]; exact sx.slot, sx.F, sx.ct, sx.inv, sx.env.set (show V.int (0 + (k : Int)) = V.int (k : Int) by rw [Int.zero_add])⟩ fun y σ2 H2 py s2 l3 => ⟨y, py, s2, W.trans lx l3⟩
    · rw [Int.toNat_natCast] at hP
      obtain ⟨x, px, sx, lx⟩ := hP
      exact q x σ' H' px sx lx
/-! a list made anew, of things -/
def FR (Ds : EnvT W) (te : TE) (ds : List (Dn W)) : Prop := ∀ (σ : L2.St) (H : Hp) (Q : VK), W.inv H → EnvL Ds σ H →
  (∀ p H' xs, W.F p → H' p = some (.lst xs) → H p = none → W.L H (del p H') → OkL ds xs (del p H') → Q (.ref p) H') → te σ H Q
theorem fr_lst (h : AV Ds t ds) (hn : ds.length ≤ 100000) : FR Ds (tLst t) ds := fun σ H Q iv en q => h σ H _ iv en fun xs H1 l1 o => by
  have iv1 := W.step l1 iv
  refine ⟨Nat.le_of_lt (sl_lt (by rw [o.length]; omega)), fun p np => q p _ xs (W.fresh iv1 np) upd_same ?_ (by rw [del_upd np]; exact l1) (by rw [del_upd np]; exact o)⟩
  cases e : H p with
  | none => rfl
  | some o =>
    have := W.keep (W.fresh iv1 np) l1 e
    rw [np] at this
    cases this
/-- a name for a new list, whose first item is an object -/
theorem sv_newR (h : FR Ds te ds) (rf : ∀ xs H, OkL ds xs H → Rf xs) (r : SVR i (Ds.set i none) ds tu d) (hi : Nat.ble (i + 1) Ds.n = true := by rfl) : SV Ds (tSeq (tAsg te (gName i)) tu) d := fun D σ H iv en q =>
  h σ H _ iv en fun p H' xs f hp np l o => by
    refine r D _ H' p ⟨?_, f, ⟨xs, hp, rf _ _ o, o⟩, W.step l iv, (en.st l).dropS⟩ fun v H2 l2 o2 => q v H2 (W.trans l l2) o2
    rw [List.getElem?_set_self (by rw [en.1]; exact Nat.le_of_ble_eq_true hi)]
end
theorem none_of {H H1 : Hp} {q : Addr} (f : W.F q) (l : W.L H H1) (n : H1 q = none) : H q = none := by
  cases e : H q with
  | none => rfl
  | some o =>
    have := W.keep f l e
    rw [n] at this
    cases this
section
variable {ι : Type} {Ds Es : EnvT W} {ds es : List (Dn W)} {te : TE} {ts tu : TS} {i : Nat} {E : ι → EnvT W} {R : ι → List (Dn W)} {P : ι → Prop}
end
section
variable {P : Program} {w : World} {K : PySem.W.Frag} {mg : Str → Option Value} {base : Heap} {x qual : Str} {st : Stmt} {f : Addr} {fd : FuncData} {N ps : List Str} {k : Nat}
  {ι : Type} {Pr : Wd → ι → Prop} {ds : (W : Wd) → ι → List (Dn W)} {us : ι → List UD}
end
end Vf
set_option Elab.async false
set_option linter.all false
set_option maxRecDepth 100000
set_option maxHeartbeats 4000000
set_option pp.maxSteps 300
namespace Vf
open PySem PySem.Spec PyProof.Rows L2
variable {W : Wd}
/-! ### lists of rooms of as many places -/
section
variable {C : Addr} {n k : Nat} {l m : List (List Nat)} {A B D : List Nat}
/-! ### chains of the program -/
end
/-! ### == of lists of rooms that are equal -/
section
variable {X : Cx} {C : Addr} {k : Nat}
end
/-! ### a new list that is read first and changed later -/
section
variable {Ds Es : EnvT W} {d d1 : Dn W} {ds : List (Dn W)} {ts tu : TS} {ta te : TE} {p : Addr} {i j : Nat}
end
end Vf
set_option Elab.async false
set_option linter.all false
set_option maxRecDepth 100000
set_option maxHeartbeats 4000000
set_option pp.maxSteps 300
namespace Vf
open PySem PySem.Spec PyProof.Rows L2
variable {W : Wd}
section
variable {Ds : EnvT W} {d d1 d2 : Dn W} {ds : List (Dn W)} {ta tb te : TE} {tu : TS} {i j l : Nat} {K : PySem.W.Frag}
end
/-- a path of own rooms that comes nearer to B by one with each step -/
structure PathP (n : Nat) (A B : List Nat) (k : Nat) (x : List (List Nat) × List Nat) : Prop where
  o : OwnF n x.2
  own : ∀ D ∈ x.1, OwnF n D
  len : x.1.length = k + 1
  hd : x.1[0]? = some A
  lst : x.1[k]? = some x.2
  nx : ∀ i X Y, x.1[i]? = some X → x.1[i + 1]? = some Y → distB n X Y = 1
  d : distB n x.2 B + k = distB n A B
theorem PathP.zero {n : Nat} {A B : List Nat} (hA : OwnF n A) : PathP n A B 0 ([A], A) := ⟨hA, fun D h => by rw [List.mem_singleton.mp h]; exact hA, rfl, rfl, rfl, fun i X Y _ h => by simp at h, rfl⟩
theorem PathP.step {n k u : Nat} {A B D : List Nat} {l : List (List Nat)} (h : PathP n A B k (l, D)) (hB : OwnF n B) (hu : span B u) (nu : ¬ span D u) : PathP n A B (k + 1) (l ++ [nbB n D u], nbB n D u) := by
  have o : OwnF n D := h.o
  have len : l.length = k + 1 := h.len
  obtain ⟨o2, e2⟩ := dist_near o hB hu nu
  have d : distB n D B + k = distB n A B := h.d
  refine ⟨o2, fun X hX => (List.mem_append.mp hX).elim (h.own X) fun z => by rw [List.mem_singleton.mp z]; exact o2, by rw [List.length_append, len]; rfl, ?_, ?_, fun i X Y hX hY => ?_, by show distB n (nbB n D u) B + (k + 1) = _; omega⟩
  · show (l ++ [nbB n D u])[0]? = some A
    rw [List.getElem?_append_left (by omega)]
    exact h.hd
  · show (l ++ [nbB n D u])[k + 1]? = some (nbB n D u)
    rw [List.getElem?_append_right (by omega), len, Nat.sub_self]
    rfl
  · have hX : (l ++ [nbB n D u])[i]? = some X := hX
    have hY : (l ++ [nbB n D u])[i + 1]? = some Y := hY
    have lt := (List.getElem?_eq_some_iff.mp hY).1
    rw [List.length_append, len] at lt
    have lt : i + 1 < k + 1 + 1 := lt
    rw [List.getElem?_append_left (by omega)] at hX
    by_cases c : i + 1 < l.length
    · rw [List.getElem?_append_left c] at hY
      exact h.nx i X Y hX hY
    · have : i = k := by omega
      subst this
      rw [List.getElem?_append_right (by omega), len, Nat.sub_self] at hY
      have hY : some (nbB n D u) = some Y := hY
      cases hY
      have hl : l[i]? = some D := h.lst
      rw [hl] at hX
      cases hX
      exact dist_nb o (span_lt hB.f.lt hu) nu
theorem PathP.chain {n : Nat} {A B D : List Nat} {l : List (List Nat)} (h : PathP n A B (distB n A B) (l, D)) (hA : OwnF n A) (hB : OwnF n B) : D = B ∧ IsCh n A B l := by
  have o : OwnF n D := h.o
  have len : l.length = distB n A B + 1 := h.len
  have d : distB n D B + distB n A B = distB n A B := h.d
  have e : D = B := (dist_zero o hB).mp (by omega)
  have d12 := dist_le (B := B) hA
  subst e
  exact ⟨rfl, h.own, h.hd, by rw [len, Nat.add_sub_cancel]; exact h.lst, h.nx, by omega⟩
end Vf
set_option Elab.async false
set_option linter.all false
set_option maxRecDepth 100000
set_option maxHeartbeats 4000000
set_option pp.maxSteps 300
namespace Vf
open PySem PySem.Spec PyProof.Rows L2
variable {W : Wd}
/-! ### own rooms exchanged, and beside one another -/
section
variable {n m w : Nat} {s A B S T : List Nat} {l : List (List Nat)}
theorem own_ex (hs : Seq n s) (h : OwnF n A) : OwnF n (bas (exB A s)) := by
  have f : RoomF n (bas (exB A s)) := ⟨bas_plain _, h.f.n1, h.f.n24, ex_ge hs A⟩
  refine own_mk f (fun a ha b hb => ?_) ?_
  · obtain ⟨x, hx, rfl⟩ := (exB_span hs a).mp (span_mem ha)
    obtain ⟨y, hy, rfl⟩ := (exB_span hs b).mp (span_mem hb)
    rw [led_par hs h.f.n24 (span_lt h.f.lt hx)]
    exact h.still x hx y hy
  · rw [exB_dim hs h.f.lt, bas_self h.f.pl]
    exact h.len
theorem IsCh.map {f : List Nat → List Nat} (h : IsCh n A B l) (ho : ∀ D, OwnF n D → OwnF m (f D)) (hd : ∀ X Y, OwnF n X → OwnF n Y → distB m (f X) (f Y) = distB n X Y) : IsCh m (f A) (f B) (l.map f) := by
  refine ⟨fun D hD => ?_, by rw [List.getElem?_map, h.hd]; rfl, by rw [List.length_map, List.getElem?_map, h.lst]; rfl, fun k X Y hX hY => ?_, by rw [List.length_map]; exact h.ln⟩
  · obtain ⟨X, hX, rfl⟩ := List.mem_map.mp hD
    exact ho X (h.own X hX)
  · rw [List.getElem?_map] at hX hY
    cases e1 : l[k]? with
    | none =>
      rw [e1] at hX
      cases hX
    | some X1 =>
      cases e2 : l[k + 1]? with
      | none =>
        rw [e2] at hY
        cases hY
      | some Y1 =>
        rw [e1] at hX
        rw [e2] at hY
        cases hX
        cases hY
        rw [hd X1 Y1 (h.own X1 (List.mem_of_getElem? e1)) (h.own Y1 (List.mem_of_getElem? e2))]
        exact h.nx k X1 Y1 e1 e2
end
/-! ### the law's own sequences -/
section
variable {p : Addr} {n w : Nat} {s l : List Nat}
end
end Vf
set_option Elab.async false
set_option linter.all false
set_option maxRecDepth 100000
set_option maxHeartbeats 4000000
set_option pp.maxSteps 300
namespace Vf
open PySem PySem.Spec PyProof.Rows L2
variable {W : Wd}
/-! ### walks -/
section
variable {n r k w : Nat} {x : Int} {l : List Nat} {p : Addr}
end
/-- for i in range(n), with a state -/
theorem nv_forK {Ds : EnvT W} {ta : TA} {ts : TS} {i n : Nat} (E : Nat → EnvT W) (hl : AV Ds ta [dN n]) (h2 : n < 2 ^ 62) (h0 : ∀ σ H, EnvL Ds σ H → EnvL (E 0) σ H) (hb : ∀ k < n, NV ((E k).set i (some (dN k))) ts (E (k + 1))) :
    NV Ds (tFor (iRng1 ta) (gName i) ts) (E n) := fun D σ H iv en q =>
  hl σ H _ iv en fun vs H1 l1 o1 => by
    match vs, o1 with
    | [v], ⟨o1, _⟩ =>
      refine ⟨(n : Int), by rw [show v = V.int (n : Int) from o1], by omega, by omega, ?_⟩
      refine for_range (lo := 0) (n := (n : Int).toNat) (fun k σ' H' => W.L H1 H' ∧ EnvL (E k) σ' H') ⟨W.refl H1, h0 _ _ (en.st l1)⟩ (fun k σ' H' hk hP => ?_) fun σ' H' hP => ?_
      · have iv' := W.step hP.1 (W.step l1 iv)
        rw [Int.toNat_natCast] at hk
        exact hb k hk _ _ H' iv' (hP.2.set (show V.int (0 + (k : Int)) = V.int (k : Int) by rw [Int.zero_add])) fun σ2 H2 l2 e2 => ⟨W.trans hP.1 l2, e2⟩
      · rw [Int.toNat_natCast] at hP
        exact q σ' H' (W.trans l1 hP.1) hP.2
end Vf
set_option Elab.async false
set_option linter.all false
set_option maxRecDepth 100000
set_option maxHeartbeats 4000000
set_option pp.maxSteps 300
namespace Vf
open PySem PySem.Spec PyProof.Rows L2
variable {W : Wd}
/-! ### lists or tuples, also written ones, that are read alone -/
def dQ (K : PySem.W.Frag) (xs : List V) : Dn W := ⟨fun v H => ∃ a, v = .ref a ∧ ((∀ H', W.L H H' → SqL K H' a xs) ∨ (∀ H', W.L H H' → SqT K H' a xs)),
  fun l ⟨a, e, h⟩ => ⟨a, e, h.imp (fun h H' l' => h H' (W.trans l l')) fun h H' l' => h H' (W.trans l l')⟩⟩
/-- a list or tuple that was handed -/
def dLTx (xs : List V) : Dn W := ⟨fun v H => ∃ a, v = .ref a ∧ W.F a ∧ Sq H a xs, fun st ⟨a, e, g, h⟩ => ⟨a, e, g, h.imp (W.keep g st) (W.keep g st)⟩⟩
/-- a meaning that can be read so -/
def Qs (K : PySem.W.Frag) (xs : List V) (d : Dn W) : Prop := ∀ v H, d.ok v H → (dQ K xs : Dn W).ok v H
section
variable {Ds Es Fs : EnvT W} {cs cs1 : List (Nat × List V)} {d d1 d2 : Dn W} {te tl : TE} {t : TA} {tt : TT} {ts : TS} {i j m n : Nat} {K : PySem.W.Frag} {xs ys : List V} {b : Bool}
theorem qs_L : Qs K xs (dLst xs : Dn W) := fun v H ⟨a, e, f, h⟩ => ⟨a, e, .inl fun H' l => SqL.of (W.keep f l h)⟩
theorem qs_LT : Qs K xs (dLTx xs : Dn W) := fun v H ⟨a, e, f, h⟩ => ⟨a, e, h.elim (fun h => .inl fun H' l => SqL.of (W.keep f l h)) fun h => .inr fun H' l => .inl (.inl (W.keep f l h))⟩
theorem qs_Q : Qs K xs (dQ K xs : Dn W) := fun v H h => h
theorem ev_Q (h : EV Ds te d) (q : Qs K xs d) : EV Ds te (dQ K xs) := ev_wk h q
theorem ev_LTL (h : EV Ds te (dLst xs)) : EV Ds te (dLTx xs) := ev_wk h fun v H ⟨a, e, f, h⟩ => ⟨a, e, f, .inl h⟩
theorem ev_LTT (h : EV Ds te (dTup xs)) : EV Ds te (dLTx xs) := ev_wk h fun v H ⟨a, e, f, h⟩ => ⟨a, e, f, .inr h⟩
theorem cd_lenQ : CrD (W := W) (fun xs H Q => ∃ p ys, xs = [.ref p] ∧ (SqL K H p ys ∨ SqT K H p ys) ∧ Q (.int ys.length) H) [dQ K xs] (dN xs.length) := fun us H Q iv o q => by
  match us, o with
  | [u], ⟨⟨a, e, h⟩, _⟩ =>
    subst e
    exact ⟨a, xs, rfl, h.imp (fun h => h H (W.refl H)) fun h => h H (W.refl H), q _ H (W.refl H) rfl⟩
theorem sd_is_listX : SpD (W := W) sp_is_list [] [dLTx xs] (dB true) := fun vs H Q iv o q => by
  match vs, o with
  | [u], ⟨⟨a, e, g, h⟩, _⟩ =>
    subst e
    exact ⟨a, xs, rfl, h, fun H' s => q _ H' (W.same s) rfl⟩
end
theorem PI.or {X : Cx} {tg e : Expr} {w1 w2 : TI} (h1 : PI X tg e w1) (h2 : PI X tg e w2) : PI X tg e (fun σ H R => w1 σ H R ∨ w2 σ H R) := ⟨fun pins s σ H R I h => h.elim (h1.run pins s σ H R I) (h2.run pins s σ H R I)⟩
def iLT (K : PySem.W.Frag) (tl : TE) : TI := fun σ H R => iList K tl σ H R ∨ iTup K tl σ H R
def iEnumLT (K : PySem.W.Frag) (t : TA) : TI := fun σ H R => iEnum K t σ H R ∨ iEnumT K t σ H R
section
variable {X : Cx}
theorem pi_LT {tg l : Expr} {tl : TE} (hl : PE X l tl) : PI X tg l (iLT X.K tl) := PI.or (pi_list hl) (pi_tup hl)
theorem pi_enumLT {e : Expr} {ta : TA} {p pos tpos : Pos} {elts : List Expr} {kk : Nat} (hg : Gl X "enumerate") (hm : X.mg "enumerate" = none) (ha : PA X [e] ta) (hs : starEach [e] X.env = [(false, eval e X.env)] := by rfl) :
    PI X (.Tuple elts kk tpos) (.Call (.Name "enumerate" p) [e] [] pos) (iEnumLT X.K ta) := PI.or (pi_enum hg hm ha hs) (pi_enumT hg hm ha hs)
end
section
variable {Ds Es Fs : EnvT W} {cs cs1 : List (Nat × List V)} {d d1 d2 : Dn W} {te tl : TE} {t : TA} {tt : TT} {ts : TS} {i j m n : Nat} {K : PySem.W.Frag} {xs ys : List V} {b : Bool}
/-- a comprehension over what stands in slot j -/
theorem ev_lcQ {p : V → Bool} {g : V → V} (hj : Ds.get j = some d) (q0 : Qs K xs d) (hz : xs.length ≤ 100000) (ht : ∀ x ∈ xs, TV (Ds.set i (some (dV x))) tt (p x))
    (hb : ∀ x ∈ xs, p x = true → EV (Ds.set i (some (dV x))) te (dV (g x))) (hn : Nat.ble (j + 1) Ds.n = true := by rfl) : EV Ds (tLc (iLT K (tVar j)) (gName i) tt te [i]) (dLst ((xs.filter p).map g)) := fun σ H Q iv en q => by
  obtain ⟨v, e, o⟩ := en.get hj hn
  obtain ⟨a, ea, hq⟩ := q0 v H o
  subst ea
  have turn : ∀ (D : Addr) (nD : H D = none) (k : Nat) (x : V) (H' : Hp), xs[k]? = some x → W.L H H' ∧ H' D = some (.lst (((xs.take k).filter p).map g)) → wipe ((wipe σ [i]).set i (some x)) [i] = wipe σ [i] ∧
      tt ((wipe σ [i]).set i (some x)) H' fun b H2 => if b = true then te ((wipe σ [i]).set i (some x)) H2 fun y H3 => ∃ ys, H3 D = some (.lst ys) ∧ ys.length < sizeLine ∧ (W.L H (upd H3 D (.lst (ys ++ [y]))) ∧ upd H3 D (.lst (ys ++ [y])) D = some (.lst (((xs.take (k + 1)).filter p).map g))) else (W.L H H2 ∧ H2 D = some (.lst (((xs.take (k + 1)).filter p).map g))) := by
    intro D nD k x H' hx hP
    obtain ⟨lP, eD⟩ := hP
    have xm := List.mem_of_getElem? hx
    have en' : EnvL (Ds.set i (some (dV x))) ((wipe σ [i]).set i (some x)) H' := env_lc rfl (en.st lP)
    have tk : (xs.take (k + 1)).filter p = (xs.take k).filter p ++ [x].filter p := by
      rw [List.take_add_one, hx, List.filter_append]
      rfl
    refine ⟨wipe_lc, ?_⟩
    refine ht x xm _ H' _ (W.step lP iv) en' fun H2 l2 => ?_
    cases hp : p x with
    | true =>
      refine (if_pos rfl).mpr (hb x xm hp _ H2 _ (W.step l2 (W.step lP iv)) (en'.st l2) fun y H3 l3 o3 => ?_)
      have eD3 := W.keep (W.fresh iv nD) l3 (W.keep (W.fresh iv nD) l2 eD)
      refine ⟨_, eD3, ?_, W.put iv (W.trans lP (W.trans l2 l3)) nD, ?_⟩
      · rw [List.length_map]
        refine sl_lt (Nat.le_trans (List.length_filter_le _ _) ?_)
        rw [List.length_take]
        omega
      · rw [upd_same, tk, List.map_append, show y = g x from o3]
        simp [hp]
    | false =>
      refine (if_neg Bool.false_ne_true).mpr ⟨W.trans lP l2, ?_⟩
      rw [W.keep (W.fresh iv nD) l2 eD, tk]
      simp [hp]
  rcases hq with hq | hq
  · refine .inl ⟨.ref a, e, a, rfl, ⟨xs, hq H (W.refl H)⟩, fun D nD => ?_⟩
    exact lc_list (K := K) (a := a) (xs := xs) (fun k H' => W.L H H' ∧ H' D = some (.lst (((xs.take k).filter p).map g))) ⟨W.put iv (W.refl H) nD, upd_same⟩ (fun k H' _ hP => hq H' hP.1) (fun k x H' hx hP => turn D nD k x H' hx hP)
      fun H' hP => q _ H' hP.1 ⟨D, rfl, W.fresh iv nD, by rw [hP.2, List.take_length]⟩
  · refine .inr ⟨.ref a, e, a, rfl, ⟨xs, hq H (W.refl H)⟩, fun D nD => ?_⟩
    exact lc_tup (K := K) (a := a) (xs := xs) (fun k H' => W.L H H' ∧ H' D = some (.lst (((xs.take k).filter p).map g))) ⟨W.put iv (W.refl H) nD, upd_same⟩ (fun k H' _ hP => hq H' hP.1) (fun k x H' hx hP => turn D nD k x H' hx hP)
      fun H' hP => q _ H' hP.1 ⟨D, rfl, W.fresh iv nD, by rw [hP.2, List.take_length]⟩
/-- for at, x in enumerate(l), l in slot m -/
theorem nvc_enumQ (E : Nat → EnvT W) (C : Nat → List (Nat × List V)) (hj : Ds.get m = some d) (q0 : Qs K xs d) (h0 : ∀ σ H, EnvL Ds σ H → EnvL (E 0) σ H) (hC : CE W cs = CE W (C 0))
    (hs : ∀ k, ((C k).all fun c => !(Nat.beq c.1 i)) = true) (hs2 : ∀ k, ((C k).all fun c => !(Nat.beq c.1 j)) = true) (hb : ∀ k x, xs[k]? = some x → NVC (((E k).set i (some (dN k))).set j (some (dV x))) (C k) ts (E (k + 1)) (C (k + 1))) (hn : Nat.ble (m + 1) Ds.n = true := by rfl) :
    NVC Ds cs (tFor (iEnumLT K (tCons (tVar m) tNil)) (gTup K 2 (gCons (gName i) (gCons (gName j) gNil))) ts) (E xs.length) (C xs.length) := fun D σ H G ce iv en q => by
  obtain ⟨v, e, o⟩ := en.get hj hn
  obtain ⟨a, ea, hq⟩ := q0 v G o
  subst ea
  have body : ∀ k σ' H' G', CE W (C k) σ' H' G' → W.L G G' → EnvL (E k) σ' G' → ∀ (hk : k < xs.length) (T : Addr), H' T = none → gTup K 2 (gCons (gName i) (gCons (gName j) gNil)) (.ref T) σ' (upd H' T (.tup [.int (k : Nat), xs[k]])) fun σ2 H2 =>
      ts { D with nx := fun σ2 H2 => ∃ G2, CE W (C (k + 1)) σ2 H2 G2 ∧ W.L G G2 ∧ EnvL (E (k + 1)) σ2 G2, ct := fun σ2 H2 => ∃ G2, CE W (C (k + 1)) σ2 H2 G2 ∧ W.L G G2 ∧ EnvL (E (k + 1)) σ2 G2, bk := D.nx } σ2 H2 := by
    intro k σ' H' G' cP lP eP hk T nT
    have iv' := W.step lP iv
    have hx : xs[k]? = some xs[k] := List.getElem?_eq_getElem hk
    have l3 : W.L H' (upd H' T (.tup [.int (k : Nat), xs[k]])) := W.put (W.step (cP.up iv') iv') (W.refl H') nT
    obtain ⟨G3, c3, lG⟩ := cP.go l3
    refine ⟨T, _, rfl, .inl (.inl upd_same), rfl, _, _, rfl, _, _, rfl, rfl, ?_⟩
    exact hb k xs[k] hx _ _ _ G3 ((c3.slot (hs k)).slot (hs2 k)) (W.step lG iv') (((eP.st lG).set rfl).set rfl) fun σ2 H2 G2 c2 l2 e2 => ⟨G2, c2, W.trans lP (W.trans lG l2), e2⟩
  have upG : ∀ k σ' H' G', CE W (C k) σ' H' G' → W.L G G' → W.L G H' := fun k σ' H' G' cP lP => W.trans lP (cP.up (W.step lP iv))
  rcases hq with hq | hq
  · refine .inl ⟨.ref a, e, a, xs, rfl, hq H (ce.up iv), fun k m σ' H' => k + m = xs.length ∧ ∃ G', CE W (C k) σ' H' G' ∧ W.L G G' ∧ EnvL (E k) σ' G', ⟨xs.length, Nat.zero_add _, G, hC ▸ ce, W.refl G, h0 _ _ en⟩, fun k m σ' H' hW => ?_⟩
    obtain ⟨km, G', cP, lP, eP⟩ := hW
    have hL := hq H' (upG k σ' H' G' cP lP)
    by_cases hk : k < xs.length
    · have hx : xs[k]? = some xs[k] := List.getElem?_eq_getElem hk
      refine .inr ⟨⟨_, _, hL, hx⟩, _, fun σ2 H2 hN => ⟨m - 1, by omega, by omega, hN⟩, fun x H2 hy => ?_⟩
      obtain ⟨T, x1, rfl, nT, rfl, fx⟩ := hy
      have e1 : x1 = xs[k] := by
        have h2 : xs[k]? = some x1 := fx _ hL
        rw [hx] at h2
        exact (Option.some.inj h2).symm
      subst e1
      exact body k σ' H' G' cP lP eP hk T nT
    · have kl : k = xs.length := by omega
      subst kl
      exact .inl ⟨⟨_, hL, by omega⟩, q σ' H' G' cP lP eP⟩
  · refine .inr ⟨.ref a, e, a, xs, rfl, hq H (ce.up iv), fun k m σ' H' => k + m = xs.length ∧ ∃ G', CE W (C k) σ' H' G' ∧ W.L G G' ∧ EnvL (E k) σ' G', ⟨xs.length, Nat.zero_add _, G, hC ▸ ce, W.refl G, h0 _ _ en⟩, fun k m σ' H' hW => ?_⟩
    obtain ⟨km, G', cP, lP, eP⟩ := hW
    have hL := hq H' (upG k σ' H' G' cP lP)
    by_cases hk : k < xs.length
    · have hx : xs[k]? = some xs[k] := List.getElem?_eq_getElem hk
      refine .inr ⟨⟨_, _, hL, hx⟩, _, fun σ2 H2 hN => ⟨m - 1, by omega, by omega, hN⟩, fun x H2 hy => ?_⟩
      obtain ⟨T, x1, rfl, nT, rfl, fx⟩ := hy
      have e1 : x1 = xs[k] := by
        have h2 : xs[k]? = some x1 := fx _ hL
        rw [hx] at h2
        exact (Option.some.inj h2).symm
      subst e1
      exact body k σ' H' G' cP lP eP hk T nT
    · have kl : k = xs.length := by omega
      subst kl
      exact .inl ⟨⟨_, hL, rfl⟩, q σ' H' G' cP lP eP⟩
end
end Vf
namespace PySem
end PySem
namespace Vf
open PySem PySem.Spec PyProof.Rows L2
section
variable {X : Cx}
end
end Vf
set_option Elab.async false
set_option linter.all false
set_option maxRecDepth 100000
set_option maxHeartbeats 4000000
set_option pp.maxSteps 300
namespace Vf
open PySem PySem.Spec PyProof.Rows L2
variable {W : Wd}
/-! ### rows as lists or tuples, moments -/
section
variable {Ds Es : EnvT W} {K : PySem.W.Frag} {d : Dn W} {te tl : TE} {i j m n p : Nat} {l r : List Nat}
theorem rt_Is {C : Addr} {l : List Int} (h : ∀ v ∈ l, v.natAbs < 2 ^ 64) (hl : l.length ≤ 1000) : RT K C (dIs l : Dn W) (PyData.list ((l.map V.int).map toD)).shown := rt_data (dd_Is l) ref_Lst (nice_is h) (by decide) (by omega)
end
/-! a cell that is told in part -/
section
variable {Ds : EnvT W} {te ti : TE} {tu : TS} {d : Dn W} {i : Nat}
end
end Vf
set_option Elab.async false
set_option linter.all false
set_option maxRecDepth 100000
set_option maxHeartbeats 4000000
set_option pp.maxSteps 300
namespace Vf
open PySem PySem.Spec PyProof.Rows L2
variable {W : Wd}
/-! ### steps beside cells; moments of rows -/
section
variable {Ds Es Fs : EnvT W} {cs cs1 : List (Nat × List V)} {d : Dn W} {te : TE} {t : TA} {tt : TT} {ts tu : TS} {i j : Nat} {K : PySem.W.Frag} {x y : V}
end
end Vf
set_option Elab.async false
set_option linter.all false
set_option maxRecDepth 100000
set_option maxHeartbeats 4000000
set_option pp.maxSteps 300
/-! ### `in` over a list of instances with their own == -/
namespace VQ
open PySem PySem.SeqAt
open AutoSeq1 (wpAny_loadPart')
open MeetsSeq MeetsSeq2 MeetsSeq3 SeqRoads2
section
variable {prog : Program} {w : World} {B0 : Around} {R : Result → Shared → Prop}
end
section
variable {prog : Program} {w : World} {B0 : Around} {E : Value → Shared → Prop} {s : Shared}
end
end VQ
namespace Vf
open PySem PySem.Spec PyProof.Rows L2
section
variable {X : Cx} {C : Addr} {k : Nat}
end
end Vf
set_option Elab.async false
set_option linter.all false
set_option maxRecDepth 100000
set_option maxHeartbeats 4000000
set_option pp.maxSteps 300
namespace Vf
open PySem PySem.Spec PyProof.Rows L2
variable {W : Wd}
section
variable {C : Addr} {n : Nat} {B : List Nat} {Ds Fs : EnvT W} {tl : TE} {ts : TS} {i j : Nat} {K : PySem.W.Frag}
end
/-! ### three own rooms over a half -/
section
variable {n v z o : Nat} {A X Y H : List Nat}
theorem own_con (h : OwnF n A) : bas (conB n A) = A := plain_unique (bas_plain _) h.f.pl fun v => by
  rw [con_span h.f.pl h.f.n24 h.f.lt, h.max]
structure Pr3 (n : Nat) (H X Y : List Nat) : Prop where
  oX : OwnF n X
  oY : OwnF n Y
  com : lowB n (comB n X Y) = H
  len : 2 * H.length + 2 = n
theorem Pr3.dist (h : Pr3 n H X Y) : distB n X Y = 1 := by
  have a := h.oX.len
  have b := h.len
  unfold distB
  rw [h.com]
  omega
theorem Pr3.ne (h : Pr3 n H X Y) : ¬ X = Y := fun e => by
  have d := h.dist
  have := (dist_zero h.oX h.oY).mpr e
  omega
theorem Pr3.sum (h : Pr3 n H X Y) : bas (X ++ Y) = bas (conB n H) := plain_unique (bas_plain _) (bas_plain _) fun v => by
  have := con_common h.oX.f.pl h.oY.f.pl h.oX.f.n24 h.oX.f.lt h.oY.f.lt v
  rw [h.com, own_con h.oX, own_con h.oY] at this
  exact this.symm
end
end Vf
set_option Elab.async false
set_option linter.all false
set_option maxRecDepth 100000
set_option maxHeartbeats 4000000
set_option pp.maxSteps 300
/-! ### set(l) of a list of ints -/
namespace L2
open PySem PySem.Spec PyProof.Rows
section
variable {P : Program} {w : World} {A : Around} {E : Value → Shared → Prop} {s : Shared}
end
section
variable {X : Cx}
end
end L2
set_option Elab.async false
set_option linter.all false
set_option maxRecDepth 100000
set_option maxHeartbeats 4000000
set_option pp.maxSteps 300
namespace Vf
open PySem PySem.Spec PyProof.Rows L2
variable {W : Wd}
/-! ### sorted(set(l)) -/
section
variable {Ds Es : EnvT W} {w : World} {K : PySem.W.Frag} {te tl : TE} {ta tb : TE} {ts tu : TS} {i j n : Nat} {l : List Nat} {d : Dn W} {y : V} {xs : List V}
end
/-! ### rows of contraries -/
section
variable {K : PySem.W.Frag} {C : Addr} {r d : List Nat} {n : Nat} {ws : List Nat}
end
end Vf
set_option Elab.async false
set_option linter.all false
set_option maxRecDepth 100000
set_option maxHeartbeats 4000000
set_option pp.maxSteps 300
/-! ### xs[a::b] -/
namespace L2
open PySem PySem.Spec PyProof.Rows
end L2
set_option Elab.async false
set_option linter.all false
set_option maxRecDepth 100000
set_option maxHeartbeats 400000
set_option pp.maxSteps 300
namespace Vf
open PySem PySem.Spec PyProof.Rows L2
/-! ### products of rows -/
def rc (L : List Nat) (j : Nat) : Nat := (L.filter fun v => decide (pc v = j)).length
theorem rc_cons (v : Nat) (L : List Nat) (j : Nat) : rc (v :: L) j = (if pc v = j then 1 else 0) + rc L j := by
  unfold rc
  rw [List.filter_cons]
  by_cases h : pc v = j
  · rw [if_pos (decide_eq_true h), if_pos h, List.length_cons, Nat.add_comm]
  · rw [if_neg (by simp [h]), if_neg h, Nat.zero_add]
/-! rows of led rooms, of rooms with all places -/
theorem rc_pcs {L M : List Nat} (h : (L.map pc).Perm (M.map pc)) (j : Nat) : rc L j = rc M j := by
  have e : ∀ X : List Nat, rc X j = ((X.map pc).filter fun x => decide (x = j)).length := fun X => by
    induction X with
    | nil =>
      unfold rc
      rw [List.map_nil, List.filter_nil, List.filter_nil]
    | cons v X ih =>
      rw [rc_cons, List.map_cons, List.filter_cons, ih]
      by_cases c : pc v = j
      · rw [if_pos c, if_pos (decide_eq_true c), List.length_cons, Nat.add_comm]
      · rw [if_neg c, if_neg (by simp [c]), Nat.zero_add]
  rw [e, e]
  exact (h.filter _).length_eq
/-! words of even weights alone -/
/-! _law_times -/
section
variable {A B : List Nat} {k j t : Nat}
end
section
variable {W : Wd} {A B : List Nat}
end
end Vf
set_option Elab.async false
set_option linter.all false
set_option maxRecDepth 100000
set_option maxHeartbeats 400000
set_option pp.maxSteps 300
namespace Vf
open PySem PySem.Spec PyProof.Rows L2
/-! ### one room in many ways -/
section
variable {n m w v i k : Nat} {A B L : List Nat} {f : Nat → Bool}
/-! half of the words -/
/-! weights of all words -/
/-! below a bound -/
/-! places from behind -/
/-! even ones -/
end
section
variable {W : Wd} {n v : Nat}
end
end Vf
set_option Elab.async false
set_option linter.all false
set_option maxRecDepth 100000
set_option maxHeartbeats 400000
set_option pp.maxSteps 300
/-! ### == of lists of instances with their own ==, equal or not -/
namespace VQ
open PySem PySem.SeqAt
open AutoSeq1 (wpAny_loadPart')
open MeetsSeq MeetsSeq2 MeetsSeq3 SeqRoads2
section
variable {prog : Program} {w : World} {B0 : Around} {R : Result → Shared → Prop}
end
section
variable {prog : Program} {w : World} {B0 : Around} {E : Value → Shared → Prop} {s : Shared}
end
end VQ
namespace Vf
open PySem PySem.Spec PyProof.Rows L2
section
variable {X : Cx} {C : Addr} {k : Nat}
end
section
variable {W : Wd} {C : Addr}
end
end Vf
set_option Elab.async false
set_option linter.all false
set_option maxRecDepth 100000
set_option maxHeartbeats 400000
set_option pp.maxSteps 300
/-! ### t[::-1] of a tuple -/
namespace VT
open PySem PyProof.Rows HT
section
variable {prog : Program} {w : World} {A0 : Around} {E : Value → Shared → Prop} {s : Shared}
theorem back_adjust (n : Nat) : Builtin.Slice.sliceAdjust none none (-1) (n : Int) = ((n : Int) - 1, -1) := by
  unfold Builtin.Slice.sliceAdjust
  simp
theorem back_places (n : Nat) : Builtin.Slice.slicePlaces ((n : Int) - 1) (-1) (-1) = n := by
  unfold Builtin.Slice.slicePlaces
  have z : ¬ ((-1 : Int) > 0) := by omega
  simp only [z, if_false, Int.neg_neg, Int.ediv_one]
  split <;> omega
theorem back_applied {sl : Addr} {vs : Value} {n : Nat} {Q : Int × Int × Nat → Shared → Prop} (hs : s.heap.IsSliceOf sl .none .none vs) (ps : IsPart vs (some (-1)))
    (h : Q ((n : Int) - 1, -1, n) s) : wpAny (model prog w) A0 (Builtin.Slice.sliceApplied (.ref sl) (pure (n : Int))) Q E s := by
  obtain ⟨so, ho, hc, hd⟩ := id hs
  unfold Builtin.Slice.sliceApplied Builtin.Slice.sliceFields
  refine wpAny_bind (wpAny_bind (wpAny_field ho hd (x := .none) rfl (wpAny_bind (wpAny_field ho hd (x := .none) rfl (wpAny_bind (wpAny_field ho hd (x := vs) rfl (wpAny_pure ?_)))))))
  refine wpAny_bind (slicePart_ ps ?_)
  show wpAny _ _ (if ((-1 : Int) == 0) = true then _ else _) _ _ s
  rw [if_neg (by decide)]
  refine wpAny_bind (slicePart_none (wpAny_bind (slicePart_none (wpAny_bind (wpAny_pure ?_)))))
  show wpAny _ _ (match Builtin.Slice.sliceAdjust none none (-1) (n : Int) with | (a, b) => pure (a, (-1 : Int), Builtin.Slice.slicePlaces a b (-1))) _ _ s
  rw [back_adjust]
  show wpAny _ _ (pure ((n : Int) - 1, (-1 : Int), Builtin.Slice.slicePlaces ((n : Int) - 1) (-1) (-1))) _ _ s
  rw [back_places]
  exact wpAny_pure h
theorem pick_all {α : Type} {f : Nat → Option α} {g : Nat → α} : ∀ {L : List Nat}, (∀ k ∈ L, f k = some (g k)) → L.filterMap f = L.map g
  | [], _ => rfl
  | a :: L, h => by
    have ih := pick_all (f := f) (g := g) fun k hk => h k (List.mem_cons_of_mem a hk)
    rw [List.filterMap_cons, h a (List.mem_cons_self ..), ih]
    rfl
theorem back_pick (xs : Array Value) : ((List.range xs.size).filterMap fun (k : Nat) => xs[((xs.size : Int) - 1 + (k : Int) * (-1)).toNat]?).toArray = xs.toList.reverse.toArray := by
  refine congrArg List.toArray ?_
  rw [pick_all (g := fun k => xs.toList.getD (xs.size - 1 - k) .none) fun k hk => ?_]
  · refine List.ext_getElem? fun k => ?_
    by_cases lk : k < xs.size
    · rw [List.getElem?_map, List.getElem?_range lk, List.getElem?_reverse (by rw [Array.length_toList]; exact lk), Array.length_toList]
      show some (xs.toList.getD (xs.size - 1 - k) .none) = _
      rw [List.getD_eq_getElem?_getD, List.getElem?_eq_getElem (show xs.size - 1 - k < xs.toList.length by rw [Array.length_toList]; omega)]
      rfl
    · rw [List.getElem?_eq_none (by rw [List.length_map, List.length_range]; omega), List.getElem?_eq_none (by rw [List.length_reverse, Array.length_toList]; omega)]
  · have lk := List.mem_range.mp hk
    rw [show ((xs.size : Int) - 1 + (k : Int) * (-1)).toNat = xs.size - 1 - k by omega, List.getD_eq_getElem?_getD, ← Array.getElem?_toList, List.getElem?_eq_getElem (show xs.size - 1 - k < xs.toList.length by rw [Array.length_toList]; omega)]
    rfl
theorem item_back {t sl : Addr} {vals : Array Value} {vs : Value} {Q : Value → Shared → Prop} (ht : IsTup s.heap t vals) (hs : s.heap.IsSliceOf sl .none .none vs) (ps : IsPart vs (some (-1)))
    (h : Q (.ref s.heap.objs.size) { s with heap := s.heap.push { cls := .type "tuple", data := .seq vals.toList.reverse.toArray } }) (z : vals.size ≤ sizeLine) : wpAny (model prog w) A0 (getItem (.ref t) (.ref sl)) Q E s := by
  have fit_ : sizeOk (.seq vals.toList.reverse.toArray) := by
    show vals.toList.reverse.toArray.size ≤ sizeLine
    rw [List.size_toArray, List.length_reverse, Array.length_toList]
    exact z
  obtain ⟨so, ho, hc, hd⟩ := id hs
  have isS : s.TypeIs (.ref sl) "slice" := ⟨so, ho, hc⟩
  unfold getItem
  try with_reducible refine wpAny_holding ?_
  first | refine wpAny_bind (wpAny_pure ?_) | skip
  refine wpAny_bind (wpAny_sequenceKey ht.typeIs (by decide) ?_)
  refine wpAny_bind (wpAny_callSpecial?_slot (name := Str.ofString "__getitem__") ht.typeIs PyProof.Rows.slot_tuple_getitem (wpAny_call_entry PyProof.Rows.slot_tuple_getitem ht.typeIs entry_tuple_getitem ?_ (args_tuple_getitem _ _)))
  show wpAny _ _ (Builtin.Tuple.tupleItemsOf (.ref t) >>= _) _ _ s
  refine wpAny_bind (tupleItemsOf_ ht (wpAny_bind (wpAny_typeOf isS ?_)))
  rw [if_pos (by decide)]
  refine wpAny_bind (back_applied hs ps ?_)
  have no_ : ¬ (((vals.size : Int) - 1 == 0 && (-1 : Int) == 1 && vals.size == vals.size) = true) := by
    intro q
    rw [Bool.and_eq_true, Bool.and_eq_true] at q
    exact absurd q.1.2 (by decide)
  show wpAny _ _ (if ((vals.size : Int) - 1 == 0 && (-1 : Int) == 1 && vals.size == vals.size) = true then _ else _) _ _ s
  rw [if_neg no_, back_pick]
  first
    | exact wpAny_bind (m := Builtin.Tuple.tupleExact _) (wpAny_newObj_type (wpAny_pure ⟨_, rfl, wpAny_pure h⟩) fit_)
    | exact wpAny_bind (m := Builtin.Tuple.tupleExact _) (wpAny_newObj_type (wpAny_bind (wpAny_pure (wpAny_pure ⟨_, rfl, wpAny_pure h⟩))) fit_)
    | exact wpAny_bind (wpAny_bind (m := Builtin.Tuple.tupleExact _) (wpAny_newObj_type (wpAny_pure (wpAny_pure ⟨_, rfl, wpAny_pure h⟩)) fit_))
    | exact wpAny_bind (wpAny_bind (m := Builtin.Tuple.tupleExact _) (wpAny_newObj_type (wpAny_pure ⟨_, rfl, wpAny_pure h⟩) fit_))
end
end VT
namespace L2
open PySem PySem.Spec PyProof.Rows
def tRevT (K : PySem.W.Frag) (te : TE) : TE := fun σ H Q => te σ H fun x H1 => ∃ t xs, x = .ref t ∧ SqT K H1 t xs ∧ ∀ p, H1 p = none → Q (.ref p) (upd H1 p (.tup xs.reverse))
theorem pe_revT {X : Cx} {e : Expr} {te : TE} {kk : Nat} {q1 q2 q3 pos : Pos} (he : PE X e te) : PE X (.Subscript e (.Slice none none (some (.UnaryOp .USub (.Constant (.int 1) kk q1) q2)) q3) pos) (tRevT X.K te) := by
  refine ⟨fun pins st σ H Q inv h => ?_⟩
  refine Subscript_ (thn (he.run pins st σ H _ inv h) fun va st1 ⟨x, H1, I1, rx, qx⟩ => ?_)
  obtain ⟨t, xs, rfl, hx, q⟩ := qx
  cases rx
  have minus_ : PO X (some (.UnaryOp .USub (.Constant (.int 1) kk q1) q2)) (tPart (tUn (rU fun i => .int (-i)) (tC (.int 1)))) := po_some (pe_un un_neg pe_int)
  refine wpAny_Slice (thn (po_none.run pins st1 σ H1 (fun o H2 => o = none ∧ H2 = H1) I1 ⟨rfl, rfl⟩) fun vl st2 ⟨o1, H2, I2, pl, eo1, e2⟩ => ?_)
  subst eo1 e2
  refine thn (po_none.run pins st2 σ H2 (fun o H3 => o = none ∧ H3 = H2) I2 ⟨rfl, rfl⟩) fun vu st3 ⟨o2, H3, I3, pu, eo2, e3⟩ => ?_
  subst eo2 e3
  refine thn (minus_.run pins st3 σ H3 (fun o H4 => o = some (-1) ∧ H4 = H3) I3 ⟨1, rfl, -1, rfl, rfl, rfl⟩) fun vs st4 ⟨o3, H4, I4, ps, eo3, e4⟩ => ?_
  subst eo3 e4
  have I5 : Inv X pins σ H4 { st4 with heap := st4.heap.push { cls := .type "slice", data := .fields #[vl, vu, vs] } } := I4.kept (t' := st4.toks) fun _ _ q => Heap.get?_push_of_some _ q
  obtain ⟨its, r, ist, lim⟩ := I5.tuple hx
  have len_ := r.length
  cases pl
  cases pu
  show wpAny (model X.prog X.w) X.A (subscriptTail e _ (.ref t) (.ref st4.heap.objs.size)) (EP X pins σ Q) X.xe _
  refine tail_any (ops := [.ref t, .ref st4.heap.objs.size]) ist.typeIs (PyProof.Rows.slot_tuple_getitem.lookup) ?_ (by with_unfolding_all rfl)
  refine VT.item_back ist (Heap.IsSliceOf.new _ _ _ vs) ps ?_ (by rw [List.size_toArray]; omega)
  refine ⟨.ref _, _, I5.laid (t' := st4.toks) (o := .tup xs.reverse) (fun _ _ q => Heap.get?_push_of_some _ q) (Nat.le_refl _) ?_, rfl, q _ (I5.hok.fresh (Nat.le_refl _))⟩
  refine ⟨by rw [List.length_reverse]; exact lim, _, r.reverse, ?_⟩
  first
    | exact IsTup.new _ _
    | (rw [← List.toArray_reverse]; exact IsTup.new _ _)
    | (have z := IsTup.new (st4.heap.push { cls := .type "slice", data := .fields #[Value.none, Value.none, vs] }) its.reverse.toArray; simpa using z)
end L2
namespace L2
open PySem PySem.Spec PyProof.Rows
/-! a test that is one of two tests -/
end L2
namespace Vf
open PySem PySem.Spec PyProof.Rows L2
end Vf
set_option Elab.async false
set_option linter.all false
set_option maxRecDepth 100000
set_option maxHeartbeats 400000
set_option pp.maxSteps 300
namespace Vf
open PySem PySem.Spec PyProof.Rows L2
variable {W : Wd}
section
variable {Ds E : EnvT W} {ta : TA} {ts tu : TS} {te tl : TE} {tt : TT} {i j c N : Nat} {l : List Nat} {d : Dn W} {K : PySem.W.Frag}
/-! ### for .. in enumerate with a return -/
/-! ### [.. for a, b in pairs if ..] -/
end
end Vf
set_option Elab.async false
set_option linter.all false
set_option maxRecDepth 100000
set_option maxHeartbeats 400000
set_option pp.maxSteps 300
/-! ### any(xs) of a list of numbers -/
namespace L2
open PySem PySem.Spec PyProof.Rows
end L2
namespace Vf
open PySem PySem.Spec PyProof.Rows L2
variable {W : Wd}
/-! ### a number or None -/
section
variable {Ds : EnvT W} {te ta tb : TE} {i j k m n : Nat} {l : List Nat} {o : Option Nat} {K : PySem.W.Frag} {C : Addr}
end
/-! ### the least weight of a row -/
/-! ### sums of few basis words -/
end Vf
set_option Elab.async false
set_option linter.all false
set_option maxRecDepth 100000
set_option maxHeartbeats 400000
set_option pp.maxSteps 300
namespace Vf
open PySem PySem.Spec PyProof.Rows L2
variable {W : Wd}
/-! ### words of the least weight -/
section
variable {n m k : Nat} {A B L ws : List Nat} {o : Option Nat}
theorem SpanN.bas (h : SpanN ws L) : SpanN (bas ws) L := ⟨fun v => by rw [h.1, bas_span], h.2⟩
/-! two rooms beside one another -/
end
section
variable {n m : Nat} {B l ws : List Nat} {C : Addr} {Ds : EnvT W} {t : TA} {te : TE} {x y : V} {K : PySem.W.Frag} {o : Option Nat}
end
end Vf
set_option Elab.async false
set_option linter.all false
set_option maxRecDepth 100000
set_option maxHeartbeats 400000
set_option pp.maxSteps 300
namespace Vf
open PySem PySem.Spec PyProof.Rows L2
variable {W : Wd}
section
variable {Ds : EnvT W} {te : TE} {K : PySem.W.Frag} {l : List Nat} {n a k x : Nat} {p : Addr}
end
end Vf
set_option Elab.async false
set_option linter.all false
set_option maxRecDepth 100000
set_option maxHeartbeats 400000
set_option pp.maxSteps 300
namespace Vf
open PySem PySem.Spec PyProof.Rows L2
variable {W : Wd}
/-! ### words whose weights 4 does not divide -/
def uneven (v : Nat) : Bool := decide (pc v % 4 > 0)
section
variable {n m a b v w : Nat} {A B L : List Nat} {C : Addr}
theorem uneven_iff (v : Nat) : uneven v = true ↔ pc v % 4 > 0 := decide_eq_true_iff
theorem uneven_no (v : Nat) : uneven v = false ↔ pc v % 4 = 0 := by
  unfold uneven
  rw [decide_eq_false_iff_not]
  omega
theorem par_no : par a b = false ↔ pc (a &&& b) % 2 = 0 := by
  unfold par
  rw [decide_eq_false_iff_not]
  omega
theorem uneven_xor (ha : par a a = false) (hb : par b b = false) (hab : par a b = false) : uneven (a ^^^ b) = (uneven a ^^ uneven b) := by
  have h1 := par_no.mp ha
  have h2 := par_no.mp hb
  have h3 := par_no.mp hab
  rw [Nat.and_self] at h1 h2
  have t := pc_two a b
  by_cases x : pc a % 4 > 0 <;> by_cases y : pc b % 4 > 0
  · rw [(uneven_iff a).mpr x, (uneven_iff b).mpr y]
    exact (uneven_no _).mpr (by omega)
  · rw [(uneven_iff a).mpr x, (uneven_no b).mpr (by omega)]
    exact (uneven_iff _).mpr (by omega)
  · rw [(uneven_no a).mpr (by omega), (uneven_iff b).mpr y]
    exact (uneven_iff _).mpr (by omega)
  · rw [(uneven_no a).mpr (by omega), (uneven_no b).mpr (by omega)]
    exact (uneven_no _).mpr (by omega)
theorem uneven_zero : uneven 0 = false := (uneven_no 0).mpr (by rw [pc_zero])
theorem st_two (st : stillB B = true) : ∀ a, span B a → ∀ b, span B b → uneven (a ^^^ b) = (uneven a ^^ uneven b) := fun a ha b hb =>
  uneven_xor (still_span.mp st a ha a ha) (still_span.mp st b hb b hb) (still_span.mp st a ha b hb)
/-! the half of a still room -/
/-! promises -/
/-! this law's weight of a word, by a table -/
end
end Vf
set_option Elab.async false
set_option linter.all false
set_option maxRecDepth 100000
set_option maxHeartbeats 400000
set_option pp.maxSteps 300
namespace Vf
open PySem PySem.Spec PyProof.Rows L2
variable {W : Wd}
/-! ### told own rooms, out of a dict -/
def kindL : Nat → List Nat
  | 2 => [3]
  | 8 => [15, 51, 85, 255]
  | 12 => [15, 60, 240, 960, 3840, 1365]
  | 14 => [15, 51, 85, 1920, 6528, 10880, 16383]
  | 16 => [15, 60, 240, 960, 3840, 15360, 61440, 21845]
  | _ => []
/-! kinds beside one another -/
def kindsL : List (List Nat) := [[8], [2, 2, 2], [8, 2], [12], [14], [2, 2, 8], [16], [2, 12], [2], [2, 2, 2, 2]]
def mkB (ks : List Nat) : List Nat × Nat := ks.foldl (fun s k => (s.1 ++ (kindL k).map (fun w => w * 2 ^ s.2), s.2 + k)) ([], 0)
def ckKs (ks : List Nat) : Bool :=
  let r := mkB ks
  decide (r.2 = ks.sum) && decide (1 ≤ r.2) && decide (r.2 ≤ 16) && decide (r.1.length ≤ 8) && r.1.all (fun w => decide (w < 2 ^ r.2)) && r.1.all (fun a => r.1.all fun b => !par a b)
structure KsP (ks : List Nat) : Prop where
  sum : (mkB ks).2 = ks.sum
  n1 : 1 ≤ ks.sum
  n16 : ks.sum ≤ 16
  l8 : (mkB ks).1.length ≤ 8
  lt : ∀ w ∈ (mkB ks).1, w < 2 ^ ks.sum
  st : ∀ a ∈ (mkB ks).1, ∀ b ∈ (mkB ks).1, par a b = false
/-! led by a sequence that grows -/
section
variable {B f : List Nat} {x j w : Nat}
end
end Vf
set_option Elab.async false
set_option linter.all false
set_option maxRecDepth 100000
set_option maxHeartbeats 400000
set_option pp.maxSteps 300
namespace Vf
open PySem PySem.Spec PyProof.Rows L2
variable {W : Wd}
section
variable {Ds Es Fs : EnvT W} {cs : List (Nat × List V)} {te tl : TE} {ta : TA} {ts tu : TS} {i j a b : Nat} {xs : List V} {l : List Nat} {d : Dn W} {K : PySem.W.Frag} {P : List (Nat × List V) → Prop}
end
/-! spans of mixed lists -/
section
variable {l ws : List Nat} {k x : Nat}
end
section
variable {p : Addr} {n : Nat} {ws : List Nat} {us : List UD}
end
section
variable {Ds : EnvT W} {cs : List (Nat × List V)} {t : TA} {ts tu : TS} {i j : Nat} {xs : List V} {d : Dn W} {K : PySem.W.Frag} {C : Addr}
end
theorem SpanN.len8 {ws L : List Nat} (h : SpanN ws L) (k : ws.length ≤ 8) : L.length ≤ 256 := by
  rw [h.lenB]
  exact Nat.pow_le_pow_right (n := 2) (j := 8) (by decide) (Nat.le_trans (bas_len ws) k)
end Vf
set_option Elab.async false
set_option linter.all false
set_option maxRecDepth 100000
set_option maxHeartbeats 400000
set_option pp.maxSteps 300
namespace Vf
open PySem PySem.Spec PyProof.Rows L2
variable {W : Wd}
/-! kinds of all laws -/
def kindsA : List (List Nat) := kindsL ++ [[8, 2, 2], [8, 8], [2, 8], [2, 2], [2, 2, 2, 8], [12, 2], [14, 2], [2, 14]]
theorem ckKs_allA : kindsA.all ckKs = true := by decide +kernel
theorem ks_PA {ks : List Nat} (h : ks ∈ kindsA) : KsP ks := by
  have c := List.all_eq_true.mp ckKs_allA ks h
  unfold ckKs at c
  simp only [Bool.and_eq_true, decide_eq_true_eq, List.all_eq_true, Bool.not_eq_true'] at c
  obtain ⟨⟨⟨⟨⟨a, b⟩, c1⟩, d⟩, e⟩, f⟩ := c
  exact ⟨a, by omega, by omega, d, fun w hw => by rw [← a]; exact e w hw, f⟩
section
variable {p : Addr} {ws : List Nat}
end
/-! why a room is not by fours, any room -/
section
variable {n m a b v w : Nat} {A B L : List Nat} {C : Addr}
end
/-! a cell of its own within a loop's body -/
section
variable {Ds Es : EnvT W} {cs : List (Nat × List V)} {ta tb te tl : TE} {ts tu : TS} {i j k : Nat} {xs : List V} {d1 : Dn W} {K : PySem.W.Frag} {P : List (Nat × List V) → Prop} {l : List Nat}
end
/-! words by distinct places -/
section
variable {p : Addr} {n : Nat}
end
/-! all([right(pot(script, k)) for k in range(..)]) -/
section
variable {K : PySem.W.Frag} {Ds : EnvT plainW} {i j k : Nat} {ns : List Int} {t : TA}
end
end Vf
set_option Elab.async false
set_option linter.all false
set_option maxRecDepth 100000
set_option maxHeartbeats 400000
set_option pp.maxSteps 300
namespace Vf
open PySem PySem.Spec PyProof.Rows L2
variable {W : Wd}
section
variable {ι κ : Type} {E : ι → EnvT W} {Ds Es : EnvT W} {cs : List (Nat × List V)} {te : TE} {ta : TA} {ts tu : TS} {i j w : Nat} {xs : List V} {K : PySem.W.Frag} {sp : Sp} {g : Nat → Nat} {P : List (Nat × List V) → Prop} {l : List Nat}
end
end Vf
set_option Elab.async false
set_option linter.all false
set_option maxRecDepth 100000
set_option maxHeartbeats 400000
set_option pp.maxSteps 300
namespace Vf
open PySem PySem.Spec PyProof.Rows L2
variable {W : Wd}
/-! ### shadow words of a still room -/
section
variable {n m a b v w : Nat} {A B L ws : List Nat} {C : Addr}
def isSh (B : List Nat) (v : Nat) : Bool := B.all fun b => par b v == uneven b
theorem isSh_iff : isSh B v = true ↔ ∀ b ∈ B, par b v = uneven b := by
  unfold isSh
  rw [List.all_eq_true]
  exact ⟨fun h b hb => eq_of_beq (h b hb), fun h b hb => beq_iff_eq.mpr (h b hb)⟩
theorem sh_span (st : stillB B = true) : isSh B v = true ↔ ∀ w, span B w → par w v = uneven w := by
  rw [isSh_iff]
  refine ⟨fun h w hw => ?_, fun h b hb => h b (span_mem hb)⟩
  exact (hw (fun w => span B w ∧ par w v = uneven w) ⟨⟨span_zero _, by rw [par_zero, uneven_zero]⟩, fun a b ha hb => ⟨span_xor ha.1 hb.1, by rw [par_xor, st_two st a ha.1 b hb.1, ha.2, hb.2]⟩⟩ fun w hw => ⟨span_mem hw, h w hw⟩).2
/-- the told shadow word -/
def shdW (B : List Nat) : Nat := ((B.filter uneven).map fun b => 2 ^ b.log2).sum
def gU : List Nat → Nat
  | [] => 0
  | b :: B => pw (uneven b) (2 ^ b.log2) ^^^ gU B
theorem par_gU (pl : Plain B) (lt : ∀ b ∈ B, b < 2 ^ 24) {c : Nat} (hc : c ∈ B) : ∀ B' : List Nat, B'.Nodup → (∀ b ∈ B', b ∈ B) → par (gU B') c = (decide (c ∈ B') && uneven c)
  | [], _, _ => by
    show par 0 c = _
    rw [par_zero]
    simp
  | b :: B', nd, sub => by
    obtain ⟨n1, n2⟩ := List.nodup_cons.mp nd
    have hb := sub b List.mem_cons_self
    have lb := log_lt (pl.1.2 b hb) (lt b hb)
    show par (pw _ _ ^^^ gU B') c = _
    rw [par_xor, par_pw, par_pow lb, par_gU pl lt hc B' n2 fun x hx => sub x (List.mem_cons_of_mem _ hx)]
    by_cases e : b = c
    · subst e
      rw [top_bit (pl.1.2 b hb)]
      simp [n1]
    · rw [piv_off pl.1 hb hc e]
      have e2 : ¬ c = b := fun z => e z.symm
      simp [e2]
theorem gU_lt : ∀ {B : List Nat}, (∀ b ∈ B, b ≠ 0 ∧ b < 2 ^ n) → gU B < 2 ^ n
  | [], _ => Nat.two_pow_pos n
  | b :: B, h => by
    refine Nat.xor_lt_two_pow ?_ (gU_lt fun c hc => h c (List.mem_cons_of_mem _ hc))
    obtain ⟨b0, bl⟩ := h b List.mem_cons_self
    unfold pw
    split
    · exact Nat.pow_lt_pow_right (by decide) (log_lt b0 bl)
    · exact Nat.two_pow_pos n
theorem sum_xor {l : List Nat} (h : (a :: l).Nodup) : 2 ^ a + (l.map (2 ^ ·)).sum = 2 ^ a ^^^ (l.map (2 ^ ·)).sum := by
  refine Nat.eq_of_testBit_eq fun j => ?_
  have z : (2 ^ a + (l.map (2 ^ ·)).sum).testBit j = _ := sumPow_bit h j
  rw [z, Nat.testBit_xor, sumPow_bit (List.nodup_cons.mp h).2, Nat.testBit_two_pow]
  by_cases e : a = j
  · subst e
    simp [(List.nodup_cons.mp h).1]
  · have e2 : ¬ j = a := fun z => e z.symm
    simp [e, e2]
theorem gU_sum (pl : Plain B) : ∀ B' : List Nat, B'.Nodup → (∀ b ∈ B', b ∈ B) → ((B'.filter uneven).map fun b => b.log2).Nodup ∧ (((B'.filter uneven).map fun b => b.log2).map (2 ^ ·)).sum = gU B'
  | [], _, _ => ⟨.nil, rfl⟩
  | b :: B', nd, sub => by
    obtain ⟨n1, n2⟩ := List.nodup_cons.mp nd
    have hb := sub b List.mem_cons_self
    obtain ⟨i1, i2⟩ := gU_sum pl B' n2 fun x hx => sub x (List.mem_cons_of_mem _ hx)
    show _ ∧ _ = pw (uneven b) (2 ^ b.log2) ^^^ gU B'
    cases u : uneven b with
    | false =>
      rw [List.filter_cons_of_neg (by rw [u]; decide)]
      refine ⟨i1, ?_⟩
      rw [i2]
      show _ = 0 ^^^ _
      rw [Nat.zero_xor]
    | true =>
      rw [List.filter_cons_of_pos u]
      have nd2 : (b.log2 :: (B'.filter uneven).map fun b => b.log2).Nodup := by
        refine List.nodup_cons.mpr ⟨fun h => ?_, i1⟩
        obtain ⟨c, hc, e⟩ := List.mem_map.mp h
        have hc' := (List.mem_filter.mp hc).1
        have ne : b ≠ c := fun z => n1 (z ▸ hc')
        have o := piv_off pl.1 hb (sub c (List.mem_cons_of_mem _ hc')) ne
        have t := top_bit (pl.1.2 c (sub c (List.mem_cons_of_mem _ hc')))
        have e : c.log2 = b.log2 := e
        rw [e] at t
        rw [o] at t
        cases t
      refine ⟨nd2, ?_⟩
      show 2 ^ b.log2 + _ = 2 ^ b.log2 ^^^ _
      rw [← i2]
      exact sum_xor nd2
theorem shdW_eq (pl : Plain B) : shdW B = gU B := by
  rw [← (gU_sum pl B (piv_nodup pl.1) fun _ h => h).2, List.map_map]
  rfl
theorem shd_sh (pl : Plain B) (lt : ∀ b ∈ B, b < 2 ^ 24) : isSh B (shdW B) = true := by
  rw [isSh_iff, shdW_eq pl]
  intro b hb
  rw [par_comm, par_gU pl lt hb B (piv_nodup pl.1) fun _ h => h]
  simp [hb]
theorem shd_lt (pl : Plain B) (lt : ∀ b ∈ B, b < 2 ^ n) : shdW B < 2 ^ n := by
  rw [shdW_eq pl]
  exact gU_lt fun b hb => ⟨pl.1.2 b hb, lt b hb⟩
/-- the shadow words are the words of the contrary, each with the told one -/
theorem sh_con (pl : Plain B) (n24 : n ≤ 24) (lt : ∀ b ∈ B, b < 2 ^ n) (h1 : a < 2 ^ n) (h : isSh B a = true) (v : Nat) : (v < 2 ^ n ∧ isSh B v = true) ↔ span (bas (conB n B)) (a ^^^ v) := by
  rw [con_span pl n24 lt, isSh_iff]
  have key := isSh_iff.mp h
  constructor
  · rintro ⟨h2, h3⟩
    refine ⟨Nat.xor_lt_two_pow h1 h2, fun b hb => ?_⟩
    rw [par_xor, par_comm a, par_comm v, key b hb, h3 b hb, Bool.xor_self]
  · rintro ⟨h2, h3⟩
    refine ⟨?_, fun b hb => ?_⟩
    · have := Nat.xor_lt_two_pow h1 h2
      rwa [← Nat.xor_assoc, Nat.xor_self, Nat.zero_xor] at this
    · have := h3 b hb
      rw [par_xor, par_comm a, par_comm v, key b hb] at this
      cases hu : uneven b <;> cases hp : par b v <;> rw [hu, hp] at this <;> first | rfl | cases this
/-! promises -/
end
section
variable {Ds Es Fs : EnvT W} {cs : List (Nat × List V)} {te : TE} {tt : TT} {ts tu : TS} {i : Nat} {P : List (Nat × List V) → Prop}
end
end Vf
namespace Vf
end Vf
set_option Elab.async false
set_option linter.all false
set_option maxRecDepth 100000
set_option maxHeartbeats 400000
set_option pp.maxSteps 300
namespace Vf
open PySem PySem.Spec PyProof.Rows L2
variable {W : Wd}
/-! ### kinds are own rooms -/
def dstL : List Nat → Bool
  | [] => true
  | x :: l => l.all (fun y => !(Nat.beq x y)) && dstL l
theorem dst_all : kindsA.all (fun ks => dstL (spanU (mkB ks).1)) = true := by decide +kernel
theorem dst_nd : ∀ {l : List Nat}, dstL l = true → l.Nodup
  | [], _ => .nil
  | x :: l, h => by
    have h : (l.all (fun y => !(Nat.beq x y)) && dstL l) = true := h
    rw [Bool.and_eq_true, List.all_eq_true] at h
    refine List.nodup_cons.mpr ⟨fun hx => ?_, dst_nd h.2⟩
    have := h.1 x hx
    rw [Nat.beq_refl] at this
    cases this
theorem half_all : ∀ ks ∈ kindsA, 2 * (mkB ks).1.length = ks.sum := by decide +kernel
theorem spanU_in : ∀ {ws : List Nat} {v : Nat}, v ∈ spanU ws → span ws v := by
  intro ws
  have : ∀ (ws f : List Nat) (v : Nat), v ∈ ws.foldl (fun f w => f ++ f.map (· ^^^ w)) f → ∃ a b, a ∈ f ∧ span ws b ∧ v = a ^^^ b := by
    intro ws
    induction ws with
    | nil => exact fun f v h => ⟨v, 0, h, span_zero _, (Nat.xor_zero v).symm⟩
    | cons w ws ih =>
      intro f v h
      obtain ⟨a, b, ha, hb, e⟩ := ih _ v h
      have up : ∀ {u}, span ws u → span (w :: ws) u := fun h => span_sub (fun x hx => span_mem (List.mem_cons_of_mem _ hx)) h
      rcases List.mem_append.mp ha with k | k
      · exact ⟨a, b, k, up hb, e⟩
      · obtain ⟨c, hc, rfl⟩ := List.mem_map.mp k
        exact ⟨c, w ^^^ b, hc, span_xor (span_mem List.mem_cons_self) (up hb), by rw [e, Nat.xor_assoc]⟩
  intro v h
  obtain ⟨a, b, ha, hb, e⟩ := this ws [0] v h
  rw [List.mem_singleton.mp ha, Nat.zero_xor] at e
  rw [e]
  exact hb
theorem bas_free {ws : List Nat} (h : (spanU ws).Nodup) : (bas ws).length = ws.length := by
  have ok := words_ok (bas_plain ws)
  have le : (spanU ws).length ≤ (wordsOf (bas ws)).length := List.Nodup.length_le_of_subset h (fun v hv => (ok.1 v).mpr ((bas_span ws v).mpr (spanU_in hv)))
  rw [spanU_len, ok.2.2] at le
  have := (Nat.pow_le_pow_iff_right (show 1 < 2 by decide)).mp le
  have := bas_len ws
  omega
theorem ks_own {ks : List Nat} (h : ks ∈ kindsA) : 2 * (bas (mkB ks).1).length = ks.sum := by
  rw [bas_free (dst_nd (List.all_eq_true.mp dst_all ks h))]
  exact half_all ks h
structure OwnM (ks l : List Nat) : Prop where
  len : l.length ≤ 8
  pos : 0 < l.length
  lt : ∀ v ∈ l, v < 2 ^ ks.sum
  st : ∀ a ∈ l, ∀ b ∈ l, par a b = false
  half : 2 * (bas l).length = ks.sum
section
variable {p : Addr} {ws : List Nat}
end
theorem OwnM.own {ks l : List Nat} (h : OwnM ks l) (n1 : 1 ≤ ks.sum) (n24 : ks.sum ≤ 24) : OwnF ks.sum (bas l) :=
  own_mk ⟨bas_plain l, n1, n24, bas_lt h.lt⟩ (still_iff.mp (still_span.mpr fun a ha b hb => still_span.mp (still_iff.mpr h.st) a ((bas_span l a).mp ha) b ((bas_span l b).mp hb))) h.half
end Vf
set_option Elab.async false
set_option linter.all false
set_option maxRecDepth 100000
set_option maxHeartbeats 400000
set_option pp.maxSteps 300
namespace Vf
open PySem PySem.Spec PyProof.Rows L2
variable {W : Wd}
/-! ### shadows of own rooms, beside one another, led -/
section
variable {n m a b v w j : Nat} {A B L M X ws s : List Nat} {C : Addr}
noncomputable def shT (B : List Nat) : List Nat := (wordsOf B).map fun w => w ^^^ shdW B
theorem xor_canc2 (s v : Nat) : (v ^^^ s) ^^^ s = v := by rw [Nat.xor_assoc, Nat.xor_self, Nat.xor_zero]
theorem shT_ok (h : OwnF n B) : (∀ v, v ∈ shT B ↔ v < 2 ^ n ∧ isSh B v = true) ∧ (shT B).Nodup := by
  have n24 := h.f.n24
  have l24 : ∀ b ∈ B, b < 2 ^ 24 := fun b hb => lt24 n24 (h.f.lt b hb)
  have ok := words_ok h.f.pl
  have sc := sh_con h.f.pl n24 h.f.lt (shd_lt h.f.pl h.f.lt) (shd_sh h.f.pl l24)
  rw [own_con h] at sc
  unfold shT
  generalize shdW B = s at sc
  refine ⟨fun v => ?_, map_nd (fun a _ b _ e => ?_) ok.2.1⟩
  · rw [sc v, List.mem_map]
    constructor
    · rintro ⟨w, hw, rfl⟩
      rw [Nat.xor_comm w s, ← Nat.xor_assoc, Nat.xor_self, Nat.zero_xor]
      exact (ok.1 w).mp hw
    · exact fun hv => ⟨s ^^^ v, (ok.1 _).mpr hv, by rw [Nat.xor_comm s v, xor_canc2]⟩
  · have := congrArg (· ^^^ s) e
    simpa [xor_canc2] using this
theorem shT_lt (h : OwnF n B) : ∀ v ∈ shT B, v < 2 ^ n := fun v hv => (((shT_ok h).1 v).mp hv).1
noncomputable def shR (n : Nat) (B : List Nat) : List Nat := rowP pc n (shT B)
theorem shR_rc (n : Nat) (B : List Nat) : shR n B = (List.range (n + 1)).map (rc (shT B)) := rfl
theorem sh_gen (st : stillB (bas X) = true) : isSh (bas X) v = true ↔ ∀ b ∈ X, par b v = uneven b := by
  rw [sh_span st]
  refine ⟨fun h b hb => h b ((bas_span X b).mpr (span_mem hb)), fun h w hw => ?_⟩
  exact ((bas_span X w).mp hw (fun w => span (bas X) w ∧ par w v = uneven w) ⟨⟨span_zero _, by rw [par_zero, uneven_zero]⟩, fun a b ha hb => ⟨span_xor ha.1 hb.1, by rw [par_xor, st_two st a ha.1 b hb.1, ha.2, hb.2]⟩⟩ fun w hw => ⟨(bas_span X w).mpr (span_mem hw), h w hw⟩).2
theorem OwnF.st (h : OwnF n B) : stillB B = true := still_span.mpr h.still
theorem uneven_pc (h : pc a = pc b) : uneven a = uneven b := by
  unfold uneven
  rw [h]
theorem rc_perm (h : L.Perm M) (j : Nat) : rc L j = rc M j := (h.filter _).length_eq
/-! led -/
theorem sh_ex (hs : Seq n s) (h : OwnF n B) (hv : v < 2 ^ n) : isSh (bas (exB B s)) (ledN s v) = isSh B v := by
  have own := own_ex hs h
  rw [Bool.eq_iff_iff, sh_gen own.st, isSh_iff]
  have e1 : ∀ b ∈ B, par (ledN s b) (ledN s v) = par b v := fun b hb => led_par hs h.f.n24 (h.f.lt b hb)
  have e2 : ∀ b ∈ B, uneven (ledN s b) = uneven b := fun b hb => uneven_pc (ledN_pc hs h.f.n24 (h.f.lt b hb))
  constructor
  · intro k b hb
    rw [← e1 b hb, ← e2 b hb]
    exact k _ (List.mem_map_of_mem hb)
  · intro k c hc
    obtain ⟨b, hb, rfl⟩ := List.mem_map.mp hc
    rw [e1 b hb, e2 b hb]
    exact k b hb
theorem shT_ex (hs : Seq n s) (h : OwnF n B) : (shT (bas (exB B s))).Perm ((shT B).map (ledN s)) := by
  have own := own_ex hs h
  have n24 := h.f.n24
  have l24 : ∀ b ∈ B, b < 2 ^ 24 := fun b hb => lt24 n24 (h.f.lt b hb)
  have lin := ledN_lin hs.nd
  have s1 := shd_lt h.f.pl h.f.lt
  have s2 := shd_sh h.f.pl l24
  have oB := shT_ok h
  refine (List.perm_ext_iff_of_nodup (shT_ok own).2 (map_nd (fun a ha b hb e => ledN_inj hs (shT_lt h a ha) (shT_lt h b hb) e) oB.2)).mpr fun v => ?_
  rw [(shT_ok own).1, List.mem_map]
  constructor
  · rintro ⟨h1, h2⟩
    have sc := (sh_con own.f.pl n24 own.f.lt (ledN_lt hs (shdW B)) (by rw [sh_ex hs h s1]; exact s2) v).mp ⟨h1, h2⟩
    rw [own_con own, exB_span hs] at sc
    obtain ⟨a, ha, e⟩ := sc
    have la := span_lt h.f.lt ha
    refine ⟨shdW B ^^^ a, (oB.1 _).mpr ((sh_con h.f.pl n24 h.f.lt s1 s2 _).mpr ?_), ?_⟩
    · rw [own_con h, ← Nat.xor_assoc, Nat.xor_self, Nat.zero_xor]
      exact ha
    · rw [lin, ← e, ← Nat.xor_assoc, Nat.xor_self, Nat.zero_xor]
  · rintro ⟨u, hu, rfl⟩
    obtain ⟨u1, u2⟩ := (oB.1 u).mp hu
    exact ⟨ledN_lt hs u, by rw [sh_ex hs h u1]; exact u2⟩
theorem shR_ex (hs : Seq n s) (h : OwnF n B) : shR n (bas (exB B s)) = shR n B := by
  rw [shR_rc, shR_rc]
  refine List.map_congr_left fun j _ => ?_
  rw [rc_perm (shT_ex hs h)]
  refine rc_pcs ?_ j
  rw [List.map_map]
  exact List.Perm.of_eq (List.map_congr_left fun v hv => ledN_pc hs h.f.n24 (shT_lt h v hv))
/-! by fours -/
end
end Vf
set_option Elab.async false
set_option linter.all false
set_option maxRecDepth 100000
set_option maxHeartbeats 400000
set_option pp.maxSteps 300
namespace Vf
open PySem PySem.Spec PyProof.Rows L2
variable {W : Wd}
section
variable {Ds : EnvT W} {te ti : TE} {tt : TT} {i m j : Nat} {l : List Nat} {d : Dn W} {ds : List (Dn W)} {K : PySem.W.Frag} {k : Nat}
end
/-! ### how many fill-ups by fours -/
section
variable {n m a b v w : Nat} {A B s : List Nat} {C : Addr}
end
end Vf
set_option Elab.async false
set_option linter.all false
set_option maxRecDepth 100000
set_option maxHeartbeats 400000
set_option pp.maxSteps 300
namespace Vf
open PySem PySem.Spec PyProof.Rows L2
variable {W : Wd}
section
variable {Ds : EnvT W} {te : TE} {tt : TT} {i : Nat}
end
section
variable {n m a b v w : Nat} {A B s : List Nat}
end
end Vf
set_option Elab.async false
set_option linter.all false
set_option maxRecDepth 100000
set_option maxHeartbeats 400000
set_option pp.maxSteps 300
namespace Vf
open PySem PySem.Spec PyProof.Rows L2
variable {W : Wd}
/-! ### values of any kind -/
section
variable {Ds : EnvT W} {te : TE} {d : Dn W} {K : PySem.W.Frag} {C : Addr} {n : Nat} {B : List Nat} {xs : List V} {ds : List (Dn W)}
end
/-! promises of any value -/
section
variable {K : PySem.W.Frag}
end
section
variable {n : Nat} {B L : List Nat} {C : Addr} {K : PySem.W.Frag} {i : Int}
end
/-! ### statements -/
section
variable {Ds Fs : EnvT W} {te tl : TE} {t : TA} {tt : TT} {ts tu : TS} {i : Nat} {d : Dn W} {ds : List (Dn W)} {K : PySem.W.Frag}
end
section
variable {Ds : EnvT W} {ta tb tc : TE} {d1 d2 : Dn W} {r r' : R2} {K : PySem.W.Frag} {a b : Int}
theorem od_ltI : OpD (W := W) (rI0 fun i j => .bl (decide (i < j))) (dI a) (dI b) (dB (decide (a < b))) := fun u v H Q iv e1 e2 k => ⟨a, b, e1, e2, k _ H (W.refl H) rfl⟩
end
theorem vs_ints (l : List Nat) : vs l = (l.map (fun n : Nat => (n : Int))).map V.int := by
  unfold vs
  rw [List.map_map]
  rfl
end Vf
set_option Elab.async false
set_option linter.all false
set_option maxRecDepth 100000
set_option maxHeartbeats 400000
set_option pp.maxSteps 300
namespace Vf
open PySem PySem.Spec PyProof.Rows L2
variable {W : Wd}
/-! ### dicts of numbers -/
/-- told weights of a shadow, kind by kind -/
def shdK : Nat → List (Nat × Nat)
  | 2 => [(1, 2)]
  | 8 => [(0, 1), (4, 14), (8, 1)]
  | 12 => [(2, 6), (6, 52), (10, 6)]
  | 14 => [(3, 14), (7, 100), (11, 14)]
  | 16 => [(0, 1), (4, 28), (8, 198), (12, 28), (16, 1)]
  | _ => []
/-! ### for k in a dict -/
def inn (at_ num : Nat) : List Nat → List (Nat × Nat) → List Nat
  | L, [] => L
  | L, p :: ps => inn at_ num (L.set (at_ + p.1) (L.getD (at_ + p.1) 0 + num * p.2)) ps
section
variable {Ds : EnvT W} {K : PySem.W.Frag} {i j m x y : Nat} {ps : List (Nat × Nat)} {a num : Nat} {L : List Nat}
end
end Vf
set_option Elab.async false
set_option linter.all false
set_option maxRecDepth 100000
set_option maxHeartbeats 400000
set_option pp.maxSteps 300
namespace Vf
open PySem PySem.Spec PyProof.Rows L2
variable {W : Wd}
/-! ### told rows of shadows, kinds beside one another -/
def outL (kv : List (Nat × Nat)) : Nat → List Nat → List Nat → List Nat
  | _, [], L => L
  | a, x :: xs, L => outL kv (a + 1) xs (inn a x L kv)
def stepQ (F : List Nat) (k : Nat) : List Nat := outL (shdK k) 0 F (List.replicate (F.length + k) 0)
def dueL (ks : List Nat) : List Nat := ks.foldl stepQ [1]
def kindsX : List (List Nat) := [[2], [2, 2], [2, 2, 2], [8], [2, 8], [12], [14], [16], [8, 8], [2, 2, 2, 2], [2, 12], [2, 2, 8]]
theorem kindsX_A : ∀ ks ∈ kindsX, ks ∈ kindsA := by decide
def sK : Nat → Nat
  | 2 => 1
  | 12 => 3
  | 14 => 127
  | _ => 0
def mkS (ks : List Nat) : Nat := (ks.foldl (fun s k => (s.1 + sK k * 2 ^ s.2, s.2 + k)) ((0, 0) : Nat × Nat)).1
def ckD1 (ks : List Nat) : Bool := (mkB ks).1.all (fun b => par b (mkS ks) == uneven b) && decide (mkS ks < 2 ^ ks.sum)
theorem ckD1_all : kindsX.all ckD1 = true := by decide +kernel
def ckD2 (ks : List Nat) : Bool := decide (rowP pc ks.sum ((spanU (mkB ks).1).map (mkS ks ^^^ ·)) = dueL ks)
theorem ckD2_all : kindsX.all ckD2 = true := by decide +kernel
/-! ### kinds led -/
section
variable {n j : Nat} {A B L M X ks l s : List Nat}
theorem spanU_all (nd : (spanU X).Nodup) (v : Nat) : v ∈ spanU X ↔ span X v := by
  refine ⟨spanU_in, fun h => Classical.byContradiction fun no => ?_⟩
  have ok := words_ok (bas_plain X)
  have le : (v :: spanU X).length ≤ (wordsOf (bas X)).length := List.Nodup.length_le_of_subset (List.nodup_cons.mpr ⟨no, nd⟩) fun w hw => by
    refine (ok.1 w).mpr ((bas_span X w).mpr ?_)
    rcases List.mem_cons.mp hw with rfl | h
    · exact h
    · exact spanU_in h
  rw [List.length_cons, spanU_len, ok.2.2, bas_free nd] at le
  omega
theorem shT_perm (h : OwnF n B) {a : Nat} (a1 : a < 2 ^ n) (a2 : isSh B a = true) (nd : L.Nodup) (mem : ∀ v, v ∈ L ↔ span B v) : (shT B).Perm (L.map (a ^^^ ·)) := by
  have sc := sh_con h.f.pl h.f.n24 h.f.lt a1 a2
  rw [own_con h] at sc
  refine (List.perm_ext_iff_of_nodup (shT_ok h).2 (map_nd (fun x _ y _ e => ?_) nd)).mpr fun v => ?_
  · have := congrArg (a ^^^ ·) e
    simpa [← Nat.xor_assoc] using this
  · rw [(shT_ok h).1, sc v, List.mem_map]
    constructor
    · exact fun hv => ⟨a ^^^ v, (mem _).mpr hv, by rw [← Nat.xor_assoc, Nat.xor_self, Nat.zero_xor]⟩
    · rintro ⟨w, hw, rfl⟩
      rw [← Nat.xor_assoc, Nat.xor_self, Nat.zero_xor]
      exact (mem w).mp hw
structure OwnX (ks l : List Nat) : Prop where
  own : OwnM ks l
  led : ∃ s, Seq ks.sum s ∧ l = (mkB ks).1.map (ledN s)
theorem due_base (hx : ks ∈ kindsX) : OwnF ks.sum (bas (mkB ks).1) ∧ shR ks.sum (bas (mkB ks).1) = dueL ks := by
  have ha := kindsX_A ks hx
  obtain ⟨_, n1, n16, l8, lt, st⟩ := ks_PA ha
  have own : OwnF ks.sum (bas (mkB ks).1) := own_mk ⟨bas_plain _, n1, by omega, bas_lt lt⟩ (still_iff.mp (still_span.mpr fun a ha b hb => still_span.mp (still_iff.mpr st) a ((bas_span _ a).mp ha) b ((bas_span _ b).mp hb))) (ks_own ha)
  refine ⟨own, ?_⟩
  have c1 := List.all_eq_true.mp ckD1_all ks hx
  have c2 := List.all_eq_true.mp ckD2_all ks hx
  unfold ckD1 at c1
  unfold ckD2 at c2
  rw [Bool.and_eq_true, decide_eq_true_iff, List.all_eq_true] at c1
  have c2 := of_decide_eq_true c2
  have nd := dst_nd (List.all_eq_true.mp dst_all ks ha)
  have sh : isSh (bas (mkB ks).1) (mkS ks) = true := (sh_gen own.st).mpr fun b hb => eq_of_beq (c1.1 b hb)
  rw [← c2]
  exact rowP_perm (shT_perm own c1.2 sh nd fun v => by rw [spanU_all nd, bas_span])
theorem OwnX.row (hx : ks ∈ kindsX) (h : OwnX ks l) : shR ks.sum (bas l) = dueL ks := by
  obtain ⟨s, hs, rfl⟩ := h.led
  obtain ⟨own, e⟩ := due_base hx
  rw [← e, ← shR_ex hs own]
  refine congrArg (shR ks.sum) (plain_unique (bas_plain _) (bas_plain _) fun v => ?_)
  rw [bas_span, show span ((mkB ks).1.map (ledN s)) v ↔ span (exB (mkB ks).1 s) v from Iff.rfl, ← bas_span (exB (mkB ks).1 s), exB_span hs, exB_span hs]
  exact ⟨fun ⟨a, ha, e⟩ => ⟨a, (bas_span _ a).mpr ha, e⟩, fun ⟨a, ha, e⟩ => ⟨a, (bas_span _ a).mp ha, e⟩⟩
end
section
variable {p : Addr} {ws ks L : List Nat} {n : Nat}
end
section
variable {Ds Es : EnvT W} {ta tb te : TE} {ts tu tw : TS} {d d1 : Dn W} {i j : Nat} {xs : List V} {cs cs1 : List (Nat × List V)} {a : Int}
theorem nv_assoc (h : NV Ds (tSeq (tSeq ts tu) tw) Es) : NV Ds (tSeq ts (tSeq tu tw)) Es := h
theorem od_modI {b : Int} (h : 0 < b) : OpD (W := W) (rI (fun _ j => 0 < j) fun i j => .int (i % j)) (dI a) (dI b) (dI (a % b)) := fun u v H Q iv e1 e2 k => ⟨a, b, e1, e2, h, k _ H (W.refl H) rfl⟩
end
section
variable {Ds Es : EnvT W} {te : TE} {tu : TS} {i : Nat} {xs ys : List V} {cs : List (Nat × List V)}
end
end Vf
set_option Elab.async false
set_option linter.all false
set_option maxRecDepth 100000
set_option maxHeartbeats 4000000
set_option pp.maxSteps 300
namespace Vf
open PySem PySem.Spec PyProof.Rows L2
/-! ### polynomials, as the loops make them -/
def inZ (x : Int) : Nat → List Int → List Int → List Int
  | _, L, [] => L
  | a, L, b :: B => inZ x (a + 1) (L.set a (L.getD a 0 + x * b)) B
theorem inZ_len (x : Int) : ∀ (B : List Int) (a : Nat) (L : List Int), (inZ x a L B).length = L.length
  | [], _, _ => rfl
  | b :: B, a, L => by
    show (inZ x (a + 1) (L.set _ _) B).length = _
    rw [inZ_len x B, List.length_set]
theorem inZ_snoc (x b : Int) : ∀ (B : List Int) (a : Nat) (L : List Int), inZ x a L (B ++ [b]) = (inZ x a L B).set (a + B.length) ((inZ x a L B).getD (a + B.length) 0 + x * b)
  | [], _, _ => rfl
  | c :: B, a, L => by
    show inZ x (a + 1) (L.set _ _) (B ++ [b]) = (inZ x (a + 1) (L.set _ _) B).set (a + (B.length + 1)) ((inZ x (a + 1) (L.set _ _) B).getD (a + (B.length + 1)) 0 + x * b)
    rw [inZ_snoc x b B, show a + 1 + B.length = a + (B.length + 1) by omega]
def outZ (B : List Int) : Nat → List Int → List Int → List Int
  | _, L, [] => L
  | a, L, x :: A => outZ B (a + 1) (inZ x a L B) A
theorem outZ_len (B : List Int) : ∀ (A : List Int) (a : Nat) (L : List Int), (outZ B a L A).length = L.length
  | [], _, _ => rfl
  | x :: A, a, L => by
    show (outZ B (a + 1) (inZ x a L B) A).length = _
    rw [outZ_len B A, inZ_len]
theorem outZ_snoc (B : List Int) (x : Int) : ∀ (A : List Int) (a : Nat) (L : List Int), outZ B a L (A ++ [x]) = inZ x (a + A.length) (outZ B a L A) B
  | [], _, _ => rfl
  | c :: A, a, L => by
    show outZ B (a + 1) (inZ c a L B) (A ++ [x]) = inZ x (a + (A.length + 1)) (outZ B (a + 1) (inZ c a L B) A) B
    rw [outZ_snoc B x A, show a + 1 + A.length = a + (A.length + 1) by omega]
def mulZ (A B : List Int) : List Int := outZ B 0 (List.replicate (A.length + B.length - 1) 0) A
theorem mulZ_len (A B : List Int) : (mulZ A B).length = A.length + B.length - 1 := by
  unfold mulZ
  rw [outZ_len, List.length_replicate]
def powZ (A : List Int) : Nat → List Int
  | 0 => [1]
  | k + 1 => mulZ (powZ A k) A
theorem powZ_len {A : List Int} (h : 1 ≤ A.length) : ∀ k, (powZ A k).length = k * (A.length - 1) + 1
  | 0 => by rw [Nat.zero_mul]; rfl
  | k + 1 => by
    show (mulZ (powZ A k) A).length = _
    rw [mulZ_len, powZ_len h k, Nat.succ_mul]
    omega
def smZ (l : List Int) : Prop := ∀ x ∈ l, -(2 ^ 64) < x ∧ x < 2 ^ 64
instance (l : List Int) : Decidable (smZ l) := inferInstanceAs (Decidable (∀ x ∈ l, _))
theorem take_snocZ {α : Type} {s : List α} {k : Nat} {j : α} (h : s[k]? = some j) : s.take (k + 1) = s.take k ++ [j] := by
  rw [List.take_add_one, h]
  rfl
theorem getD_some {α : Type} {l : List α} {k : Nat} {d : α} (h : k < l.length) : l[k]? = some (l.getD k d) := by
  rw [List.getD_eq_getElem?_getD, List.getElem?_eq_getElem h]
  rfl
theorem get_is {l : List Int} {k : Nat} {x : V} (h : (l.map V.int)[k]? = some x) : ∃ a, l[k]? = some a ∧ x = V.int a := by
  rw [List.getElem?_map] at h
  cases e : l[k]? with
  | none =>
    rw [e] at h
    cases h
  | some a =>
    rw [e] at h
    exact ⟨a, rfl, (Option.some.inj h).symm⟩
theorem len_is (l : List Int) : (l.map V.int).length = l.length := List.length_map ..
/-! sums of multiples -/
def adZ : List (List Int) → List Int → List Int → List Int
  | t :: ts, f :: fs, tot => adZ ts fs (List.zipWith (fun x y => x + f * y) tot t)
  | [], _, tot => tot
  | _ :: _, [], tot => tot
def dotZ : List (List Int) → List Int → Nat → Int
  | t :: ts, f :: fs, j => f * t.getD j 0 + dotZ ts fs j
  | [], _, _ => 0
  | _ :: _, [], _ => 0
theorem adZ_snoc (t : List Int) (f : Int) : ∀ (ts : List (List Int)) (fs tot : List Int), ts.length = fs.length → adZ (ts ++ [t]) (fs ++ [f]) tot = List.zipWith (fun x y => x + f * y) (adZ ts fs tot) t
  | [], [], _, _ => rfl
  | s :: ts, g :: fs, tot, h => adZ_snoc t f ts fs _ (Nat.succ.inj h)
  | [], _ :: _, _, h => by cases h
  | _ :: _, [], _, h => by cases h
theorem zw_at {f : Int → Int → Int} {n : Nat} {A B : List Int} (hA : A.length = n) (hB : B.length = n) : List.zipWith f A B = (List.range n).map fun j => f (A.getD j 0) (B.getD j 0) := by
  refine List.ext_getElem? fun j => ?_
  by_cases h : j < n
  · rw [List.getElem?_zipWith, List.getElem?_map, List.getElem?_range h, getD_some (l := A) (d := 0) (by omega), getD_some (l := B) (d := 0) (by omega)]
    rfl
  · rw [List.getElem?_eq_none (by rw [List.length_zipWith]; omega), List.getElem?_eq_none (by rw [List.length_map, List.length_range]; omega)]
theorem map_getD {n j : Nat} {g : Nat → Int} (h : j < n) : ((List.range n).map g).getD j 0 = g j := by
  rw [List.getD_eq_getElem?_getD, List.getElem?_map, List.getElem?_range h]
  rfl
theorem adZ_len {n : Nat} : ∀ {ts : List (List Int)} {fs tot : List Int}, (∀ t ∈ ts, t.length = n) → tot.length = n → (adZ ts fs tot).length = n
  | [], _, _, _, h => h
  | _ :: _, [], _, _, h => h
  | t :: ts, f :: fs, tot, h1, h => adZ_len (ts := ts) (fun s hs => h1 s (List.mem_cons_of_mem _ hs)) (by rw [List.length_zipWith, h, h1 t (List.mem_cons_self ..), Nat.min_self])
theorem adZ_at {n : Nat} : ∀ {ts : List (List Int)} {fs tot : List Int}, (∀ t ∈ ts, t.length = n) → tot.length = n → adZ ts fs tot = (List.range n).map fun j => tot.getD j 0 + dotZ ts fs j
  | [], fs, tot, _, h => by
    refine List.ext_getElem? fun j => ?_
    by_cases c : j < n
    · rw [List.getElem?_map, List.getElem?_range c]
      show tot[j]? = some (tot.getD j 0 + dotZ [] fs j)
      rw [getD_some (l := tot) (d := 0) (by omega)]
      show _ = some (_ + 0)
      rw [Int.add_zero]
    · exact (List.getElem?_eq_none (show tot.length ≤ j by omega)).trans (List.getElem?_eq_none (by rw [List.length_map, List.length_range]; omega)).symm
  | s :: ts, [], tot, _, h => by
    refine List.ext_getElem? fun j => ?_
    by_cases c : j < n
    · rw [List.getElem?_map, List.getElem?_range c]
      show tot[j]? = some (tot.getD j 0 + dotZ (s :: ts) [] j)
      rw [getD_some (l := tot) (d := 0) (by omega)]
      show _ = some (_ + 0)
      rw [Int.add_zero]
    · exact (List.getElem?_eq_none (show tot.length ≤ j by omega)).trans (List.getElem?_eq_none (by rw [List.length_map, List.length_range]; omega)).symm
  | t :: ts, f :: fs, tot, h1, h => by
    have ht := h1 t (List.mem_cons_self ..)
    show adZ ts fs (List.zipWith (fun x y => x + f * y) tot t) = _
    rw [adZ_at (ts := ts) (fun s hs => h1 s (List.mem_cons_of_mem _ hs)) (by rw [List.length_zipWith, h, ht, Nat.min_self])]
    refine List.map_congr_left fun j hj => ?_
    rw [zw_at h ht, map_getD (List.mem_range.mp hj)]
    show _ + f * t.getD j 0 + _ = _ + (f * t.getD j 0 + _)
    rw [Int.add_assoc]
/-- what is taken out, step by step -/
def tkZ (ts : List (List Int)) (step : Nat) (L : List Int) : Nat → List Int × List Int
  | 0 => ([], L)
  | k + 1 => ((tkZ ts step L k).1 ++ [(tkZ ts step L k).2.getD (step * k) 0], List.zipWith (fun x y => x - (tkZ ts step L k).2.getD (step * k) 0 * y) (tkZ ts step L k).2 (ts.getD k []))
theorem tkZ_len {ts : List (List Int)} {step n : Nat} {L : List Int} (h1 : ∀ t ∈ ts, t.length = n) (h : L.length = n) : ∀ k, k ≤ ts.length → (tkZ ts step L k).2.length = n
  | 0, _ => h
  | k + 1, hk => by
    have ht : (ts.getD k []).length = n := h1 _ (List.mem_of_getElem? (getD_some (l := ts) (d := []) (by omega)))
    show (List.zipWith _ _ _).length = n
    rw [List.length_zipWith, tkZ_len h1 h k (by omega), ht, Nat.min_self]
theorem tkZ_len1 (ts : List (List Int)) (step : Nat) (L : List Int) : ∀ k, (tkZ ts step L k).1.length = k
  | 0 => rfl
  | k + 1 => by
    show ((tkZ ts step L k).1 ++ [_]).length = _
    rw [List.length_append, tkZ_len1 ts step L k]
    rfl
def tabPL : List (List (List Int)) := [[[1, 0, 1]],
  [[1, 0, 2, 0, 1]],
  [[1, 0, 3, 0, 3, 0, 1]],
  [[1, 0, 4, 0, 6, 0, 4, 0, 1],
   [0, 0, 1, 0, -2, 0, 1, 0, 0]],
  [[1, 0, 5, 0, 10, 0, 10, 0, 5, 0, 1],
   [0, 0, 1, 0, -1, 0, -1, 0, 1, 0, 0]],
  [[1, 0, 6, 0, 15, 0, 20, 0, 15, 0, 6, 0, 1],
   [0, 0, 1, 0, 0, 0, -2, 0, 0, 0, 1, 0, 0]],
  [[1, 0, 7, 0, 21, 0, 35, 0, 35, 0, 21, 0, 7, 0, 1],
   [0, 0, 1, 0, 1, 0, -2, 0, -2, 0, 1, 0, 1, 0, 0]],
  [[1, 0, 8, 0, 28, 0, 56, 0, 70, 0, 56, 0, 28, 0, 8, 0, 1],
   [0, 0, 1, 0, 2, 0, -1, 0, -4, 0, -1, 0, 2, 0, 1, 0, 0],
   [0, 0, 0, 0, 1, 0, -4, 0, 6, 0, -4, 0, 1, 0, 0, 0, 0]],
  [[1, 0, 9, 0, 36, 0, 84, 0, 126, 0, 126, 0, 84, 0, 36, 0, 9, 0, 1],
   [0, 0, 1, 0, 3, 0, 1, 0, -5, 0, -5, 0, 1, 0, 3, 0, 1, 0, 0],
   [0, 0, 0, 0, 1, 0, -3, 0, 2, 0, 2, 0, -3, 0, 1, 0, 0, 0, 0]],
  [[1, 0, 10, 0, 45, 0, 120, 0, 210, 0, 252, 0, 210, 0, 120, 0, 45, 0, 10, 0, 1],
   [0, 0, 1, 0, 4, 0, 4, 0, -4, 0, -10, 0, -4, 0, 4, 0, 4, 0, 1, 0, 0],
   [0, 0, 0, 0, 1, 0, -2, 0, -1, 0, 4, 0, -1, 0, -2, 0, 1, 0, 0, 0, 0]],
  [[1, 0, 11, 0, 55, 0, 165, 0, 330, 0, 462, 0, 462, 0, 330, 0, 165, 0, 55, 0, 11, 0, 1],
   [0, 0, 1, 0, 5, 0, 8, 0, 0, 0, -14, 0, -14, 0, 0, 0, 8, 0, 5, 0, 1, 0, 0],
   [0, 0, 0, 0, 1, 0, -1, 0, -3, 0, 3, 0, 3, 0, -3, 0, -1, 0, 1, 0, 0, 0, 0]],
  [[1, 0, 12, 0, 66, 0, 220, 0, 495, 0, 792, 0, 924, 0, 792, 0, 495, 0, 220, 0, 66, 0, 12, 0, 1],
   [0, 0, 1, 0, 6, 0, 13, 0, 8, 0, -14, 0, -28, 0, -14, 0, 8, 0, 13, 0, 6, 0, 1, 0, 0],
   [0, 0, 0, 0, 1, 0, 0, 0, -4, 0, 0, 0, 6, 0, 0, 0, -4, 0, 0, 0, 1, 0, 0, 0, 0],
   [0, 0, 0, 0, 0, 0, 1, 0, -6, 0, 15, 0, -20, 0, 15, 0, -6, 0, 1, 0, 0, 0, 0, 0, 0]]]
def tabP (n : Nat) : List (List Int) := tabPL.getD (n / 2 - 1) []
theorem tabP_len : ∀ m < 12, (tabP (2 * (m + 1))).length = 2 * (m + 1) / 8 + 1 ∧ ∀ t ∈ tabP (2 * (m + 1)), t.length = 2 * (m + 1) + 1 ∧ ∀ x ∈ t, x.natAbs ≤ 4096 := by decide +kernel
end Vf
set_option Elab.async false
set_option linter.all false
set_option maxRecDepth 100000
set_option maxHeartbeats 4000000
set_option pp.maxSteps 300
namespace Vf
open PySem PySem.Spec PyProof.Rows L2
variable {W : Wd}
/-! ### repr where no class stands: None, truths, numbers, data -/
section
variable {K : PySem.W.Frag} {d : Dn W} {l l2 : List Int} {a b : Int}
/-! lists of whole numbers, equal or not -/
theorem eqv_isL : ∀ l l2 : List Int, PyData.eqvAll ((l.map V.int).map toD) ((l2.map V.int).map toD) = decide (l = l2)
  | [], [] => by simp [PyData.eqvAll]
  | [], y :: m => by simp [PyData.eqvAll]
  | x :: l, [] => by simp [PyData.eqvAll]
  | x :: l, y :: m => by
    rw [List.map_cons, List.map_cons, List.map_cons, List.map_cons, PyData.eqvAll, eqv_isL l m]
    have e : PyData.eqv (toD (V.int x)) (toD (V.int y)) = decide (x = y) := by
      show PyData.eqv (.int x) (.int y) = _
      simp only [PyData.eqv]
      by_cases c : x = y
      · simp [c]
      · simp [c]
    rw [e]
    by_cases c : x = y <;> by_cases c2 : l = m <;> simp [c, c2]
theorem od_eqIL : OpD (W := W) (rEqD K) (dIs l) (dIs l2) (dB (decide (l = l2))) := fun u v H Q iv ⟨a, e1, g1, h1⟩ ⟨b, e2, g2, h2⟩ k => by
  subst e1 e2
  refine ⟨_, _, .lst (SqL.of h1) (dp_all (flat_is l)), .lst (SqL.of h2) (dp_all (flat_is l2)), shaped_flat (flat_is l), shaped_flat (flat_is l2), ?_⟩
  rw [PyData.eqv, eqv_isL]
  exact k _ H (W.refl H) rfl
theorem od_neIL : OpD (W := W) (rNeD K) (dIs l) (dIs l2) (dB (!decide (l = l2))) := fun u v H Q iv ⟨a, e1, g1, h1⟩ ⟨b, e2, g2, h2⟩ k => by
  subst e1 e2
  refine ⟨_, _, .lst (SqL.of h1) (dp_all (flat_is l)), .lst (SqL.of h2) (dp_all (flat_is l2)), shaped_flat (flat_is l), shaped_flat (flat_is l2), ?_⟩
  rw [PyData.eqv, eqv_isL]
  exact k _ H (W.refl H) rfl
end
section
variable {Ds Es Fs : EnvT W} {d : Dn W} {te tl : TE} {tt : TT} {ta : TA} {ts tu : TS} {i j m n : Nat} {K : PySem.W.Frag} {xs : List V} {l : List Int}
/-- [G k for k, x in enumerate(xs) if p k], xs a list or a tuple in slot j -/
theorem ev_lcEV {p : Nat → Bool} {G : Nat → V} (hj : Ds.get j = some d) (q0 : Qs K xs d) (hz : xs.length ≤ 100000) (ne : i ≠ m) (ht : ∀ k x, xs[k]? = some x → TV ((Ds.set i (some (dN k))).set m (some (dV x))) tt (p k))
    (hb : ∀ k x, xs[k]? = some x → p k = true → EV ((Ds.set i (some (dN k))).set m (some (dV x))) te (dV (G k))) (hn : Nat.ble (j + 1) Ds.n = true := by rfl) :
    EV Ds (tLc (iEnumLT K (tCons (tVar j) tNil)) (gTup K 2 (gCons (gName i) (gCons (gName m) gNil))) tt te [i, m]) (dLst (((List.range xs.length).filter p).map G)) := fun σ H Q iv en q => by
  obtain ⟨v, e, o⟩ := en.get hj hn
  obtain ⟨a, ea, hq⟩ := q0 v H o
  subst ea
  have sc : ∀ k, ((List.range (k + 1)).filter p).map G = ((List.range k).filter p).map G ++ if p k then [G k] else [] := fun k => by
    rw [List.range_succ, List.filter_append, List.map_append]
    cases e : p k <;> simp [e]
  have turn : ∀ (D : Addr) (nD : H D = none) (k : Nat) (x : V) (hx : xs[k]? = some x) (H' : Hp), W.L H H' → H' D = some (.lst (((List.range k).filter p).map G)) → ∀ T, H' T = none →
      gTup K 2 (gCons (gName i) (gCons (gName m) gNil)) (.ref T) (wipe σ [i, m]) (upd H' T (.tup [V.int (k : Nat), x])) fun σ2 H2 => wipe σ2 [i, m] = wipe σ [i, m] ∧
        tt σ2 H2 fun b H3 => if b = true then te σ2 H3 fun y H4 => ∃ ys, H4 D = some (.lst ys) ∧ ys.length < sizeLine ∧ (W.L H (upd H4 D (.lst (ys ++ [y]))) ∧ upd H4 D (.lst (ys ++ [y])) D = some (.lst (((List.range (k + 1)).filter p).map G))) else (W.L H H3 ∧ H3 D = some (.lst (((List.range (k + 1)).filter p).map G))) := by
    intro D nD k x hx H' lP eD T nT
    have iv' := W.step lP iv
    have hk : k < xs.length := (List.getElem?_eq_some_iff.mp hx).1
    have l3 : W.L H' (upd H' T (.tup [V.int (k : Nat), x])) := W.put iv' (W.refl _) nT
    have iv3 := W.step l3 iv'
    have en3 := env_wipe (i := i) (j := m) (d1 := dN k) (d2 := dV x) rfl rfl (en.st (W.trans lP l3)) ne
    refine ⟨T, _, rfl, .inl (.inl upd_same), rfl, _, _, rfl, _, _, rfl, rfl, wipe2 ne, ht k x hx _ _ _ iv3 en3 fun H3 l4 => ?_⟩
    have eD3 := W.keep (W.fresh iv nD) l4 (W.keep (W.fresh iv nD) l3 eD)
    cases hp : p k with
    | true =>
      refine (if_pos rfl).mpr (hb k x hx hp _ H3 _ (W.step l4 iv3) (en3.st l4) fun y H4 l5 o5 => ?_)
      have eD5 := W.keep (W.fresh iv nD) l5 eD3
      refine ⟨_, eD5, ?_, W.put iv (W.trans lP (W.trans l3 (W.trans l4 l5))) nD, ?_⟩
      · rw [List.length_map]
        refine sl_lt (Nat.le_trans (List.length_filter_le _ _) ?_)
        rw [List.length_range]
        omega
      · rw [upd_same, show y = G k from o5, sc, hp]
        rfl
    | false =>
      refine (if_neg Bool.false_ne_true).mpr ⟨W.trans lP (W.trans l3 l4), ?_⟩
      rw [eD3, sc, hp]
      simp
  rcases hq with hq | hq
  · refine .inl ⟨.ref a, e, a, _, rfl, hq H (W.refl H), fun D nD => ?_⟩
    refine ⟨fun k m H' => k + m = xs.length ∧ W.L H H' ∧ H' D = some (.lst (((List.range k).filter p).map G)), ⟨xs.length, Nat.zero_add _, W.put iv (W.refl H) nD, upd_same⟩, fun k m H' hW => ?_⟩
    obtain ⟨km, lP, eD⟩ := hW
    have hL := hq H' lP
    by_cases hk : k < xs.length
    · have lx : xs[k]? = some xs[k] := List.getElem?_eq_getElem hk
      refine .inr ⟨⟨_, _, hL, lx⟩, fun H2 => W.L H H2 ∧ H2 D = some (.lst (((List.range (k + 1)).filter p).map G)), fun H2 hN => ⟨m - 1, by omega, by omega, hN⟩, fun z H2 hy => ?_⟩
      obtain ⟨T, x1, ez, nT, eH, fx⟩ := hy
      subst ez eH
      have e1 : x1 = xs[k] := by
        have h2 : xs[k]? = some x1 := fx _ hL
        rw [lx] at h2
        exact (Option.some.inj h2).symm
      subst e1
      exact turn D nD k _ lx H' lP eD T nT
    · have kl : k = xs.length := by omega
      subst kl
      exact .inl ⟨⟨_, hL, by omega⟩, q _ H' lP ⟨D, rfl, W.fresh iv nD, eD⟩⟩
  · refine .inr ⟨.ref a, e, a, _, rfl, hq H (W.refl H), fun D nD => ?_⟩
    refine ⟨fun k m H' => k + m = xs.length ∧ W.L H H' ∧ H' D = some (.lst (((List.range k).filter p).map G)), ⟨xs.length, Nat.zero_add _, W.put iv (W.refl H) nD, upd_same⟩, fun k m H' hW => ?_⟩
    obtain ⟨km, lP, eD⟩ := hW
    have hL := hq H' lP
    by_cases hk : k < xs.length
    · have lx : xs[k]? = some xs[k] := List.getElem?_eq_getElem hk
      refine .inr ⟨⟨_, _, hL, lx⟩, fun H2 => W.L H H2 ∧ H2 D = some (.lst (((List.range (k + 1)).filter p).map G)), fun H2 hN => ⟨m - 1, by omega, by omega, hN⟩, fun z H2 hy => ?_⟩
      obtain ⟨T, x1, ez, nT, eH, fx⟩ := hy
      subst ez eH
      have e1 : x1 = xs[k] := by
        have h2 : xs[k]? = some x1 := fx _ hL
        rw [lx] at h2
        exact (Option.some.inj h2).symm
      subst e1
      exact turn D nD k _ lx H' lP eD T nT
    · have kl : k = xs.length := by omega
      subst kl
      exact .inl ⟨⟨_, hL, by omega⟩, q _ H' lP ⟨D, rfl, W.fresh iv nD, eD⟩⟩
end
end Vf
set_option Elab.async false
set_option linter.all false
set_option maxRecDepth 100000
set_option maxHeartbeats 4000000
set_option pp.maxSteps 300
namespace Vf
open PySem PySem.Spec PyProof.Rows L2
variable {W : Wd}
/-! ### a list that grows from the empty one: its items and the slots told in the world that keeps away from it -/
def Wle (W W' : Wd) : Prop := ∀ q, IsPot W q → IsPot W' q
theorem away_le {p : Addr} (fp : W.F p) : Wle W (awayW W p fp) := fun _ h => ⟨fun iv => h.has iv.1, fun f => h.ne f.1, fun b k => h.put b k⟩
theorem wle_refl : Wle W W := fun _ h => h
theorem uEnv_drop {n : Nat} {l : List (Nat × UD)} {σ : L2.St} {H : Hp} {D : Addr} (hD : W.F D) (h : EnvL (uEnv n l (awayW W D hD)) σ H) : EnvL (uEnv n l W) σ H := ⟨h.1, fun i d e lt => by
  obtain ⟨u, rfl, k⟩ := getE_u e
  obtain ⟨v, e1, x⟩ := h.2 i _ (k _) lt
  exact ⟨v, e1, u.drop hD x⟩⟩
/-- a meaning that never looks at what stands at the place it keeps away from -/
def OffU (u : UD) : Prop := ∀ {W : Wd} {D : Addr} (hD : W.F D) {v : V} {H : Hp}, (u.f (awayW W D hD)).ok v H → (u.f (awayW W D hD)).ok v (del D H)
theorem offu_Tup (xs : List V) : OffU (uTup xs) := fun {W D} hD {v H} ⟨a, e, g, h⟩ => ⟨a, e, g, (del_ne g.2).trans h⟩
theorem OkL_away {p : Addr} (fp : W.F p) {H H2 : Hp} {o : HO} (l : W.L (del p H) (del p H2)) (e : H2 p = some o) : ∀ {ws : List UD} {xs : List V}, (∀ w ∈ ws, OffU w) → OkL (uDs ws (awayW W p fp)) xs H → OkL (uDs ws (awayW W p fp)) xs H2
  | [], [], _, _ => trivial
  | w :: ws, x :: xs, f, ⟨o1, r⟩ => ⟨by
      have h1 := f w (List.mem_cons_self ..) fp o1
      have h2 : (w.f (awayW W p fp)).ok x (del p H2) := Dn.st (W := awayW W p fp) _ l h1
      have h3 := w.stay fp (o := o) h2
      rwa [upd_del e] at h3, OkL_away fp l e (fun w hw => f w (List.mem_cons_of_mem _ hw)) r⟩
  | [], _ :: _, _, h => h.elim
  | _ :: _, [], _, h => h.elim
structure LG (W : Wd) (i N : Nat) (ue : List (Nat × UD)) (us : List UD) (p : Addr) (fp : W.F p) (σ : L2.St) (H : Hp) : Prop where
  slot : σ[i]? = some (some (.ref p))
  ct : ∃ xs, H p = some (.lst xs) ∧ OkL (uDs us (awayW W p fp)) xs H
  inv : W.inv H
  env : EnvL (uEnv N ue (awayW W p fp)) σ H
def NVG {ι : Type} (W : Wd) (i N : Nat) (ue : List (Nat × UD)) (us : List UD) (ts : TS) (E : ι → List (Nat × UD)) (R : ι → List UD) (P : ι → Prop) : Prop := ∀ (D : Ends) (σ : L2.St) (H : Hp) (p : Addr) (fp : W.F p), LG W i N ue us p fp σ H →
  (∀ x σ' H', P x → LG W i N (E x) (R x) p fp σ' H' → W.L (del p H) (del p H') → D.nx σ' H') → ts D σ H
section
variable {ι κ : Type} {i N j m n M : Nat} {ue ue' : List (Nat × UD)} {us us' : List UD} {p : Addr} {fp : W.F p} {σ : L2.St} {H H1 : Hp}
theorem LG.ainv (h : LG W i N ue us p fp σ H) : (awayW W p fp).inv H := ⟨h.inv, h.ct.elim fun xs e => ⟨xs, e.1⟩⟩
theorem LG.go (h : LG W i N ue us p fp σ H) (l : W.L H H1) : LG W i N ue us p fp σ H1 ∧ W.L (del p H) (del p H1) := by
  obtain ⟨xs, e, o⟩ := h.ct
  exact ⟨⟨h.slot, ⟨xs, W.keep fp l e, OkL.st (W := awayW W p fp) l o⟩, W.step l h.inv, EnvL.st (W := awayW W p fp) l h.env⟩, W.delL fp l⟩
theorem LG.del (h : LG W i N ue us p fp σ H) : W.L (del p H) H := by
  obtain ⟨xs, e, _⟩ := h.ct
  exact L_del (W.delI fp h.inv) e
theorem LG.out (h : LG W i N ue us p fp σ H) : EnvL ((uEnv N ue W).set i (some (dLD (uDs us W)))) σ H := by
  obtain ⟨xs, e, o⟩ := h.ct
  have := EnvL.set (d := dLD (uDs us W)) (v := .ref p) (i := i) ⟨p, xs, rfl, fp, e, uDs_drop fp o⟩ (uEnv_drop fp h.env)
  rwa [set_id h.slot] at this
end
section
variable {ι κ : Type} {i N j j2 m n M : Nat} {ue ue' : List (Nat × UD)} {us us' : List UD} {ts tu : TS} {te tl : TE} {ta : TA} {tt : TT} {K : PySem.W.Frag} {d : Dn W} {u : UD}
  {E : ι → List (Nat × UD)} {R : ι → List UD} {P : ι → Prop} {E' : κ → List (Nat × UD)} {R' : κ → List UD} {P' : κ → Prop}
theorem ng_next : NVG W i N ue us tNext (fun _ : Unit => ue) (fun _ => us) (fun _ => True) := fun D σ H p fp s q => q () σ H trivial s (W.refl _)
theorem ng_imp (h : NVG W i N ue us ts E R P) (f : ι → κ) (k : ∀ x, P x → P' (f x) ∧ R x = R' (f x) ∧ ∀ W' σ H, EnvL (uEnv N (E x) W') σ H → EnvL (uEnv N (E' (f x)) W') σ H) : NVG W i N ue us ts E' R' P' := fun D σ H p fp s q =>
  h D σ H p fp s fun x σ1 H1 px s1 l1 => by
    obtain ⟨py, er, ee⟩ := k x px
    exact q (f x) σ1 H1 py ⟨s1.slot, er ▸ s1.ct, s1.inv, ee _ _ _ s1.env⟩ l1
theorem ng_if {b : Bool} (h : ∀ W', Wle W W' → TV (uEnv N ue W') tt b) (h1 : b = true → NVG W i N ue us ts E R P) (h2 : b = false → NVG W i N ue us tu E R P) : NVG W i N ue us (tIfS tt ts tu) E R P := fun D σ H p fp s q =>
  h _ (away_le fp) σ H _ s.ainv s.env fun H1 l1 => by
    obtain ⟨s1, l2⟩ := s.go l1
    cases b with
    | true => exact (if_pos rfl).mpr (h1 rfl D σ H1 p fp s1 fun x σ2 H2 px s2 l3 => q x σ2 H2 px s2 (W.trans l2 l3))
    | false => exact (if_neg Bool.false_ne_true).mpr (h2 rfl D σ H1 p fp s1 fun x σ2 H2 px s2 l3 => q x σ2 H2 px s2 (W.trans l2 l3))
end
/-! ### a new list, empty at first -/
section
variable {i N : Nat} {Ds : EnvT W} {ue : List (Nat × UD)} {ts tu : TS} {te : TE} {d : Dn W} {xs ys : List V} {n : Nat}
end
/-! ### a promise of None, or of a new list -/
section
variable {P : Program} {w : World} {K : PySem.W.Frag} {mg : Str → Option Value} {base : Heap} {x qual : Str} {st : Stmt} {f : Addr} {fd : FuncData} {N ps : List Str} {k : Nat}
  {ι : Type} {Pr : Wd → ι → Prop} {ds : (W : Wd) → ι → List (Dn W)} {o : ι → Option (List Int)}
end
section
variable {Ds Es : EnvT W} {ts tu : TS} {te : TE} {tt : TT} {o : Option (List Int)} {l : List Int} {i : Nat} {xs : List V}
end
/-! ### a pair of new lists, the first one nobody else's -/
section
variable {P : Program} {w : World} {K : PySem.W.Frag} {mg : Str → Option Value} {base : Heap} {x qual : Str} {st : Stmt} {f : Addr} {fd : FuncData} {N ps : List Str} {k : Nat}
  {ι : Type} {Pr : Wd → ι → Prop} {ds : (W : Wd) → ι → List (Dn W)} {xs ys : ι → List V}
end
section
variable {Ds Es : EnvT W} {ts tu : TS} {te : TE} {xs ys : List V} {i j N : Nat} {ue : List (Nat × UD)} {K : PySem.W.Frag} {zs : List V}
end
end Vf
set_option Elab.async false
set_option linter.all false
set_option maxRecDepth 100000
set_option maxHeartbeats 4000000
set_option pp.maxSteps 300
namespace Vf
open PySem PySem.Spec PyProof.Rows L2
variable {W : Wd}
/-! ### a tuple of the written part -/
theorem sd_is_integer {i : Int} : SpD (W := W) sp_is_integer [] [dI i] (dB true) := fun vs H Q iv o q => by
  match vs, o with
  | [v], ⟨e, _⟩ => exact ⟨i, by rw [show v = V.int i from e]; rfl, q _ H (W.refl H) rfl⟩
/-- a list of lists of whole numbers -/
abbrev uIs (l : List Int) : UD := uLst (l.map V.int)
def tD (ts : List (List Int)) (W : Wd) : List (Dn W) := uDs (ts.map uIs) W
theorem tD_get {ts : List (List Int)} {k : Nat} {d : Dn W} (h : (tD ts W)[k]? = some d) : ∃ t, ts[k]? = some t ∧ d = dIs t := by
  unfold tD uDs at h
  rw [List.getElem?_map, List.getElem?_map] at h
  cases e : ts[k]? with
  | none =>
    rw [e] at h
    cases h
  | some t =>
    rw [e] at h
    exact ⟨t, rfl, (Option.some.inj h).symm⟩
theorem tD_at {ts : List (List Int)} {k : Nat} {t : List Int} (h : ts[k]? = some t) : (tD ts W)[k]? = some (dIs t) := by
  unfold tD uDs
  rw [List.getElem?_map, List.getElem?_map, h]
  rfl
theorem tD_len (ts : List (List Int)) : (tD ts W).length = ts.length := by
  unfold tD uDs
  rw [List.length_map, List.length_map]
/-! ### promises -/
section
variable {n k m : Nat} {A B l fs : List Int} {ts : List (List Int)} {P Q : List Int} {o : Option (List Int)} {K : PySem.W.Frag}
def sp_are_integers : Sp := spW (ι := List Int) (fun _ l => l.length ≤ 1000) (fun _ l => [dLTx (l.map V.int)]) fun _ _ => dB true
theorem sd_are_integers (h : l.length ≤ 1000) : SpD sp_are_integers [] [(dLTx (l.map V.int) : Dn W)] (dB true) := spW_sd (i := l) h
structure EvP (n : Nat) : Prop where
  n2 : 2 ≤ n
  n24 : n ≤ 24
  ev : n % 2 = 0
theorem EvP.half (h : EvP n) : ∃ m, m < 12 ∧ n = 2 * (m + 1) := ⟨n / 2 - 1, by have := h.n2; have := h.n24; omega, by have := h.n2; have := h.ev; omega⟩
structure AllN (l : List Int) : Prop where
  odd : l.length % 2 = 1
  l3 : 3 ≤ l.length
  l25 : l.length ≤ 25
structure MulP (i : List Int × List Int) : Prop where
  a1 : 1 ≤ i.1.length
  a99 : i.1.length ≤ 200
  b1 : 1 ≤ i.2.length
  b99 : i.2.length ≤ 200
  sm : smZ i.1
def sp_mulZ (K : PySem.W.Frag) : Sp := spW (ι := List Int × List Int) (fun _ i => MulP i) (fun _ i => [dIs i.1, dQ K (i.2.map V.int)]) fun _ i => dIs (mulZ i.1 i.2)
theorem sd_mulZ (h : MulP (A, B)) : SpD (sp_mulZ K) [] [(dIs A : Dn W), dQ K (B.map V.int)] (dIs (mulZ A B)) := spW_sd (i := (A, B)) h
structure PowP (i : List Int × Nat) : Prop where
  a1 : 1 ≤ i.1.length
  ln : i.2 * (i.1.length - 1) + 1 ≤ 100
  l100 : i.1.length ≤ 200
  sm : ∀ j < i.2, smZ (powZ i.1 j)
  k : i.2 ≤ 1000
theorem PowP.len {j : Nat} (h : PowP (A, k)) (hj : j ≤ k) : 1 ≤ (powZ A j).length ∧ (powZ A j).length ≤ 100 := by
  have ha : 1 ≤ A.length := h.a1
  rw [powZ_len ha]
  have := h.ln
  have h2 : j * (A.length - 1) ≤ k * (A.length - 1) := Nat.mul_le_mul_right _ hj
  have e : (A, k).2 * ((A, k).1.length - 1) = k * (A.length - 1) := rfl
  omega
theorem PowP.step {j : Nat} (h : PowP (A, k)) (hj : j < k) : MulP (powZ A j, A) := by
  have := h.len (Nat.le_of_lt hj)
  exact ⟨this.1, by show (powZ A j).length ≤ 200; omega, h.a1, h.l100, h.sm j hj⟩
/-- sums of multiples -/
def addUp (ts : List (List Int)) (fs : List Int) : List Int := adZ ts fs (List.replicate (ts.headD []).length 0)
structure AddP (i : List (List Int) × List Int) : Prop where
  t1 : 1 ≤ i.1.length
  t9 : i.1.length ≤ 100
  ln : i.1.length = i.2.length
  eq : ∀ t ∈ i.1, t.length = (i.1.headD []).length
  l99 : (i.1.headD []).length ≤ 200
  sm : ∀ t ∈ i.1, smZ t
def sp_addZ : Sp := spF (ι := List (List Int) × List Int) (fun _ i => AddP i) (fun W i => [dLD (tD i.1 W), dIs i.2]) fun i => (addUp i.1 i.2).map V.int
theorem fl_addZ {Ds : EnvT W} {t : TA} (h : AddP (ts, fs)) (ha : AV Ds t [dLD (tD ts W), dIs fs]) : FL Ds (tCall sp_addZ [] E0 t) ((addUp ts fs).map V.int) := fl_call (P := fun _ i => AddP i) (ds := fun W i => [dLD (tD i.1 W), dIs i.2]) (i := (ts, fs)) (ys := fun i : List (List Int) × List Int => (addUp i.1 i.2).map V.int) h ha
def ledZ (l : List Int) (ts : List (List Int)) (step : Nat) : Option (List Int) := if (tkZ ts step l ts.length).2.any (fun x => !decide (x = 0)) = true then none else some (tkZ ts step l ts.length).1
/-- the sum told by its numbers, and back -/
def sumsZ (l : List Int) : Option (List Int) := ledZ l (tabP (l.length - 1)) 2
end
end Vf
set_option Elab.async false
set_option linter.all false
set_option maxRecDepth 100000
set_option maxHeartbeats 4000000
set_option pp.maxSteps 300
namespace Vf
open PySem PySem.Spec PyProof.Rows L2
variable {W : Wd}
theorem del_none {p : Addr} {H : Hp} (h : H p = none) : del p H = H := by
  funext b
  by_cases c : b = p
  · subst c
    rw [del_same, h]
  · rw [del_ne c]
section
variable {Ds Es : EnvT W} {cs : List (Nat × List V)} {te tl : TE} {ta : TA} {ts : TS} {i j m m2 n : Nat} {K : PySem.W.Frag} {xs ys : List V} {l l2 : List Int}
/-- [g x y for x, y in zip(l, m)], a new list -/
theorem fl_lcZ {g : Int → Int → Int} (hl : AV Ds ta [dIs l, dIs l2]) (hlen : l.length = l2.length) (hz : l.length ≤ 100000) (ne : i ≠ j) (hb : ∀ x y, x ∈ l → y ∈ l2 → EV ((Ds.set i (some (dI x))).set j (some (dI y))) te (dI (g x y))) :
    FL Ds (tLc (iZip K ta) (gTup K 2 (gCons (gName i) (gCons (gName j) gNil))) tYes te [i, j]) ((List.zipWith g l l2).map V.int) := fun σ H Q iv en q =>
  hl σ H _ iv en fun vs H1 l1 o1 => by
    match vs, o1 with
    | [v, u], ⟨⟨a, e1, ga, ha⟩, ⟨b, e2, gb, hb2⟩, _⟩ =>
      subst e1 e2
      have iv1 := W.step l1 iv
      refine ⟨a, b, _, _, rfl, SqL.of ha, SqL.of hb2, fun D nD => ?_⟩
      refine ⟨fun k m H' => k + m = l.length ∧ W.L H1 H' ∧ H' D = some (.lst ((List.zipWith g (l.take k) (l2.take k)).map V.int)), ⟨l.length, Nat.zero_add _, W.put iv1 (W.refl H1) nD, upd_same⟩, fun k m H' hW => ?_⟩
      obtain ⟨km, lP, eD⟩ := hW
      have iv' := W.step lP iv1
      have hLa : SqL K H' a (l.map V.int) := SqL.of (W.keep ga lP ha)
      have hLb : SqL K H' b (l2.map V.int) := SqL.of (W.keep gb lP hb2)
      by_cases hk : k < l.length
      · have hk2 : k < l2.length := by omega
        have hx : (l.map V.int)[k]? = some (V.int l[k]) := by rw [List.getElem?_map, List.getElem?_eq_getElem hk]; rfl
        have hy : (l2.map V.int)[k]? = some (V.int l2[k]) := by rw [List.getElem?_map, List.getElem?_eq_getElem hk2]; rfl
        refine .inr ⟨⟨_, _, _, _, hLa, hLb, hx, hy⟩, fun H2 => W.L H1 H2 ∧ H2 D = some (.lst ((List.zipWith g (l.take (k + 1)) (l2.take (k + 1))).map V.int)), fun H2 hN => ⟨m - 1, by omega, by omega, hN⟩, fun z H2 hyl => ?_⟩
        obtain ⟨T, x1, y1, rfl, nT, rfl, fx, fy⟩ := hyl
        have ex : x1 = V.int l[k] := by
          have h2 := fx _ hLa
          rw [hx] at h2
          exact (Option.some.inj h2).symm
        have ey : y1 = V.int l2[k] := by
          have h2 := fy _ hLb
          rw [hy] at h2
          exact (Option.some.inj h2).symm
        subst ex ey
        have l3 : W.L H' (upd H' T (.tup [V.int l[k], V.int l2[k]])) := W.put iv' (W.refl _) nT
        have iv3 := W.step l3 iv'
        refine ⟨T, _, rfl, .inl (.inl upd_same), rfl, _, _, rfl, _, _, rfl, rfl, wipe2 ne, tv_yes _ _ _ iv3 (env_wipe (d1 := dI l[k]) (d2 := dI l2[k]) rfl rfl (en.st (W.trans l1 (W.trans lP l3))) ne) fun H3 l4 => ?_⟩
        refine (if_pos rfl).mpr (hb l[k] l2[k] (List.getElem_mem hk) (List.getElem_mem hk2) _ H3 _ (W.step l4 iv3) ((env_wipe (d1 := dI l[k]) (d2 := dI l2[k]) rfl rfl (en.st (W.trans l1 (W.trans lP l3))) ne).st l4) fun y H4 l5 o5 => ?_)
        have eD5 := W.keep (W.fresh iv1 nD) l5 (W.keep (W.fresh iv1 nD) l4 (W.keep (W.fresh iv1 nD) l3 eD))
        refine ⟨_, eD5, ?_, W.put iv1 (W.trans lP (W.trans l3 (W.trans l4 l5))) nD, ?_⟩
        · rw [List.length_map, List.length_zipWith, List.length_take]
          exact sl_lt (by omega)
        · rw [upd_same, show y = V.int (g l[k] l2[k]) from o5, List.take_add_one, List.take_add_one, List.getElem?_eq_getElem hk, List.getElem?_eq_getElem hk2, List.zipWith_append (by rw [List.length_take, List.length_take]; omega), List.map_append]
          rfl
      · have lD := W.delL (W.fresh iv1 nD) lP
        rw [del_none nD] at lD
        refine .inl ⟨⟨_, _, hLa, hLb, .inl (by rw [List.length_map]; omega)⟩, q D H' (none_of (W.fresh iv1 nD) l1 nD) (W.fresh iv1 nD) (W.trans l1 lD) ?_⟩
        rw [eD, List.take_of_length_le (by omega), List.take_of_length_le (by omega)]
/-- another new list for the cell -/
theorem nvc_recell (h : FL (withC Ds [(i, xs)]) te ys) (hi : Nat.ble (i + 1) Ds.n = true := by rfl) : NVC Ds [(i, xs)] (tAsg te (gName i)) (Ds.set i none) [(i, ys)] := fun D σ H G ce iv en q => by
  have en1 := ce.env iv en
  have iv1 := W.step (ce.up iv) iv
  refine h σ H _ iv1 en1 fun r H1 nr fr l hr => ?_
  refine q _ H1 (del r H1) ⟨r, List.getElem?_set_self (by rw [en.1]; exact Nat.le_of_ble_eq_true hi), fr, hr, rfl⟩ (W.trans (ce.up iv) l) (en.st (W.trans (ce.up iv) l)).dropS
/-- for x, y in zip(l, m), l a list of things, both lists in slots -/
theorem nvc_zipV {ds : List (Dn W)} (E : Nat → EnvT W) (C : Nat → List (Nat × List V)) (h1 : Ds.get m = some (dLD ds)) (h2 : Ds.get m2 = some (dLst ys)) (hle : ds.length = ys.length) (h0 : ∀ σ H, EnvL Ds σ H → EnvL (E 0) σ H) (hC : CE W cs = CE W (C 0))
    (hs : ∀ k, ((C k).all fun c => !(Nat.beq c.1 i)) = true) (hs2 : ∀ k, ((C k).all fun c => !(Nat.beq c.1 j)) = true) (hb : ∀ k d y, ds[k]? = some d → ys[k]? = some y → NVC (((E k).set i (some d)).set j (some (dV y))) (C k) ts (E (k + 1)) (C (k + 1))) (hn : Nat.ble (m + 1) Ds.n = true := by rfl) (hn2 : Nat.ble (m2 + 1) Ds.n = true := by rfl) :
    NVC Ds cs (tFor (iZip K (tCons (tVar m) (tCons (tVar m2) tNil))) (gTup K 2 (gCons (gName i) (gCons (gName j) gNil))) ts) (E ds.length) (C ds.length) := fun D σ H G ce iv en q => by
  obtain ⟨v, e, a, xs, ea, ga, ha, ox⟩ := en.get h1 hn
  obtain ⟨v2, e2, b, eb, gb, hb2⟩ := en.get h2 hn2
  subst ea eb
  have lx := ox.length
  have upG : ∀ k σ' H' G', CE W (C k) σ' H' G' → W.L G G' → W.L G H' := fun k σ' H' G' cP lP => W.trans lP (cP.up (W.step lP iv))
  refine ⟨.ref a, e, .ref b, e2, a, b, xs, ys, rfl, SqL.of (W.keep ga (ce.up iv) ha), SqL.of (W.keep gb (ce.up iv) hb2), fun k m σ' H' => k + m = ds.length ∧ ∃ G', CE W (C k) σ' H' G' ∧ W.L G G' ∧ EnvL (E k) σ' G', ⟨ds.length, Nat.zero_add _, G, hC ▸ ce, W.refl G, h0 _ _ en⟩, fun k m σ' H' hW => ?_⟩
  obtain ⟨km, G', cP, lP, eP⟩ := hW
  have iv' := W.step lP iv
  have hLa : SqL K H' a xs := SqL.of (W.keep ga (upG k σ' H' G' cP lP) ha)
  have hLb : SqL K H' b ys := SqL.of (W.keep gb (upG k σ' H' G' cP lP) hb2)
  by_cases hk : k < ds.length
  · have hx : xs[k]? = some (xs[k]'(by omega)) := List.getElem?_eq_getElem (by omega)
    have hy : ys[k]? = some (ys[k]'(by omega)) := List.getElem?_eq_getElem (by omega)
    have hd1 : ds[k]? = some (ds[k]'(by omega)) := List.getElem?_eq_getElem (by omega)
    obtain ⟨x', hx', okx⟩ := (ox.st lP).get hd1
    rw [hx] at hx'
    cases hx'
    generalize xs[k]'(by omega) = x at hx okx
    generalize ys[k]'(by omega) = y at hy
    refine .inr ⟨⟨_, _, _, _, hLa, hLb, hx, hy⟩, fun σ2 H2 => ∃ G2, CE W (C (k + 1)) σ2 H2 G2 ∧ W.L G G2 ∧ EnvL (E (k + 1)) σ2 G2, fun σ2 H2 hN => ⟨m - 1, by omega, by omega, hN⟩, fun z H2 hyl => ?_⟩
    obtain ⟨T, x1, y1, ez, nT, eH, fx, fy⟩ := hyl
    subst ez eH
    have ex : x1 = x := by
      have h2 := fx _ hLa
      rw [hx] at h2
      exact (Option.some.inj h2).symm
    have ey : y1 = y := by
      have h2 := fy _ hLb
      rw [hy] at h2
      exact (Option.some.inj h2).symm
    subst ex ey
    have l3 : W.L H' (upd H' T (.tup [x1, y1])) := W.put (W.step (cP.up iv') iv') (W.refl _) nT
    obtain ⟨G3, c3, lG⟩ := cP.go l3
    refine ⟨T, _, rfl, .inl (.inl upd_same), rfl, _, _, rfl, _, _, rfl, rfl, ?_⟩
    exact hb k _ _ hd1 hy _ _ _ G3 ((c3.slot (hs k)).slot (hs2 k)) (W.step lG iv') (((eP.st lG).set (Dn.st _ lG okx)).set rfl) fun σ2 H2 G2 c2 l2 e2 => ⟨G2, c2, W.trans lP (W.trans lG l2), e2⟩
  · have kl : k = ds.length := by omega
    subst kl
    exact .inl ⟨⟨_, _, hLa, hLb, by omega⟩, q σ' H' G' cP lP eP⟩
end
/-! ### small things -/
def uLD (us : List UD) : UD := ⟨fun W => dLD (uDs us W), fun hD _ _ n ⟨a, xs, e, g, h, o⟩ => ⟨a, xs, e, ⟨g, ne_of_none h n⟩, h, uDs_lift hD n o⟩,
  fun hD _ _ _ ⟨a, xs, e, g, h, o⟩ => ⟨a, xs, e, g, by rw [upd_ne g.2]; exact h, uDs_stay hD o⟩, fun hD _ _ ⟨a, xs, e, g, h, o⟩ => ⟨a, xs, e, g.1, h, uDs_drop hD o⟩⟩
section
variable {Ds Es : EnvT W} {te : TE} {tt : TT} {t : TA} {ts tu : TS} {i j n : Nat} {K : PySem.W.Frag} {xs : List V} {l : List Int} {d : Dn W} {o : Option (List Int)}
theorem cd_listLT : CrD (W := W) (fun xs H Q => ∃ p ys, xs = [.ref p] ∧ (SqL K H p ys ∨ SqT K H p ys) ∧ ∀ l, H l = none → Q (.ref l) (upd H l (.lst ys))) [dLTx xs] (dLst xs) := fun vs H Q iv ok q => by
  match vs, ok with
  | [v], ⟨⟨a, e, g, h⟩, _⟩ =>
    subst e
    refine ⟨a, xs, rfl, h.elim (fun h => .inl (SqL.of h)) fun h => .inr (.inl (.inl h)), fun r nr => q _ _ (W.put iv (W.refl H) nr) ⟨r, rfl, W.fresh iv nr, upd_same⟩⟩
theorem ev_lcQT (hj : Ds.get j = some d) (q0 : Qs K xs d) (hz : xs.length ≤ 100000) (hb : ∀ x ∈ xs, EV (Ds.set i (some (dV x))) te (dB true)) (hn : Nat.ble (j + 1) Ds.n = true := by rfl) : EV Ds (tLc (iLT K (tVar j)) (gName i) tYes te [i]) (dBs (List.replicate xs.length true)) := by
  have := ev_lcQ (K := K) (i := i) (p := fun _ => true) (g := fun _ => V.bl true) hj q0 hz (fun _ _ => tv_yes) (fun x hx _ => hb x hx) hn
  rw [filt_true, List.map_const'] at this
  unfold dBs
  rw [List.map_replicate]
  exact this
end
section
variable {n : Nat} {l : List Int}
theorem tabP_P (h : EvP n) : (tabP n).length = n / 8 + 1 ∧ ∀ t ∈ tabP n, t.length = n + 1 ∧ ∀ x ∈ t, x.natAbs ≤ 4096 := by
  obtain ⟨m, hm, e⟩ := h.half
  subst e
  exact tabP_len m hm
end
end Vf
set_option Elab.async false
set_option linter.all false
set_option maxRecDepth 100000
set_option maxHeartbeats 4000000
set_option pp.maxSteps 300
namespace Vf
open PySem PySem.Spec PyProof.Rows L2
variable {W : Wd}
/-! ### shadow numbers of sums -/
structure ShZP (i : Nat × List Int) : Prop where
  ev : EvP i.1
  ln : i.2.length = i.1 / 8 + 1
  sm : ∀ x ∈ i.2, x.natAbs < 2 ^ 64
/-! the law's own -/
theorem ext_getD {A B : List Int} {n : Nat} (hA : A.length = n) (hB : B.length = n) (h : ∀ j, j < n → A.getD j 0 = B.getD j 0) : A = B := by
  refine List.ext_getElem? fun j => ?_
  by_cases c : j < n
  · rw [getD_some (l := A) (d := 0) (by omega), getD_some (l := B) (d := 0) (by omega), h j c]
  · rw [List.getElem?_eq_none (by omega), List.getElem?_eq_none (by omega)]
theorem mapD {A : List Int} {f : Int → Int} {j : Nat} (h : j < A.length) : (A.map f).getD j 0 = f (A.getD j 0) := by
  rw [List.getD_eq_getElem?_getD, List.getElem?_map, getD_some (l := A) (d := 0) h]
  rfl
/-! what they are like -/
/-! bounds -/
end Vf
set_option Elab.async false
set_option linter.all false
set_option maxRecDepth 100000
set_option maxHeartbeats 4000000
set_option pp.maxSteps 300
namespace Vf
open PySem PySem.Spec PyProof.Rows L2
variable {W : Wd}
section
variable {Ds : EnvT W} {te ti : TE} {tt : TT} {K : PySem.W.Frag} {l : List Int} {n k a b : Nat} {xs : List V}
theorem ev_repI {x : Int} (h : EV Ds te (dIs [x])) (h2 : EV Ds ti (dN n)) (hn : n ≤ 100000) : EV Ds (tOp rRep te ti) (dIs (List.replicate n x)) := ev_eqD (ev_fl (fl_rep (y := V.int x) h h2 hn)) (by show dLst _ = dLst _; rw [List.map_replicate])
theorem ev_slTI (h : EV Ds te (dIs l)) (h2 : EV Ds ti (dN k)) : EV Ds (tSl (rSlL K) te tNoPart (tPart ti)) (dIs (l.take k)) := fun σ H Q iv en q =>
  h σ H _ iv en fun v H1 l1 ⟨p, e, g, h1⟩ => h2 σ H1 _ (W.step l1 iv) (en.st l1) fun u H2 l2 e2 => by
    subst e
    have iv2 := W.step l2 (W.step l1 iv)
    refine ⟨(k : Int), e2, p, _, rfl, SqL.of (W.keep g l2 h1), fun r nr => q _ _ (W.trans l1 (W.trans l2 (W.put iv2 (W.refl _) nr))) ⟨r, rfl, W.fresh iv2 nr, ?_⟩⟩
    rw [upd_same, cutTo', List.map_take]
end
/-! a list or a tuple, as drawn -/
section
variable {Ds : EnvT W} {te : TE} {b : Bool} {l : List Int} {K : PySem.W.Frag}
end
/-! ### promises of the laws on sums -/
section
variable {p : Addr} {n m k : Nat} {A l : List Int} {b : Bool}
end
end Vf
set_option Elab.async false
set_option linter.all false
set_option maxRecDepth 100000
set_option maxHeartbeats 4000000
set_option pp.maxSteps 300
namespace Vf
open PySem PySem.Spec PyProof.Rows L2
variable {W : Wd}
section
variable {ι : Type} {R : ι → Prop} {f : ι → V} {Ds Es : EnvT W} {cs : List (Nat × List V)} {te ta tb : TE} {ts tu : TS} {i j k m : Nat} {K : PySem.W.Frag} {xs ys : List V} {l : List Int}
end
/-! ### the greatest sums -/
structure FvP (n : Nat) : Prop where
  n8 : 8 ≤ n
  n24 : n ≤ 24
  ev : n % 8 = 0
theorem FvP.even (h : FvP n) : EvP n := ⟨by have := h.n8; omega, h.n24, by have := h.ev; omega⟩
section
variable {n k : Nat} {l : List Int} {p : Addr} {ts : List (List Int)} {st : Nat}
end
end Vf
set_option Elab.async false
set_option linter.all false
set_option maxRecDepth 100000
set_option maxHeartbeats 4000000
set_option pp.maxSteps 300
namespace Vf
open PySem PySem.Spec PyProof.Rows L2
variable {W : Wd}
section
variable {ι : Type} {Pn : ι → Prop} {f : ι → Nat} {P : Int → Prop} {Ds : EnvT W} {te : TE} {t : TA} {tt : TT} {i j : Nat} {K : PySem.W.Frag} {l : List Int} {a m : Int} {xs : List V} {d : Dn W}
end
/-! bounds of what is taken out -/
theorem tkZ_bd {ts : List (List Int)} {step n B : Nat} {L : List Int} (h1 : ∀ t ∈ ts, t.length = n ∧ ∀ x ∈ t, x.natAbs ≤ 1000) (h : L.length = n) (hB : ∀ x ∈ L, x.natAbs ≤ B) : ∀ k, k ≤ ts.length → (∀ x ∈ (tkZ ts step L k).2, x.natAbs ≤ B * 1001 ^ k) ∧ ∀ x ∈ (tkZ ts step L k).1, x.natAbs ≤ B * 1001 ^ k
  | 0, _ => ⟨fun x hx => by rw [Nat.pow_zero, Nat.mul_one]; exact hB x hx, fun x hx => (List.not_mem_nil hx).elim⟩
  | k + 1, hk => by
    obtain ⟨a, b⟩ := tkZ_bd h1 h hB k (by omega)
    have lk := tkZ_len (step := step) (fun t ht => (h1 t ht).1) h k (by omega)
    have tt := h1 (ts.getD k []) (List.mem_of_getElem? (getD_some (by omega)))
    have up : B * 1001 ^ (k + 1) = B * 1001 ^ k + B * 1001 ^ k * 1000 := by rw [Nat.pow_succ, ← Nat.mul_assoc]; omega
    have f : ((tkZ ts step L k).2.getD (step * k) 0).natAbs ≤ B * 1001 ^ k := by
      by_cases c : step * k < (tkZ ts step L k).2.length
      · exact a _ (List.mem_of_getElem? (getD_some c))
      · rw [List.getD_eq_getElem?_getD, List.getElem?_eq_none (by omega)]
        exact Nat.zero_le _
    refine ⟨fun x hx => ?_, fun x hx => ?_⟩
    · have hx : x ∈ List.zipWith (fun x y => x - (tkZ ts step L k).2.getD (step * k) 0 * y) (tkZ ts step L k).2 (ts.getD k []) := hx
      generalize (tkZ ts step L k).2.getD (step * k) 0 = g at hx f
      obtain ⟨j, hj, e⟩ := List.mem_iff_getElem.mp hx
      rw [List.length_zipWith] at hj
      rw [List.getElem_zipWith] at e
      have e1 := a _ (List.getElem_mem (show j < (tkZ ts step L k).2.length by omega))
      have e2 := tt.2 _ (List.getElem_mem (show j < (ts.getD k []).length by omega))
      rw [← e, up]
      generalize (tkZ ts step L k).2[j] = u at e1
      generalize (ts.getD k [])[j] = v at e2
      have e3 : (g * v).natAbs ≤ B * 1001 ^ k * 1000 := by
        rw [Int.natAbs_mul]
        exact Nat.mul_le_mul f e2
      omega
    · have hx : x ∈ (tkZ ts step L k).1 ++ [(tkZ ts step L k).2.getD (step * k) 0] := hx
      rw [up]
      rcases List.mem_append.mp hx with h | h
      · have := b x h
        omega
      · rw [List.mem_singleton.mp h]
        omega
theorem tabP_sm : ∀ m < 12, ∀ t ∈ tabP (2 * (m + 1)), ∀ x ∈ t, x.natAbs ≤ 1000 := by decide +kernel
theorem tabP_1000 {n : Nat} (h : EvP n) : ∀ t ∈ tabP n, ∀ x ∈ t, x.natAbs ≤ 1000 := by
  obtain ⟨m, hm, e⟩ := h.half
  subst e
  exact tabP_sm m hm
theorem sumsZ_F {l f : List Int} {B : Nat} (h : AllN l) (hB : ∀ x ∈ l, x.natAbs ≤ B) (e : sumsZ l = some f) : f.length = (l.length - 1) / 8 + 1 ∧ ∀ x ∈ f, x.natAbs ≤ B * 1001 ^ 4 := by
  have l3 := h.l3
  have l25 := h.l25
  have od := h.odd
  have ev : EvP (l.length - 1) := ⟨by omega, by omega, by omega⟩
  obtain ⟨t1, t2⟩ := tabP_P ev
  unfold sumsZ ledZ at e
  split at e
  · cases e
  · have e := Option.some.inj e
    subst e
    refine ⟨by rw [tkZ_len1, t1], fun x hx => ?_⟩
    have b := (tkZ_bd (step := 2) (n := l.length) (fun t ht => ⟨by have := (t2 t ht).1; omega, tabP_1000 ev t ht⟩) rfl hB (tabP (l.length - 1)).length (Nat.le_refl _)).2 x hx
    refine Nat.le_trans b (Nat.mul_le_mul_left _ (Nat.pow_le_pow_right (by decide) ?_))
    omega
structure CanP (l : List Int) : Prop where
  al : AllN l
  sm : ∀ x ∈ l, x.natAbs ≤ 1000000
theorem CanP.sh {l f : List Int} (h : CanP l) (e : sumsZ l = some f) : ShZP (l.length - 1, f) := by
  obtain ⟨a, b⟩ := sumsZ_F h.al h.sm e
  have l3 := h.al.l3
  have l25 := h.al.l25
  have od := h.al.odd
  exact ⟨⟨by show 2 ≤ l.length - 1; omega, by show l.length - 1 ≤ 24; omega, by show (l.length - 1) % 2 = 0; omega⟩, a, fun x hx => Nat.lt_of_le_of_lt (b x hx) (by decide)⟩
section
variable {l : List Int} {p : Addr} {n m : Nat}
def RowB (n : Nat) (L : List (List Int)) : Prop := ∀ l ∈ L, l.length = n + 1 ∧ ∀ x ∈ l, x.natAbs ≤ 1000000
end
end Vf
set_option Elab.async false
set_option linter.all false
set_option maxRecDepth 100000
set_option maxHeartbeats 4000000
set_option pp.maxSteps 300
namespace Vf
open PySem PySem.Spec PyProof.Rows L2
variable {W : Wd}
section
variable {Ds : EnvT W} {te : TE} {t ta tb : TA} {tu : TS} {i j N : Nat} {K : PySem.W.Frag} {xs ys : List V} {d d1 : Dn W} {cs : List (Nat × List V)} {ι : Type} {R : ι → Prop} {f : ι → V}
end
section
variable {p : Addr} {n m : Nat}
theorem RowB.can {L : List (List Int)} {l : List Int} (ev : EvP n) (h : RowB n L) (hl : l ∈ L) : CanP l := by
  obtain ⟨a, b⟩ := h l hl
  have := ev.n2
  have := ev.n24
  have := ev.ev
  exact ⟨⟨by omega, by omega, by omega⟩, b⟩
end
end Vf
set_option Elab.async false
set_option linter.all false
set_option maxRecDepth 100000
set_option maxHeartbeats 4000000
set_option pp.maxSteps 300
/-! zip of a list and of a list or a tuple -/
namespace Vf
open PySem PySem.Spec PyProof.Rows L2
/-- a list (false) or a tuple (true), and what walks over it -/
def SqK (c : Bool) (h : Heap) (l : Addr) (xs : Array Value) : Prop := match c with | false => h.IsList l xs | true => h.IsTuple l xs
def ItK (c : Bool) (h : Heap) (a l : Addr) (k : Nat) : Prop := match c with | false => h.IsListIter a l k | true => h.IsTupleIter a l k
theorem SqK.at {c : Bool} {h h' : Heap} {l : Addr} {xs : Array Value} (x : SqK c h l xs) (e : ∀ o, h.get? l = some o → h'.get? l = some o) : SqK c h' l xs := by
  cases c with
  | false => exact let ⟨o, ho, r⟩ := x; ⟨o, e o ho, r⟩
  | true => exact let ⟨o, ho, r⟩ := x; ⟨o, e o ho, r⟩
theorem ItK.at {c : Bool} {h h' : Heap} {a l : Addr} {k : Nat} (x : ItK c h a l k) (e : ∀ o, h.get? a = some o → h'.get? a = some o) : ItK c h' a l k := by
  cases c with
  | false => exact Heap.IsListIter.at x e
  | true => exact Heap.IsTupleIter.at x e
theorem ItK.obj {c : Bool} {h : Heap} {a l : Addr} {k : Nat} (x : ItK c h a l k) : ∃ o f, h.get? a = some o ∧ o.data = .fields f := by
  cases c with
  | false => obtain ⟨o, ho, _, hd⟩ := (show h.IsListIter a l k from x); exact ⟨o, _, ho, hd⟩
  | true => obtain ⟨o, ho, _, hd⟩ := (show h.IsTupleIter a l k from x); exact ⟨o, _, ho, hd⟩
theorem SqK.lt {c : Bool} {h : Heap} {l : Addr} {xs : Array Value} (x : SqK c h l xs) : l < h.objs.size := by
  cases c with
  | false => exact let ⟨_, ho, _⟩ := (show h.IsList l xs from x); Heap.lt_size ho
  | true => exact let ⟨_, ho, _⟩ := (show h.IsTuple l xs from x); Heap.lt_size ho
section
variable {prog : Program} {w : World} {A : Around} {E : Value → Shared → Prop} {s : Shared} {c1 c2 : Bool} {z TI TO i1 i2 l1 l2 : Addr} {k1 k2 : Nat} {xs ys : Array Value} {x y a b : Value}
/-- what a turn leaves alone -/
def KeepZ (z TO i1 i2 : Addr) (h h' : Heap) : Prop := ∀ c o, c ≠ z → c ≠ TO → c ≠ i1 → c ≠ i2 → h.get? c = some o → h'.get? c = some o
theorem KeepZ.trans {h h' h'' : Heap} (p : KeepZ z TO i1 i2 h h') (q : KeepZ z TO i1 i2 h' h'') : KeepZ z TO i1 i2 h h'' := fun c o a1 a2 a3 a4 e => q c o a1 a2 a3 a4 (p c o a1 a2 a3 a4 e)
end
end Vf
set_option Elab.async false
set_option linter.all false
set_option maxRecDepth 100000
set_option maxHeartbeats 4000000
set_option pp.maxSteps 300
namespace Vf
open PySem PySem.Spec PyProof.Rows L2
/-! zip(list, tuple) called -/
section
variable {prog : Program} {w : World} {A : Around} {E : Value → Shared → Prop} {s : Shared}
end
/-! the walk -/
end Vf
set_option Elab.async false
set_option linter.all false
set_option maxRecDepth 100000
set_option maxHeartbeats 400000
set_option pp.maxSteps 300
namespace Vf
open PySem PySem.Spec PyProof.Rows L2
/-! the loop -/
section
variable {W : Wd} {Ds : EnvT W} {ts : TS} {cs : List (Nat × List V)} {i j m m2 : Nat} {K : PySem.W.Frag} {ys : List V}
end
end Vf
set_option Elab.async false
set_option linter.all false
set_option maxRecDepth 100000
set_option maxHeartbeats 4000000
set_option pp.maxSteps 300
namespace Vf
open PySem PySem.Spec PyProof.Rows L2
/-! what is taken out of a sum are its numbers -/
theorem adZ_getD {n j : Nat} {ts : List (List Int)} {fs tot : List Int} (h1 : ∀ t ∈ ts, t.length = n) (h : tot.length = n) (hj : j < n) : (adZ ts fs tot).getD j 0 = tot.getD j 0 + dotZ ts fs j := by
  rw [adZ_at h1 h, map_getD hj]
theorem zeros_getD (n j : Nat) : (List.replicate n (0 : Int)).getD j 0 = 0 := by
  rw [List.getD_eq_getElem?_getD, List.getElem?_replicate]
  split <;> rfl
theorem dot_lin {g : Int} : ∀ {ts : List (List Int)} {l m : List Int} {j : Nat}, l.length = m.length → dotZ ts (List.zipWith (fun x y => x + g * y) l m) j = dotZ ts l j + g * dotZ ts m j
  | [], l, m, j, _ => by
    show (0 : Int) = 0 + g * 0
    omega
  | t :: ts, [], [], j, _ => by
    show (0 : Int) = 0 + g * 0
    omega
  | t :: ts, x :: l, y :: m, j, h => by
    show (x + g * y) * t.getD j 0 + dotZ ts (List.zipWith (fun x y => x + g * y) l m) j = x * t.getD j 0 + dotZ ts l j + g * (y * t.getD j 0 + dotZ ts m j)
    rw [dot_lin (Nat.succ.inj h), Int.add_mul, Int.mul_add, Int.mul_assoc]
    generalize g * (y * t.getD j 0) = u
    omega
  | _ :: _, [], _ :: _, _, h => by cases h
  | _ :: _, _ :: _, [], _, h => by cases h
theorem adZ_lin {ts : List (List Int)} {l m : List Int} {n : Nat} {g : Int} (h1 : ∀ t ∈ ts, t.length = n) (h : l.length = m.length) :
    adZ ts (List.zipWith (fun x y => x + g * y) l m) (List.replicate n 0) = List.zipWith (fun x y => x + g * y) (adZ ts l (List.replicate n 0)) (adZ ts m (List.replicate n 0)) := by
  have z := List.length_replicate (n := n) (a := (0 : Int))
  rw [zw_at (adZ_len h1 z) (adZ_len h1 z), adZ_at h1 z]
  refine List.map_congr_left fun j hj => ?_
  have hj := List.mem_range.mp hj
  rw [adZ_getD h1 z hj, adZ_getD h1 z hj, zeros_getD, dot_lin h]
  rw [Int.zero_add, Int.zero_add, Int.zero_add]
/-! the promises, the numbers a list or a tuple -/
section
variable {W : Wd} {n : Nat} {l fs : List Int} {ts : List (List Int)} {K : PySem.W.Frag} {b : Bool} {te : TE} {Ds : EnvT W} {t : TA} {p : Addr}
end
end Vf
set_option Elab.async false
set_option linter.all false
set_option maxRecDepth 100000
set_option maxHeartbeats 4000000
set_option pp.maxSteps 300
namespace Vf
open PySem PySem.Spec PyProof.Rows L2
/-! sums by fours -/
theorem adZ_bdC {F B C : Nat} : ∀ {ts : List (List Int)} {fs tot : List Int}, (∀ t ∈ ts, ∀ x ∈ t, x.natAbs ≤ C) → (∀ f ∈ fs, f.natAbs ≤ F) → (∀ x ∈ tot, x.natAbs ≤ B) → ∀ x ∈ adZ ts fs tot, x.natAbs ≤ B + fs.length * (F * C)
  | t :: ts, f :: fs, tot, h1, h2, h3 => by
    intro x hx
    have hx : x ∈ adZ ts fs (List.zipWith (fun x y => x + f * y) tot t) := hx
    have r := adZ_bdC (F := F) (C := C) (B := B + F * C) (ts := ts) (fs := fs) (fun t ht => h1 t (List.mem_cons_of_mem _ ht)) (fun f hf => h2 f (List.mem_cons_of_mem _ hf)) (tot := List.zipWith (fun x y => x + f * y) tot t) (fun y hy => ?_) x hx
    · rw [List.length_cons, Nat.add_mul]
      omega
    · obtain ⟨j, hj, e⟩ := List.mem_iff_getElem.mp hy
      rw [List.length_zipWith] at hj
      rw [List.getElem_zipWith] at e
      have e1 := h3 _ (List.getElem_mem (show j < tot.length by omega))
      have e2 := h1 t (List.mem_cons_self ..) _ (List.getElem_mem (show j < t.length by omega))
      have e3 := h2 f (List.mem_cons_self ..)
      rw [← e]
      generalize tot[j] = u at e1
      generalize t[j] = v at e2
      have e4 : (f * v).natAbs ≤ F * C := by
        rw [Int.natAbs_mul]
        exact Nat.mul_le_mul e3 e2
      omega
  | [], fs, tot, _, _, h3 => fun x hx => by
    have hx : x ∈ tot := hx
    have := h3 x hx
    omega
  | _ :: _, [], tot, _, _, h3 => fun x hx => by
    have hx : x ∈ tot := hx
    have := h3 x hx
    omega
structure AllF (l : List Int) : Prop where
  fv : FvP (l.length - 1)
  ln : l.length = l.length - 1 + 1
theorem AllF.of {n : Nat} {l : List Int} (h : FvP n) (hl : l.length = n + 1) : AllF l := ⟨by rw [hl, Nat.add_sub_cancel]; exact h, by omega⟩
section
variable {W : Wd} {K : PySem.W.Frag} {l : List Int} {n : Nat}
end
end Vf
set_option Elab.async false
set_option linter.all false
set_option maxRecDepth 100000
set_option maxHeartbeats 4000000
set_option pp.maxSteps 300
namespace Vf
open PySem PySem.Spec PyProof.Rows L2
/-! shadow numbers that are whole, and back -/
/-! changed rows of whole sums -/
def chgT (n : Nat) : List (List Int) := (List.range (n + 1)).map fun k => mulZ (powZ [1, 1] (n - k)) (powZ [1, -1] k)
theorem chg_ok : ∀ n < 25, (chgT n).length = n + 1 ∧ ∀ t ∈ chgT n, t.length = n + 1 ∧ smZ t := by decide +kernel
end Vf
set_option Elab.async false
set_option linter.all false
set_option maxRecDepth 100000
set_option maxHeartbeats 4000000
set_option pp.maxSteps 300
namespace Vf
open PySem PySem.Spec PyProof.Rows L2
variable {W : Wd}
section
variable {ι : Type} {P : ι → Prop} {i N j k : Nat} {ue : List (Nat × UD)} {us : List UD} {ta tb : TE}
end
/-! changed rows, by linear steps -/
def chgZ (n : Nat) (L : List Int) : List Int := adZ (chgT n) L (List.replicate (n + 1) 0)
theorem map_getDL {α : Type} {xs : List α} {f : α → List Int} {k : Nat} {d : α} (h : k < xs.length) : (xs.map f).getD k [] = f (xs.getD k d) := by
  rw [List.getD_eq_getElem?_getD, List.getElem?_map, List.getD_eq_getElem?_getD, List.getElem?_eq_getElem h]
  rfl
/-! promises -/
section
variable {n k : Nat} {l L : List Int} {p : Addr}
end
end Vf
set_option Elab.async false
set_option linter.all false
set_option maxRecDepth 100000
set_option maxHeartbeats 4000000
set_option pp.maxSteps 300
namespace Vf
open PySem PySem.Spec PyProof.Rows L2
variable {W : Wd}
/-! the drawn ones -/
/-! which are not nought -/
end Vf
set_option Elab.async false
set_option linter.all false
set_option maxRecDepth 100000
set_option maxHeartbeats 4000000
set_option pp.maxSteps 300
namespace Vf
open PySem PySem.Spec PyProof.Rows L2
/-! a row that is changed to itself is a whole sum of products -/
def spread : List Int → List Int
  | [] => []
  | [x] => [x]
  | x :: y :: l => x :: 0 :: spread (y :: l)
def dotV : List Int → List Int → Int
  | x :: a, y :: b => x * y + dotV a b
  | _, _ => 0
/-- what the table tells: with these factors all the other numbers go -/
def glV (n : Nat) (C : List Int) : List Int := List.zipWith (fun x y => x - ((2 ^ (n / 2) : Nat) : Int) * y) ((chgT n).map (dotV C)) C
def GlP (n i : Nat) (D : Int) (C : List Int) : Prop := ∀ k < n + 1, k % 2 = 0 → 2 * (n / 8) < k → (glV n C).getD k 0 = if k = 2 * (n / 8 + 1 + i) then D else 0
instance (n i : Nat) (D : Int) (C : List Int) : Decidable (GlP n i D C) := inferInstanceAs (Decidable (∀ k < n + 1, k % 2 = 0 → 2 * (n / 8) < k → (glV n C).getD k 0 = if k = 2 * (n / 8 + 1 + i) then D else 0))
def GlQ (n i : Nat) (p : Int × List Int) : Prop := 0 < p.1 ∧ (spread p.2).length = n + 1 ∧ GlP n i p.1 (spread p.2)
instance (n i : Nat) (p : Int × List Int) : Decidable (GlQ n i p) := inferInstanceAs (Decidable (_ ∧ _ ∧ _))
end Vf
set_option Elab.async false
set_option linter.all false
set_option maxRecDepth 100000
set_option maxHeartbeats 4000000
set_option pp.maxSteps 300
namespace Vf
open PySem PySem.Spec PyProof.Rows L2
structure SelfR (n : Nat) (r : List Int) : Prop where
  ln : r.length = n + 1
  odd : ∀ k, k % 2 = 1 → r.getD k 0 = 0
  chg : chgZ n r = r.map (((2 ^ (n / 2) : Nat) : Int) * ·)
theorem SelfR.sub {n : Nat} {A B : List Int} {f : Int} (h : EvP n) (ha : SelfR n A) (hb : SelfR n B) : SelfR n (List.zipWith (fun x y => x - f * y) A B) := by
  have n24 := h.n24
  obtain ⟨c1, c2⟩ := chg_ok n (by omega)
  have cl : ∀ t ∈ chgT n, t.length = n + 1 := fun t ht => (c2 t ht).1
  have e : (fun x y : Int => x - f * y) = fun x y => x + -f * y := funext fun x => funext fun y => by rw [Int.neg_mul]; rfl
  have lz : (List.zipWith (fun x y => x - f * y) A B).length = n + 1 := by rw [List.length_zipWith, ha.ln, hb.ln, Nat.min_self]
  refine ⟨lz, fun k hk => ?_, ?_⟩
  · by_cases c : k < n + 1
    · rw [zw_at ha.ln hb.ln, map_getD c, ha.odd k hk, hb.odd k hk]
      omega
    · rw [List.getD_eq_getElem?_getD, List.getElem?_eq_none (by omega)]
      rfl
  · have ca := ha.chg
    have cb := hb.chg
    unfold chgZ at ca cb ⊢
    rw [e, adZ_lin cl (ha.ln.trans hb.ln.symm), ca, cb, ← e]
    refine ext_getD (n := n + 1) (by rw [List.length_zipWith, List.length_map, List.length_map, ha.ln, hb.ln, Nat.min_self]) (by rw [List.length_map, lz]) fun j hj => ?_
    rw [zw_at (by rw [List.length_map, ha.ln]) (by rw [List.length_map, hb.ln]), map_getD hj, mapD (by rw [ha.ln]; exact hj), mapD (by rw [hb.ln]; exact hj), mapD (by rw [lz]; exact hj), zw_at ha.ln hb.ln, map_getD hj, Int.mul_sub, Int.mul_left_comm]
/-! ### products of polynomials, by sums -/
def dF : List Int → (Nat → Int) → Int
  | [], _ => 0
  | x :: l, c => x * c 0 + dF l fun k => c (k + 1)
theorem dF_congr : ∀ {l : List Int} {c d : Nat → Int}, (∀ k < l.length, c k = d k) → dF l c = dF l d
  | [], _, _, _ => rfl
  | x :: l, c, d, h => by
    show x * c 0 + dF l _ = x * d 0 + dF l _
    rw [h 0 (Nat.zero_lt_succ _), dF_congr fun k hk => h (k + 1) (Nat.succ_lt_succ hk)]
theorem dF_zero : ∀ {l : List Int} {c : Nat → Int}, (∀ k < l.length, c k = 0) → dF l c = 0
  | [], _, _ => rfl
  | x :: l, c, h => by
    show x * c 0 + dF l _ = 0
    rw [h 0 (Nat.zero_lt_succ _), dF_zero fun k hk => h (k + 1) (Nat.succ_lt_succ hk)]
    omega
theorem dF_mul {g : Int} : ∀ {l : List Int} {c : Nat → Int}, dF l (fun k => g * c k) = g * dF l c
  | [], _ => by
    show (0 : Int) = g * 0
    omega
  | x :: l, c => by
    show x * (g * c 0) + dF l (fun k => g * c (k + 1)) = g * (x * c 0 + dF l _)
    rw [dF_mul, Int.mul_add, Int.mul_left_comm]
theorem dF_null : ∀ {l : List Int} {c : Nat → Int}, (∀ x ∈ l, x = 0) → dF l c = 0
  | [], _, _ => rfl
  | x :: l, c, h => by
    show x * c 0 + dF l _ = 0
    rw [h x (List.mem_cons_self ..), dF_null fun y hy => h y (List.mem_cons_of_mem _ hy)]
    omega
theorem dF_lin {f : Int} : ∀ {A B : List Int} {c : Nat → Int}, A.length = B.length → dF (List.zipWith (fun x y => x + f * y) A B) c = dF A c + f * dF B c
  | [], [], _, _ => by
    show (0 : Int) = 0 + f * 0
    omega
  | x :: A, y :: B, c, h => by
    show (x + f * y) * c 0 + dF (List.zipWith _ A B) _ = x * c 0 + dF A _ + f * (y * c 0 + dF B _)
    rw [dF_lin (Nat.succ.inj h), Int.add_mul, Int.mul_add, Int.mul_assoc]
    omega
  | [], _ :: _, _, h => by cases h
  | _ :: _, [], _, h => by cases h
theorem dF_set : ∀ {l : List Int} {a : Nat} {v : Int} {c : Nat → Int}, a < l.length → dF (l.set a v) c = dF l c + (v - l.getD a 0) * c a
  | [], a, v, c, h => absurd h (Nat.not_lt_zero _)
  | x :: l, 0, v, c, h => by
    show v * c 0 + dF l _ = x * c 0 + dF l _ + (v - x) * c 0
    rw [Int.sub_mul]
    omega
  | x :: l, a + 1, v, c, h => by
    show x * c 0 + dF (l.set a v) _ = x * c 0 + dF l _ + (v - l.getD a 0) * c (a + 1)
    rw [dF_set (Nat.lt_of_succ_lt_succ h)]
    omega
theorem dF_inZ (x : Int) : ∀ {B : List Int} {a : Nat} {L : List Int} {c : Nat → Int}, a + B.length ≤ L.length → dF (inZ x a L B) c = dF L c + x * dF B fun k => c (a + k)
  | [], a, L, c, _ => by
    show dF L c = dF L c + x * 0
    omega
  | b :: B, a, L, c, h => by
    rw [List.length_cons] at h
    show dF (inZ x (a + 1) (L.set a (L.getD a 0 + x * b)) B) c = dF L c + x * (b * c a + dF B fun k => c (a + (k + 1)))
    rw [dF_inZ x (by rw [List.length_set]; omega), dF_set (by omega), Int.mul_add, show L.getD a 0 + x * b - L.getD a 0 = x * b by omega, Int.mul_assoc, show (fun k => c (a + 1 + k)) = fun k => c (a + (k + 1)) from funext fun k => by rw [Nat.add_assoc, Nat.add_comm 1 k]]
    omega
theorem dF_outZ {B : List Int} : ∀ {A : List Int} {a : Nat} {L : List Int} {c : Nat → Int}, a + A.length + B.length ≤ L.length + 1 → dF (outZ B a L A) c = dF L c + dF A fun i => dF B fun j => c (a + i + j)
  | [], a, L, c, _ => by
    show dF L c = dF L c + 0
    omega
  | x :: A, a, L, c, h => by
    rw [List.length_cons] at h
    show dF (outZ B (a + 1) (inZ x a L B) A) c = dF L c + (x * (dF B fun j => c (a + 0 + j)) + dF A fun i => dF B fun j => c (a + (i + 1) + j))
    rw [dF_outZ (by rw [inZ_len]; omega), dF_inZ x (by omega), show (fun i => dF B fun j => c (a + 1 + i + j)) = fun i => dF B fun j => c (a + (i + 1) + j) from funext fun i => congrArg (dF B) (funext fun j => by rw [Nat.add_assoc a 1 i, Nat.add_comm 1 i])]
    simp only [Nat.add_zero]
    omega
theorem dF_zeros (n : Nat) (c : Nat → Int) : dF (List.replicate n 0) c = 0 := dF_null fun x hx => List.eq_of_mem_replicate hx
theorem dF_mulZ {A B : List Int} {c : Nat → Int} : dF (mulZ A B) c = dF A fun i => dF B fun j => c (i + j) := by
  unfold mulZ
  by_cases h : A.length + B.length = 0
  · have a : A = [] := List.length_eq_zero_iff.mp (by omega)
    subst a
    exact dF_zeros _ _
  · rw [dF_outZ (by rw [List.length_replicate]; omega), dF_zeros, Int.zero_add]
    simp only [Nat.zero_add]
def dl (t k : Nat) : Int := if k = t then 1 else 0
theorem dF_at : ∀ {l : List Int} {t : Nat}, dF l (dl t) = l.getD t 0
  | [], _ => rfl
  | x :: l, 0 => by
    show x * dl 0 0 + dF l _ = x
    rw [dF_zero (c := fun k => dl 0 (k + 1)) fun k _ => if_neg (Nat.succ_ne_zero k), show dl 0 0 = 1 from rfl]
    omega
  | x :: l, t + 1 => by
    show x * dl (t + 1) 0 + dF l (fun k => dl (t + 1) (k + 1)) = l.getD t 0
    rw [show (fun k => dl (t + 1) (k + 1)) = dl t from funext fun k => by
      unfold dl
      by_cases h : k = t
      · rw [if_pos h, if_pos (congrArg Nat.succ h)]
      · rw [if_neg h, if_neg fun z => h (Nat.succ.inj z)], dF_at, show dl (t + 1) 0 = 0 from rfl]
    omega
theorem mulZ_at {A B : List Int} {t : Nat} : (mulZ A B).getD t 0 = dF A fun i => dF B fun j => dl t (i + j) := by
  rw [← dF_at, dF_mulZ]
end Vf
set_option Elab.async false
set_option linter.all false
set_option maxRecDepth 100000
set_option maxHeartbeats 4000000
set_option pp.maxSteps 300
namespace Vf
open PySem PySem.Spec PyProof.Rows L2
end Vf
set_option Elab.async false
set_option linter.all false
set_option maxRecDepth 100000
set_option maxHeartbeats 4000000
set_option pp.maxSteps 300
namespace Vf
open PySem PySem.Spec PyProof.Rows L2
end Vf
set_option Elab.async false
set_option linter.all false
set_option maxRecDepth 100000
set_option maxHeartbeats 4000000
set_option pp.maxSteps 300
namespace Vf
open PySem PySem.Spec PyProof.Rows L2
/-! the shadow row by the row -/
end Vf
set_option Elab.async false
set_option linter.all false
set_option maxRecDepth 100000
set_option maxHeartbeats 4000000
set_option pp.maxSteps 300
namespace Vf
open PySem PySem.Spec PyProof.Rows L2
section
variable {n j : Nat} {B : List Nat}
end
end Vf
set_option Elab.async false
set_option linter.all false
set_option maxRecDepth 100000
set_option maxHeartbeats 4000000
set_option pp.maxSteps 300
namespace Vf
open PySem PySem.Spec PyProof.Rows L2
variable {W : Wd}
/-! kinds as texts -/
section
variable {p : Addr}
end
end Vf
set_option Elab.async false
set_option linter.all false
set_option maxRecDepth 100000
set_option maxHeartbeats 4000000
set_option pp.maxSteps 300
namespace Vf
open PySem PySem.Spec PyProof.Rows L2
variable {W : Wd}
section
variable {ι : Type} {P : ι → Prop} {f : ι → List V} {N i j : Nat} {ue : List (Nat × UD)} {cs : List (Nat × List V)} {te : TE} {ts : TS} {K : PySem.W.Frag}
theorem wle_trans {W1 W2 W3 : Wd} (a : Wle W1 W2) (b : Wle W2 W3) : Wle W1 W3 := fun q h => b q (a q h)
/-- what is told of a world that keeps away from every cell -/
structure OffW (W W' : Wd) (cs : List (Nat × List V)) (σ : L2.St) : Prop where
  le : Wle W W'
  L : ∀ {H1 H2}, W'.L H1 H2 → W.L H1 H2
  F : ∀ {a}, W'.F a → W.F a ∧ ∀ c ∈ cs, σ[c.1]? ≠ some (some (.ref a))
theorem ce_off : ∀ {cs : List (Nat × List V)} {σ : L2.St} {H G : Hp}, CE W cs σ H G → W.inv G → EnvL (uEnv N ue W) σ G → ∃ W' : Wd, OffW W W' cs σ ∧ W'.inv H ∧ EnvL (uEnv N ue W') σ H
  | [], σ, H, G, h, iv, en => by
    have h : G = H := h
    subst h
    exact ⟨W, ⟨wle_refl, fun l => l, fun f => ⟨f, fun c hc => absurd hc (List.not_mem_nil)⟩⟩, iv, en⟩
  | c :: cs, σ, H, G, ⟨p, e, fp, hp, h⟩, iv, en => by
    obtain ⟨W1, o1, iv1, en1⟩ := ce_off h iv en
    have f1 : W1.F p := W1.fresh iv1 del_same
    have l1 : W1.L (del p H) H := L_del iv1 hp
    have ivH := W1.step l1 iv1
    have en2 := uEnv_stay (o := .lst c.2) f1 (uEnv_lift f1 del_same en1)
    rw [upd_del hp] at en2
    refine ⟨awayW W1 p f1, ⟨wle_trans o1.le (away_le f1), fun l => o1.L l, fun {a} f => ?_⟩, ⟨ivH, _, hp⟩, en2⟩
    obtain ⟨fa, na⟩ := f
    obtain ⟨g1, g2⟩ := o1.F fa
    refine ⟨g1, fun d hd => ?_⟩
    rcases List.mem_cons.mp hd with rfl | hd
    · rw [e]
      intro z
      cases z
      exact na rfl
    · exact g2 d hd
theorem ce_same {a : Addr} : ∀ {cs : List (Nat × List V)} {σ : L2.St} {H G : Hp}, CE W cs σ H G → (∀ c ∈ cs, σ[c.1]? ≠ some (some (.ref a))) → G a = H a
  | [], σ, H, G, h, _ => by
    have h : G = H := h
    rw [h]
  | c :: cs, σ, H, G, ⟨p, e, fp, hp, h⟩, k => by
    have ne : a ≠ p := fun z => k c (List.mem_cons_self ..) (z ▸ e)
    rw [ce_same h fun d hd => k d (List.mem_cons_of_mem _ hd), del_ne ne]
end
/-! the words by fours -/
section
variable {n j : Nat} {B L : List Nat}
def f4 (L : List Nat) : List Nat := L.filter fun v => decide (pc v % 4 = 0)
abbrev iz (l : List Nat) : List Int := l.map fun x : Nat => (x : Int)
theorem iz_len (l : List Nat) : (iz l).length = l.length := List.length_map ..
end
theorem dVs_iz (l : List Nat) : (dVs l : Dn W) = dIs (iz l) := congrArg dLst (vs_ints l)
section
variable {n : Nat} {B : List Nat} {p : Addr} {C : Addr}
end
end Vf
set_option Elab.async false
set_option linter.all false
set_option maxRecDepth 100000
set_option maxHeartbeats 4000000
set_option pp.maxSteps 300
namespace Vf
open PySem PySem.Spec PyProof.Rows L2
theorem le_sum_mem : ∀ {l : List Nat} {y : Nat}, y ∈ l → y ≤ l.sum
  | x :: l, y, h => by
    rw [List.sum_cons]
    rcases List.mem_cons.mp h with rfl | h
    · omega
    · have := le_sum_mem h
      omega
end Vf
set_option Elab.async false
set_option linter.all false
set_option maxRecDepth 100000
set_option maxHeartbeats 4000000
set_option pp.maxSteps 300
namespace Vf
open PySem PySem.Spec PyProof.Rows L2
theorem dF_ad {c : Nat → Int} {n : Nat} : ∀ {ts : List (List Int)} {fs tot : List Int}, (∀ t ∈ ts, t.length = n) → tot.length = n → fs.length ≤ ts.length → dF (adZ ts fs tot) c = dF tot c + dF fs fun p => dF (ts.getD p []) c
  | ts, [], tot, _, _, _ => by
    cases ts with
    | nil => exact (Int.add_zero _).symm
    | cons t ts => exact (Int.add_zero _).symm
  | [], f :: fs, tot, _, _, h => by cases h
  | t :: ts, f :: fs, tot, h1, h2, h => by
    have ht := h1 t (List.mem_cons_self ..)
    show dF (adZ ts fs (List.zipWith (fun x y => x + f * y) tot t)) c = dF tot c + (f * dF t c + dF fs fun p => dF (ts.getD p []) c)
    rw [dF_ad (fun s hs => h1 s (List.mem_cons_of_mem _ hs)) (by rw [List.length_zipWith, h2, ht, Nat.min_self]) (Nat.le_of_succ_le_succ h), dF_lin (h2.trans ht.symm)]
    omega
end Vf
set_option Elab.async false
set_option linter.all false
set_option maxRecDepth 100000
set_option maxHeartbeats 4000000
set_option pp.maxSteps 300
namespace Vf
open PySem PySem.Spec PyProof.Rows L2
variable {W : Wd}
section
variable {n m : Nat} {A B : List Nat} {w l : List Int}
end
section
variable {n : Nat} {B : List Nat} {p : Addr} {C : Addr}
end
end Vf
set_option Elab.async false
set_option linter.all false
set_option maxRecDepth 100000
set_option maxHeartbeats 4000000
set_option pp.maxSteps 300
namespace Vf
open PySem PySem.Spec PyProof.Rows L2
/-! ### products cut off: power series -/
theorem dF_cut : ∀ {A : List Int} {N : Nat} {g : Nat → Int}, (∀ i, N ≤ i → g i = 0) → dF A g = dF ((List.range N).map fun i => A.getD i 0) g
  | [], N, g, _ => (dF_null fun x hx => by
      obtain ⟨i, _, e⟩ := List.mem_map.mp hx
      exact e.symm).symm
  | x :: A, 0, g, h => dF_zero fun k _ => h k (Nat.zero_le _)
  | x :: A, N + 1, g, h => by
    rw [List.range_succ_eq_map, List.map_cons, List.map_map]
    show x * g 0 + dF A (fun k => g (k + 1)) = x * g 0 + dF ((List.range N).map fun i => A.getD i 0) fun k => g (k + 1)
    rw [dF_cut fun i hi => h (i + 1) (Nat.succ_le_succ hi)]
def cvI (f g : Nat → Int) (t : Nat) : Int := dF ((List.range (t + 1)).map f) fun i => g (t - i)
theorem cvI_congr {f f' g g' : Nat → Int} {t : Nat} (h : ∀ i, i ≤ t → f i = f' i) (h2 : ∀ i, i ≤ t → g i = g' i) : cvI f g t = cvI f' g' t := by
  unfold cvI
  rw [List.map_congr_left fun i hi => h i (by have := List.mem_range.mp hi; omega)]
  exact dF_congr fun k hk => h2 _ (by omega)
theorem dF_dl {B : List Int} {t i : Nat} : (dF B fun j => dl t (i + j)) = if i ≤ t then B.getD (t - i) 0 else 0 := by
  by_cases c : i ≤ t
  · rw [if_pos c, ← dF_at]
    refine dF_congr fun k _ => ?_
    unfold dl
    by_cases h : k = t - i
    · rw [if_pos h, if_pos (by omega)]
    · rw [if_neg h, if_neg (by omega)]
  · rw [if_neg c]
    refine dF_zero fun k _ => ?_
    unfold dl
    rw [if_neg (by omega)]
theorem mulZ_cv (A B : List Int) (t : Nat) : (mulZ A B).getD t 0 = cvI (fun i => A.getD i 0) (fun i => B.getD i 0) t := by
  rw [mulZ_at, dF_cut (N := t + 1) fun i hi => by rw [dF_dl, if_neg (by omega)]]
  unfold cvI
  refine dF_congr fun k hk => ?_
  rw [List.length_map, List.length_range] at hk
  rw [dF_dl, if_pos (by omega)]
def pf (w : Nat → Int) : Nat → Nat → Int
  | 0 => fun t => if t = 0 then 1 else 0
  | k + 1 => cvI (pf w k) w
theorem pf_congr {w w' : Nat → Int} : ∀ {k t : Nat}, (∀ i, i ≤ t → w i = w' i) → pf w k t = pf w' k t
  | 0, t, _ => rfl
  | k + 1, t, h => cvI_congr (fun i hi => pf_congr fun j hj => h j (by omega)) h
def cutM (m : Nat) (A B : List Int) : List Int := (mulZ A B).take (m + 1)
theorem take_getD {l : List Int} {m t : Nat} (h : t < m) : (l.take m).getD t 0 = l.getD t 0 := by
  rw [List.getD_eq_getElem?_getD, List.getD_eq_getElem?_getD, List.getElem?_take, if_pos h]
theorem cutM_at {m t : Nat} (A B : List Int) (h : t ≤ m) : (cutM m A B).getD t 0 = cvI (fun i => A.getD i 0) (fun i => B.getD i 0) t := by
  unfold cutM
  rw [take_getD (by omega), mulZ_cv]
theorem cutM_len {m : Nat} {A B : List Int} (hA : A.length = m + 1) (hB : B.length = m + 1) : (cutM m A B).length = m + 1 := by
  unfold cutM
  rw [List.length_take, mulZ_len, hA, hB]
  omega
def pwT (ways : List Int) (m : Nat) : Nat → List Int
  | 0 => 1 :: List.replicate m 0
  | k + 1 => cutM m (pwT ways m k) ways
theorem pwT_len {ways : List Int} {m : Nat} (h : ways.length = m + 1) : ∀ k, (pwT ways m k).length = m + 1
  | 0 => by
    show (1 :: List.replicate m (0 : Int)).length = m + 1
    rw [List.length_cons, List.length_replicate]
  | k + 1 => cutM_len (pwT_len h k) h
theorem one_at (m t : Nat) : (1 :: List.replicate m (0 : Int)).getD t 0 = if t = 0 then 1 else 0 := by
  cases t with
  | zero => rfl
  | succ t =>
    rw [if_neg (Nat.succ_ne_zero t)]
    exact zeros_getD m t
theorem pwT_at {ways : List Int} {m : Nat} : ∀ {k t : Nat}, t ≤ m → (pwT ways m k).getD t 0 = pf (fun i => ways.getD i 0) k t
  | 0, t, _ => one_at m t
  | k + 1, t, h => by
    show (cutM m (pwT ways m k) ways).getD t 0 = cvI (pf _ k) _ t
    rw [cutM_at _ _ h]
    exact cvI_congr (fun i hi => pwT_at (by omega)) fun _ _ => rfl
/-- ways of one number, by its square -/
def sqS (f m : Nat) : Nat → List Int
  | 0 => List.replicate (m + 1) 0
  | k + 1 => if (f + 2 * k) * (f + 2 * k) ≤ m then (sqS f m k).set ((f + 2 * k) * (f + 2 * k)) (if f + 2 * k = 0 then 1 else 2) else sqS f m k
theorem sqS_len (f m : Nat) : ∀ k, (sqS f m k).length = m + 1
  | 0 => List.length_replicate
  | k + 1 => by
    show (if _ then _ else _ : List Int).length = _
    split
    · rw [List.length_set, sqS_len f m k]
    · exact sqS_len f m k
def sqW (f m : Nat) : List Int := sqS f m ((m + 2 - f) / 2)
def sq (f t : Nat) : Int := if ((List.range (t + 1)).any fun r => decide (r % 2 = f % 2) && decide (r * r = t)) = true then (if t = 0 then 1 else 2) else 0
theorem sqW_all : ∀ m < 25, ∀ f < 2, (∀ t < m + 1, (sqW f m).getD t 0 = sq f t) ∧ (∀ x ∈ sqW f m, 0 ≤ x) ∧ (sqW f m).sum ≤ 5 := by decide +kernel
theorem sqW_len (f m : Nat) : (sqW f m).length = m + 1 := sqS_len ..
/-! numbers not below nought, their sum known -/
structure NnB (l : List Int) (b : Int) : Prop where
  nn : ∀ x ∈ l, 0 ≤ x
  sm : l.sum ≤ b
theorem dF_one : ∀ l : List Int, (dF l fun _ => 1) = l.sum
  | [] => rfl
  | x :: l => by
    show x * 1 + dF l (fun _ => 1) = x + l.sum
    rw [dF_one l]
    omega
theorem dF_nn : ∀ {l : List Int} {c : Nat → Int}, (∀ x ∈ l, 0 ≤ x) → (∀ k, 0 ≤ c k) → 0 ≤ dF l c
  | [], _, _, _ => Int.le_refl 0
  | x :: l, c, h, h2 => by
    show 0 ≤ x * c 0 + dF l _
    have a := Int.mul_nonneg (h x (List.mem_cons_self ..)) (h2 0)
    have b := dF_nn (l := l) (c := fun k => c (k + 1)) (fun y hy => h y (List.mem_cons_of_mem _ hy)) fun k => h2 (k + 1)
    omega
theorem sum_nn {l : List Int} (h : ∀ x ∈ l, 0 ≤ x) : 0 ≤ l.sum := by
  rw [← dF_one]
  exact dF_nn h fun _ => by omega
theorem sum_mulZ (A B : List Int) : (mulZ A B).sum = A.sum * B.sum := by
  rw [← dF_one, dF_mulZ]
  show (dF A fun _ => dF B fun _ => 1) = _
  rw [dF_one B, ← dF_one A, Int.mul_comm, ← dF_mul]
  exact dF_congr fun _ _ => (Int.mul_one _).symm
theorem mem_getD {l : List Int} {x : Int} (h : x ∈ l) : ∃ t, t < l.length ∧ l.getD t 0 = x := by
  obtain ⟨t, ht, e⟩ := List.mem_iff_getElem.mp h
  exact ⟨t, ht, by rw [List.getD_eq_getElem?_getD, List.getElem?_eq_getElem ht, e]; rfl⟩
theorem NnB.mul {A B : List Int} {a b : Int} (hA : NnB A a) (hB : NnB B b) : NnB (mulZ A B) (a * b) := by
  refine ⟨fun x hx => ?_, ?_⟩
  · obtain ⟨t, _, e⟩ := mem_getD hx
    rw [← e, mulZ_at]
    refine dF_nn hA.nn fun i => dF_nn hB.nn fun j => ?_
    unfold dl
    split <;> omega
  · rw [sum_mulZ]
    have s1 := sum_nn hA.nn
    have s2 := sum_nn hB.nn
    have := hA.sm
    have := hB.sm
    exact Int.mul_le_mul ‹_› ‹_› s2 (by omega)
theorem NnB.take {b : Int} : ∀ {l : List Int} {k : Nat}, NnB l b → NnB (l.take k) b
  | l, 0, h => ⟨fun x hx => by simp at hx, by
      have := sum_nn h.nn
      have := h.sm
      show (0 : Int) ≤ b
      omega⟩
  | [], k + 1, h => h
  | x :: l, k + 1, h => by
    have hx := h.nn x (List.mem_cons_self ..)
    have hl : NnB l (b - x) := ⟨fun y hy => h.nn y (List.mem_cons_of_mem _ hy), by have := h.sm; rw [List.sum_cons] at this; omega⟩
    have r := NnB.take (k := k) hl
    refine ⟨fun y hy => ?_, ?_⟩
    · rcases List.mem_cons.mp hy with rfl | hy
      · exact hx
      · exact r.nn y hy
    · show (x :: l.take k).sum ≤ b
      rw [List.sum_cons]
      have := r.sm
      omega
theorem NnB.cut {A B : List Int} {a b : Int} {m : Nat} (hA : NnB A a) (hB : NnB B b) : NnB (cutM m A B) (a * b) := (hA.mul hB).take
theorem NnB.mem {b : Int} : ∀ {l : List Int}, NnB l b → ∀ x ∈ l, 0 ≤ x ∧ x ≤ b
  | [], _, x, hx => absurd hx (List.not_mem_nil)
  | y :: l, h, x, hx => by
    have hy := h.nn y (List.mem_cons_self ..)
    have s := h.sm
    rw [List.sum_cons] at s
    have hl : ∀ z ∈ l, 0 ≤ z := fun z hz => h.nn z (List.mem_cons_of_mem _ hz)
    have sl := sum_nn hl
    rcases List.mem_cons.mp hx with rfl | hx
    · exact ⟨hy, by omega⟩
    · have := NnB.mem (b := b) ⟨hl, by omega⟩ x hx
      exact this
theorem pwT_nn {ways : List Int} {m : Nat} (h : NnB ways 5) : ∀ k, NnB (pwT ways m k) (5 ^ k)
  | 0 => ⟨fun x hx => by
      rcases List.mem_cons.mp hx with rfl | hx
      · decide
      · rw [List.eq_of_mem_replicate hx]
        decide, by
      show (1 :: List.replicate m (0 : Int)).sum ≤ 1
      have e : (List.replicate m (0 : Int)).sum = 0 := by
        rw [← dF_one, dF_zeros]
      rw [List.sum_cons, e]
      decide⟩
  | k + 1 => by
    have : NnB (cutM m (pwT ways m k) ways) (5 ^ k * 5) := (pwT_nn h k).cut h
    rw [Int.pow_succ]
    exact this
def trm (n m a : Nat) : List Int := cutM m (pwT (sqW 1 m) m a) (pwT (sqW 0 m) m (n - a))
def tf (n a t : Nat) : Int := cvI (pf (sq 1) a) (pf (sq 0) (n - a)) t
section
variable {n m a t : Nat} {L : List Int}
theorem sqW_nn (hm : m < 25) {f : Nat} (hf : f < 2) : NnB (sqW f m) 5 := ⟨(sqW_all m hm f hf).2.1, (sqW_all m hm f hf).2.2⟩
theorem trm_len : (trm n m a).length = m + 1 := cutM_len (pwT_len (sqW_len ..) _) (pwT_len (sqW_len ..) _)
theorem trm_at (hm : m < 25) (ht : t ≤ m) : (trm n m a).getD t 0 = tf n a t := by
  unfold trm tf
  rw [cutM_at _ _ ht]
  refine cvI_congr (fun i hi => ?_) fun i hi => ?_
  · rw [pwT_at (by omega)]
    exact pf_congr fun j hj => (sqW_all m hm 1 (by decide)).1 j (by omega)
  · rw [pwT_at (by omega)]
    exact pf_congr fun j hj => (sqW_all m hm 0 (by decide)).1 j (by omega)
theorem pow5_le {k : Nat} (h : k ≤ 24) : (5 : Int) ^ k ≤ 5 ^ 24 := by
  have := Nat.pow_le_pow_right (n := 5) (by decide) h
  exact_mod_cast this
theorem pwT_sm (hm : m < 25) {f : Nat} (hf : f < 2) {k : Nat} (hk : k ≤ 24) : smZ (pwT (sqW f m) m k) := fun x hx => by
  have a := (pwT_nn (m := m) (sqW_nn hm hf) k).mem x hx
  have b := pow5_le hk
  have c : (5 : Int) ^ 24 < 2 ^ 64 := by decide
  omega
theorem trm_nn (hm : m < 25) (ha : a ≤ n) : NnB (trm n m a) (5 ^ n) := by
  have := (pwT_nn (m := m) (sqW_nn hm (f := 1) (by decide)) a).cut (m := m) (pwT_nn (m := m) (sqW_nn hm (f := 0) (by decide)) (n - a))
  rw [← Int.pow_add, show a + (n - a) = n by omega] at this
  exact this
theorem trm_sm (hm : m < 25) (ha : a ≤ n) (hn : n ≤ 24) : smZ (trm n m a) := fun x hx => by
  have a := (trm_nn hm ha).mem x hx
  have b := pow5_le hn
  have c : (5 : Int) ^ 24 < 2 ^ 64 := by decide
  omega
def trms (n m : Nat) : List (List Int) := (List.range (n + 1)).map (trm n m)
def ctd (n m : Nat) (L : List Int) : List Int := addUp (trms n m) L
theorem trms_len : ∀ t ∈ trms n m, t.length = m + 1 := fun t ht => by
  obtain ⟨a, _, rfl⟩ := List.mem_map.mp ht
  exact trm_len
theorem trms_head : ((trms n m).headD []).length = m + 1 := by
  unfold trms
  rw [List.range_succ_eq_map]
  exact trm_len
theorem ctd_ad : ctd n m L = adZ (trms n m) L (List.replicate (m + 1) 0) := by
  unfold ctd addUp
  rw [trms_head]
theorem ctd_len : (ctd n m L).length = m + 1 := by
  rw [ctd_ad]
  exact adZ_len trms_len List.length_replicate
theorem trms_get {p : Nat} (hp : p < n + 1) : (trms n m).getD p [] = trm n m p := by
  unfold trms
  rw [map_getDL (d := 0) (by rw [List.length_range]; exact hp), List.getD_eq_getElem?_getD, List.getElem?_range hp]
  rfl
theorem ctd_at (hm : m < 25) (hL : L.length = n + 1) (ht : t ≤ m) : (ctd n m L).getD t 0 = dF L fun p => tf n p t := by
  rw [ctd_ad, ← dF_at, dF_ad trms_len List.length_replicate (by rw [hL]; unfold trms; rw [List.length_map, List.length_range]; exact Nat.le_refl _), dF_zeros, Int.zero_add]
  refine dF_congr fun p hp => ?_
  rw [trms_get (by omega), dF_at, trm_at hm ht]
/-! where they stand -/
end
/-! the law's own -/
end Vf
set_option Elab.async false
set_option linter.all false
set_option maxRecDepth 100000
set_option maxHeartbeats 4000000
set_option pp.maxSteps 300
namespace Vf
open PySem PySem.Spec PyProof.Rows L2
variable {W : Wd}
section
variable {Ds Es Fs : EnvT W} {d : Dn W} {ds : List (Dn W)} {te ta tb : TE} {t : TA} {tt : TT} {ts tu : TS} {i j l k n N : Nat} {K : PySem.W.Frag} {ue : List (Nat × UD)} {cs cs1 cs2 : List (Nat × List V)}
/-- a list of things by a comprehension over a range -/
theorem ev_lcRU (ue : List (Nat × UD)) (gu : Nat → UD) (hl : AV Ds t [dN n]) (he : ∀ σ H, EnvL Ds σ H → EnvL (uEnv N ue W) σ H) (hz : n ≤ 100000)
    (hb : ∀ (W' : Wd), ∀ x < n, EV ((uEnv N ue W').set i (some (dN x))) te ((gu x).f W')) : EV Ds (tLc (iRng1 t) (gName i) tYes te [i]) (dLD (uDs ((List.range n).map gu) W)) := fun σ H Q iv en q =>
  hl σ H _ iv en fun vs H1 l1 o1 => by
    match vs, o1 with
    | [v], ⟨o1, _⟩ =>
      have iv1 := W.step l1 iv
      refine ⟨(n : Int), by rw [show v = V.int (n : Int) from o1], by omega, by omega, fun D nD => ?_⟩
      have fD : W.F D := W.fresh iv1 nD
      have en1 := uEnv_lift fD nD (he _ _ (en.st l1))
      refine lc_range (lo := 0) (n := (n : Int).toNat) (fun k H' => W.L H1 H' ∧ (∃ ys, H' D = some (.lst ys) ∧ OkL (uDs ((List.range k).map gu) (awayW W D fD)) ys H') ∧ EnvL (uEnv N ue (awayW W D fD)) σ H')
        ⟨W.put iv1 (W.refl H1) nD, ⟨[], upd_same, trivial⟩, uEnv_stay fD en1⟩ (fun k H' hk hP => ?_) fun H' hP => ?_
      · obtain ⟨lP, ⟨ys, eD, oy⟩, eP⟩ := hP
        rw [Int.toNat_natCast] at hk
        have iv' : (awayW W D fD).inv H' := ⟨W.step lP iv1, ys, eD⟩
        have en' : EnvL ((uEnv N ue (awayW W D fD)).set i (some (dN k))) ((wipe σ [i]).set i (some (.int (0 + (k : Int))))) H' := env_lc (show V.int (0 + (k : Int)) = V.int (k : Int) by rw [Int.zero_add]) eP
        refine ⟨wipe_lc, tv_yes (W := awayW W D fD) _ H' _ iv' en' fun H2 l2 => ?_⟩
        refine (if_pos rfl).mpr (hb (awayW W D fD) k hk _ H2 _ ((awayW W D fD).step l2 iv') (en'.st l2) fun y H3 l3 o3 => ?_)
        have l23 : (awayW W D fD).L H' H3 := (awayW W D fD).trans l2 l3
        have eD3 : H3 D = some (.lst ys) := W.keep fD l23 eD
        have ly := oy.length
        unfold uDs at ly
        rw [List.length_map, List.length_map, List.length_range] at ly
        refine ⟨ys, eD3, sl_lt (by omega), W.put iv1 (W.trans lP l23) nD, ⟨ys ++ [y], upd_same, ?_⟩, uEnv_stay fD (eP.st l23)⟩
        have e2 : uDs ((List.range (k + 1)).map gu) (awayW W D fD) = uDs ((List.range k).map gu) (awayW W D fD) ++ [(gu k).f (awayW W D fD)] := by
          unfold uDs
          rw [List.range_succ, List.map_append, List.map_append]
          rfl
        rw [e2]
        exact OkL.app (uDs_stay fD (oy.st l23)) ⟨(gu k).stay fD o3, trivial⟩
      · obtain ⟨lP, ⟨ys, eD, oy⟩, eP⟩ := hP
        rw [Int.toNat_natCast] at oy
        exact q _ H' (W.trans l1 lP) ⟨D, ys, rfl, fD, eD, uDs_drop fD oy⟩
theorem okl_last : ∀ {ds : List (Dn W)} {xs : List V} {H : Hp}, OkL (ds ++ [d]) xs H → ∃ ys y, xs = ys ++ [y] ∧ d.ok y H ∧ ys.length = ds.length
  | [], [x], _, h => ⟨[], x, rfl, h.1, rfl⟩
  | [], [], _, h => h.elim
  | [], _ :: _ :: _, _, h => h.2.elim
  | _ :: ds, x :: xs, H, h => by
    obtain ⟨ys, y, e, o, l⟩ := okl_last (ds := ds) (xs := xs) h.2
    exact ⟨x :: ys, y, by rw [e]; rfl, o, by rw [List.length_cons, List.length_cons, l]⟩
  | _ :: _, [], _, h => h.elim
theorem od_ixLastD : OpD (W := W) (rIxL K) (dLD (ds ++ [d])) (dI (-1)) d := fun u v H Q iv ⟨a, xs, e, g, h1, o⟩ e2 q => by
  subst e
  rw [show v = V.int (-1) from e2]
  obtain ⟨ys, y, rfl, oy, _⟩ := okl_last o
  refine ⟨a, ys ++ [y], _, y, rfl, rfl, SqL.of h1, ?_, q _ H (W.refl H) oy⟩
  unfold atI ixN
  simp
  rw [if_pos (by omega)]
  rw [show (-1 + ((ys.length : Int) + 1)).toNat = ys.length by omega]
  simp
theorem rf_is {l : List Int} (h : Rf (l.map V.int)) : False := by
  obtain ⟨a, zs, e⟩ := h
  cases l with
  | nil => cases e
  | cons x l => cases e
theorem sep_is (l : List Int) : Sep (dIs l : Dn W) := fun v H p xs ⟨a, e, g, h⟩ hp r => by
  refine ⟨a, e, g, ?_⟩
  rw [del_ne fun z => ?_]
  · exact h
  · subst z
    rw [h] at hp
    cases hp
    exact rf_is r
theorem rf_isD {l : List Int} {ds : List (Dn W)} : ∀ xs H, OkL ((dIs l : Dn W) :: ds) xs H → Rf xs
  | x :: xs, H, ⟨⟨a, e, _, _⟩, _⟩ => ⟨a, xs, by rw [e]⟩
  | [], _, h => h.elim
theorem rgc_all : ∀ m < 25, ∀ f < 2, RgC ((f : Nat) : Int) ((m + 1 : Nat) : Int) 2 ((m + 2 - f) / 2) := by
  unfold RgC
  decide +kernel
/-- for r in range(f, m + 1, 2) -/
theorem nvc_forR3 {f m : Nat} (hm : m < 25) (hf : f < 2) (E : Nat → EnvT W) (C : Nat → List (Nat × List V)) (hl : AV (withC Ds cs) t [dN f, dN (m + 1), dN 2]) (h0 : ∀ σ H, EnvL Ds σ H → EnvL (E 0) σ H) (hC : cs = C 0)
    (hs : ∀ k, ((C k).all fun c => !(Nat.beq c.1 i)) = true) (hb : ∀ k, k < (m + 2 - f) / 2 → NVC ((E k).set i (some (dN (f + 2 * k)))) (C k) ts (E (k + 1)) (C (k + 1))) :
    NVC Ds cs (tFor (iRng3 t) (gName i) ts) (E ((m + 2 - f) / 2)) (C ((m + 2 - f) / 2)) := fun D σ H G ce iv en q =>
  hl σ H _ (W.step (ce.up iv) iv) (ce.env iv en) fun vs H1 l1 o1 => by
    match vs, o1 with
    | [u, v, w], ⟨o1, o2, o3, _⟩ =>
      have e1 : u = V.int ((f : Nat) : Int) := o1
      have e2 : v = V.int ((m + 1 : Nat) : Int) := o2
      have e3 : w = V.int (2 : Int) := o3
      subst e1 e2 e3
      obtain ⟨G1, c1, lG⟩ := ce.go l1
      have iv1 := W.step lG iv
      refine ⟨(f : Int), ((m + 1 : Nat) : Int), 2, (m + 2 - f) / 2, rfl, rgc_all m hm f hf, ?_⟩
      refine for_rangeC (fun k σ' H' => ∃ G', CE W (C k) σ' H' G' ∧ W.L G1 G' ∧ EnvL (E k) σ' G') ⟨G1, hC ▸ c1, W.refl G1, h0 _ _ (en.st lG)⟩ (fun k σ' H' hk hP => ?_) fun σ' H' hP => ?_
      · obtain ⟨G', cP, lP, eP⟩ := hP
        refine hb k hk _ _ H' G' (cP.slot (hs k)) (W.step lP iv1) (eP.set (show V.int ((f : Int) + (k : Nat) * 2) = V.int ((f + 2 * k : Nat) : Int) from congrArg V.int (by omega))) fun σ2 H2 G2 c2 l2 e2 => ⟨G2, c2, W.trans lP l2, e2⟩
      · obtain ⟨G', cP, lP, eP⟩ := hP
        exact q σ' H' G' cP (W.trans lG lP) eP
/-! values laid at some places at once -/
end
/-! promises -/
section
variable {n m f many : Nat} {L ways A B : List Int} {R : List Nat} {C : Addr} {p : Addr} {K : PySem.W.Frag}
def sp_chksize : Sp := spW (ι := Nat) (fun _ m => m ≤ 24) (fun _ m => [dN m]) fun _ _ => dV .non
theorem sd_chksize (h : m ≤ 24) : SpD sp_chksize [] [(dN m : Dn W)] (dV .non) := spW_sd (i := m) h
def sp_sqways : Sp := spW (ι := Nat × Nat) (fun _ i => i.1 < 2 ∧ i.2 < 25) (fun _ i => [dN i.1, dN i.2]) fun _ i => dIs (sqW i.1 i.2)
theorem sd_sqways (h : f < 2) (hm : m < 25) : SpD sp_sqways [] [(dN f : Dn W), dN m] (dIs (sqW f m)) := spW_sd (i := (f, m)) ⟨h, hm⟩
structure PwsP (i : List Int × Nat × Nat) : Prop where
  ln : i.1.length = i.2.2 + 1
  nn : NnB i.1 5
  many : i.2.1 ≤ 24
  most : i.2.2 < 25
def sp_pows : Sp := spW (ι := List Int × Nat × Nat) (fun _ i => PwsP i) (fun _ i => [dIs i.1, dN i.2.1, dN i.2.2]) fun W i => dLD (tD ((List.range (i.2.1 + 1)).map (pwT i.1 i.2.2)) W)
theorem sd_pows (h : PwsP (ways, many, m)) : SpD sp_pows [] [(dIs ways : Dn W), dN many, dN m] (dLD (tD ((List.range (many + 1)).map (pwT ways m)) W)) := spW_sd (P := fun _ i => PwsP i) (ds := fun _ i => [dIs i.1, dN i.2.1, dN i.2.2]) (d := fun W i => dLD (tD ((List.range (i.2.1 + 1)).map (pwT i.1 i.2.2)) W)) (i := (ways, many, m)) h
structure CtdP (i : List Int × Nat) : Prop where
  l2 : 2 ≤ i.1.length
  l25 : i.1.length ≤ 25
  most : i.2 < 25
structure VecP (i : Nat × List Nat × Nat) : Prop where
  n1 : 1 ≤ i.1
  n24 : i.1 ≤ 24
  most : i.2.2 ≤ 24
noncomputable def sp_vecs (C : Addr) : Sp := spW (ι := Nat × List Nat × Nat) (fun _ i => VecP i) (fun _ i => [dRoom C i.1 i.2.1, dN i.2.2]) fun _ i => dI ((ctd i.1 i.2.2 (iz (rowB i.1 i.2.1))).getD i.2.2 0)
theorem sd_vecs (h : VecP (n, R, m)) : SpD (sp_vecs C) [] [(dRoom C n R : Dn W), dN m] (dI ((ctd n m (iz (rowB n R))).getD m 0)) := spW_sd (i := (n, R, m)) h
def sp_lspan87 : Sp := spW (ι := List Nat) (fun _ i => i.length ≤ 6) (fun _ i => [dVs i]) fun _ i => dEx (fun L => SpanN i L) dVs
theorem sd_lspan87 {ws : List Nat} (h : ws.length ≤ 6) : SpD sp_lspan87 [] [(dVs ws : Dn W)] (dEx (fun L => SpanN ws L) dVs) := spW_sd (i := ws) h
end
/-! steps of the rooms told -/
end Vf
set_option Elab.async false
set_option linter.all false
set_option maxRecDepth 100000
set_option maxHeartbeats 4000000
set_option pp.maxSteps 300
namespace Vf
open PySem PySem.Spec PyProof.Rows L2
variable {W : Wd}
section
variable {Ds : EnvT W} {ta tb : TE} {tu : TS} {d d1 d2 : Dn W} {ds : List (Dn W)} {xs ys : List V} {i j n : Nat} {K : PySem.W.Frag}
end
theorem spanN_sort {ws L : List Nat} (h : SpanN ws L) : SpanN ws (sortN L) := ⟨fun v => by rw [(sortN_perm L).mem_iff]; exact h.1 v, (sortN_perm L).nodup_iff.mpr h.2⟩
theorem tD_map (ts : List (List Int)) : tD ts W = ts.map fun t => (dIs t : Dn W) := by
  unfold tD uDs
  rw [List.map_map]
  rfl
section
variable {n m : Nat} {ws L : List Nat} {s : Nat}
theorem rows_any (n24 : n ≤ 24) (lt : ∀ v ∈ ws, v < 2 ^ n) (hL : SpanN ws L) : rowP pc n L = rowB n (bas ws) := by
  obtain ⟨mem, nd, _⟩ := words_ok (bas_plain ws)
  exact rowP_perm ((List.perm_ext_iff_of_nodup hL.2 nd).mpr fun v => by rw [hL.1, mem, bas_span])
theorem rowB_bd (n24 : n ≤ 24) (lt : ∀ v ∈ ws, v < 2 ^ n) (l6 : ws.length ≤ 6) : ∀ x ∈ iz (rowB n (bas ws)), x.natAbs ≤ 64 := fun x hx => by
  obtain ⟨y, hy, e⟩ := List.mem_map.mp hx
  have a := le_sum_mem hy
  have s : (rowB n (bas ws)).sum = (wordsOf (bas ws)).length := rowP_sum fun v hv => pc_le_n n24 (words_lt (bas_plain ws) (bas_lt lt) v hv)
  rw [s, (words_ok (bas_plain ws)).2.2] at a
  have c : 2 ^ (bas ws).length ≤ 2 ^ 6 := pw_le (Nat.le_trans (bas_len ws) l6)
  omega
theorem ctd_bd {L : List Int} {F : Nat} (hm : m < 25) (n12 : n ≤ 12) (hL : L.length = n + 1) (hF : ∀ x ∈ L, x.natAbs ≤ F) : ∀ x ∈ ctd n m L, x.natAbs ≤ 13 * (F * 244140625) := fun x hx => by
  rw [ctd_ad] at hx
  have c : ∀ t ∈ trms n m, ∀ x ∈ t, x.natAbs ≤ 244140625 := fun t ht x hx => by
    obtain ⟨a, ha, rfl⟩ := List.mem_map.mp ht
    have ha := List.mem_range.mp ha
    have b := (trm_nn hm (show a ≤ n by omega)).mem x hx
    have p : (5 : Int) ^ n ≤ 5 ^ 12 := by
      have := Nat.pow_le_pow_right (n := 5) (by decide) n12
      exact_mod_cast this
    have e : (5 : Int) ^ 12 = 244140625 := by decide
    omega
  have b := adZ_bdC (B := 0) c hF (fun y hy => by rw [List.eq_of_mem_replicate hy]; exact Nat.le_refl 0) x hx
  rw [hL, Nat.zero_add] at b
  exact Nat.le_trans b (Nat.mul_le_mul_right _ (by omega))
end
end Vf
set_option Elab.async false
set_option linter.all false
set_option maxRecDepth 100000
set_option maxHeartbeats 4000000
set_option pp.maxSteps 300
namespace Vf
open PySem PySem.Spec PyProof.Rows L2
/-! ### products commute -/
section
variable {n m a p q t M : Nat}
end
/-! all lists, by their squares -/
end Vf
set_option Elab.async false
set_option linter.all false
set_option maxRecDepth 100000
set_option maxHeartbeats 4000000
set_option pp.maxSteps 300
namespace Vf
open PySem PySem.Spec PyProof.Rows L2
variable {W : Wd}
section
variable {Ds Es : EnvT W} {te ta tb tc tl : TE} {ta' : TA} {ts tu : TS} {i j m m2 n : Nat} {K : PySem.W.Frag} {xs ys : List V} {l l2 : List Int} {d d1 : Dn W}
end
section
variable {Ds Es : EnvT W} {te tl : TE} {ta : TA} {ts : TS} {i j m m2 n : Nat} {K : PySem.W.Frag} {xs ys : List V} {l l2 : List Int}
end
/-! lists of halves, their odd places -/
def oddW (l : List Int) : Nat := (((List.range l.length).filter fun k => decide (l.getD k 0 % 2 = 1)).map (2 ^ ·)).sum
structure Lp (n w : Nat) (l : List Int) : Prop where
  ln : l.length = n
  bit : ∀ k < n, l.getD k 0 % 2 = if w.testBit k = true then 1 else 0
section
variable {n w w1 w2 : Nat} {l l1 l2 : List Int}
theorem Lp.odd (h : Lp n w l) (hw : w < 2 ^ n) : oddW l = w := by
  refine Nat.eq_of_testBit_eq fun k => ?_
  unfold oddW
  rw [sumPow_bit (List.nodup_range.filter _), h.ln]
  by_cases c : k < n
  · have b := h.bit k c
    rw [Bool.eq_iff_iff, decide_eq_true_iff, List.mem_filter, List.mem_range, decide_eq_true_iff]
    by_cases t : w.testBit k = true
    · rw [if_pos t] at b
      exact ⟨fun _ => t, fun _ => ⟨c, b⟩⟩
    · rw [if_neg t] at b
      exact ⟨fun ⟨_, z⟩ => by omega, fun z => absurd z t⟩
  · rw [Nat.testBit_lt_two_pow (Nat.lt_of_lt_of_le hw (pw_le (by omega))), decide_eq_false fun z => c (List.mem_range.mp (List.mem_filter.mp z).1)]
theorem Lp.zip {g : Int → Int → Int} (h1 : Lp n w1 l1) (h2 : Lp n w2 l2) (hg : ∀ x y : Int, g x y % 2 = (x + y) % 2) : Lp n (w1 ^^^ w2) (List.zipWith g l1 l2) := by
  refine ⟨by rw [List.length_zipWith, h1.ln, h2.ln, Nat.min_self], fun k hk => ?_⟩
  rw [zw_at h1.ln h2.ln, map_getD hk, hg, Nat.testBit_xor]
  have a := h1.bit k hk
  have b := h2.bit k hk
  generalize l1.getD k 0 = x at a ⊢
  generalize l2.getD k 0 = y at b ⊢
  cases h3 : w1.testBit k <;> cases h4 : w2.testBit k <;> rw [h3] at a <;> rw [h4] at b <;> simp at a b ⊢ <;> omega
theorem Lp.zero {l : List Int} (hl : l.length = n) (h : ∀ x ∈ l, x % 2 = 0) : Lp n 0 l := ⟨hl, fun k hk => by
  rw [Nat.zero_testBit, if_neg (by decide)]
  exact h _ (List.mem_of_getElem? (getD_some (l := l) (d := 0) (by omega)))⟩
end
/-! promises -/
section
variable {n m w : Nat} {ws B : List Nat} {l : List Int} {p C : Addr} {b : Bool}
structure IvP (i : Nat × List Nat × List Int) : Prop where
  n1 : 1 ≤ i.1
  n24 : i.1 ≤ 24
  ln : i.2.2.length = i.1
def sp_isvec (C : Addr) : Sp := spW (ι := Nat × List Nat × List Int) (fun _ i => IvP i) (fun _ i => [dRoom C i.1 i.2.1, dIs i.2.2]) fun _ i => dB (decide (restOf (oddW i.2.2) i.2.1 = 0))
theorem sd_isvec (h : IvP (n, B, l)) : SpD (sp_isvec C) [] [(dRoom C n B : Dn W), dIs l] (dB (decide (restOf (oddW l) B = 0))) := spW_sd (i := (n, B, l)) h
end
end Vf
set_option Elab.async false
set_option linter.all false
set_option maxRecDepth 100000
set_option maxHeartbeats 4000000
set_option pp.maxSteps 300
namespace Vf
open PySem PySem.Spec PyProof.Rows L2
variable {W : Wd}
theorem dF_map {f : Nat → Int} : ∀ {l : List Nat} {c : Nat → Int} {d : Nat → Int}, (∀ k < l.length, d (l.getD k 0) = c k) → dF (l.map f) c = (l.map fun i => f i * d i).sum
  | [], _, _, _ => rfl
  | x :: l, c, d, h => by
    show f x * c 0 + dF (l.map f) (fun k => c (k + 1)) = ((x :: l).map fun i => f i * d i).sum
    rw [List.map_cons, List.sum_cons, dF_map (d := d) fun k hk => h (k + 1) (Nat.succ_lt_succ hk), show d x = c 0 from h 0 (Nat.zero_lt_succ _)]
section
variable {n : Nat} {ws : List Nat}
theorem room_any (n1 : 1 ≤ n) (n24 : n ≤ 24) (lt : ∀ v ∈ ws, v < 2 ^ n) : RoomF n (bas ws) := ⟨bas_plain _, n1, n24, bas_lt lt⟩
theorem has_span (w : Nat) : (decide (restOf w (bas ws) = 0) = true) ↔ span ws w := by
  rw [decide_eq_true_iff, rest_zero (bas_plain ws).1, bas_span]
theorem dIs_inj {a b : List Int} (h : a = b) : (dIs a : Dn W) = dIs b := by rw [h]
end
end Vf
set_option Elab.async false
set_option linter.all false
set_option maxRecDepth 100000
set_option maxHeartbeats 4000000
set_option pp.maxSteps 300
namespace Vf
open PySem PySem.Spec PyProof.Rows L2
variable {W : Wd}
section
variable {Ds Es : EnvT W} {d d1 : Dn W} {ds : List (Dn W)} {te ta tb tl : TE} {t : TA} {tt : TT} {ts tu : TS} {i j l k n N : Nat} {K : PySem.W.Frag} {ue : List (Nat × UD)} {cs : List (Nat × List V)} {xs ys : List V}
/-- t + u, tuples -/
theorem od_catA (h : xs.length + ys.length ≤ 100000) : OpD (W := W) (rCatA K) (dTup xs) (dTup ys) (dTup (xs ++ ys)) := fun u v H Q iv ⟨a, e1, g1, h1⟩ ⟨b, e2, g2, h2⟩ q => by
  subst e1 e2
  refine ⟨a, b, xs, ys, rfl, rfl, .inl (.inl h1), .inl (.inl h2), Nat.le_of_lt (sl_lt h), fun z => ?_, fun z1 z2 => ?_, fun z1 z2 p np => ?_⟩
  · subst z
    exact q _ H (W.refl H) ⟨b, rfl, g2, h2⟩
  · subst z2
    exact q _ H (W.refl H) ⟨a, rfl, g1, by rw [List.append_nil]; exact h1⟩
  · exact q _ _ (W.put iv (W.refl H) np) ⟨p, rfl, W.fresh iv np, upd_same⟩
/-- a list of things by a comprehension over a range from lo -/
theorem ev_lcR2U {lo : Int} (ue : List (Nat × UD)) (gu : Nat → UD) (hl : AV Ds t [dI lo, dI (lo + (n : Nat))]) (he : ∀ σ H, EnvL Ds σ H → EnvL (uEnv N ue W) σ H) (hz : n ≤ 100000) (h62 : -(2 ^ 61) < lo ∧ lo < 2 ^ 61)
    (hb : ∀ (W' : Wd), ∀ x < n, EV ((uEnv N ue W').set i (some (dI (lo + (x : Nat))))) te ((gu x).f W')) : EV Ds (tLc (iRng2 t) (gName i) tYes te [i]) (dLD (uDs ((List.range n).map gu) W)) := fun σ H Q iv en q =>
  hl σ H _ iv en fun vs H1 l1 o1 => by
    match vs, o1 with
    | [v, u], ⟨o1, o2, _⟩ =>
      have iv1 := W.step l1 iv
      have e1 : v = V.int lo := o1
      have e2 : u = V.int (lo + (n : Nat)) := o2
      subst e1 e2
      have en0 : (lo + (n : Nat) - lo).toNat = n := by omega
      refine ⟨lo, lo + (n : Nat), rfl, ⟨by omega, by omega, by omega, by omega⟩, ?_⟩
      rw [en0]
      refine fun D nD => ?_
      have fD : W.F D := W.fresh iv1 nD
      have en1 := uEnv_lift fD nD (he _ _ (en.st l1))
      refine lc_range (lo := lo) (n := n) (fun k H' => W.L H1 H' ∧ (∃ ys, H' D = some (.lst ys) ∧ OkL (uDs ((List.range k).map gu) (awayW W D fD)) ys H') ∧ EnvL (uEnv N ue (awayW W D fD)) σ H')
        ⟨W.put iv1 (W.refl H1) nD, ⟨[], upd_same, trivial⟩, uEnv_stay fD en1⟩ (fun k H' hk hP => ?_) fun H' hP => ?_
      · obtain ⟨lP, ⟨ys, eD, oy⟩, eP⟩ := hP
        have iv' : (awayW W D fD).inv H' := ⟨W.step lP iv1, ys, eD⟩
        have en' : EnvL ((uEnv N ue (awayW W D fD)).set i (some (dI (lo + (k : Nat))))) ((wipe σ [i]).set i (some (.int (lo + (k : Int))))) H' := env_lc rfl eP
        refine ⟨wipe_lc, tv_yes (W := awayW W D fD) _ H' _ iv' en' fun H2 l2 => ?_⟩
        refine (if_pos rfl).mpr (hb (awayW W D fD) k hk _ H2 _ ((awayW W D fD).step l2 iv') (en'.st l2) fun y H3 l3 o3 => ?_)
        have l23 : (awayW W D fD).L H' H3 := (awayW W D fD).trans l2 l3
        have eD3 : H3 D = some (.lst ys) := W.keep fD l23 eD
        have ly := oy.length
        unfold uDs at ly
        rw [List.length_map, List.length_map, List.length_range] at ly
        refine ⟨ys, eD3, sl_lt (by omega), W.put iv1 (W.trans lP l23) nD, ⟨ys ++ [y], upd_same, ?_⟩, uEnv_stay fD (eP.st l23)⟩
        have e2 : uDs ((List.range (k + 1)).map gu) (awayW W D fD) = uDs ((List.range k).map gu) (awayW W D fD) ++ [(gu k).f (awayW W D fD)] := by
          unfold uDs
          rw [List.range_succ, List.map_append, List.map_append]
          rfl
        rw [e2]
        exact OkL.app (uDs_stay fD (oy.st l23)) ⟨(gu k).stay fD o3, trivial⟩
      · obtain ⟨lP, ⟨ys, eD, oy⟩, eP⟩ := hP
        exact q _ H' (W.trans l1 lP) ⟨D, ys, rfl, fD, eD, uDs_drop fD oy⟩
/-- for x in a list of things, beside cells -/
theorem nvc_forD (E : Nat → EnvT W) (C : Nat → List (Nat × List V)) (hj : Ds.get j = some (dLD ds)) (hn : Nat.ble (j + 1) Ds.n = true) (h0 : ∀ σ H, EnvL Ds σ H → EnvL (E 0) σ H) (hC : cs = C 0)
    (hs : ∀ k, ((C k).all fun c => !(Nat.beq c.1 i)) = true) (hb : ∀ k d, ds[k]? = some d → NVC ((E k).set i (some d)) (C k) ts (E (k + 1)) (C (k + 1))) :
    NVC Ds cs (tFor (iList K (tVar j)) (gName i) ts) (E ds.length) (C ds.length) := fun D σ H G ce iv en q => by
  obtain ⟨v, e, a, xs, ea, fa, ha, ox⟩ := en.get hj hn
  subst ea
  have lx := ox.length
  refine ⟨.ref a, e, a, rfl, ⟨xs, SqL.of (ce.ne ha)⟩, ?_⟩
  refine for_list (K := K) (a := a) (xs := xs) (fun k σ' H' => ∃ G', CE W (C k) σ' H' G' ∧ W.L G G' ∧ EnvL (E k) σ' G') ⟨G, hC ▸ ce, W.refl G, h0 _ _ en⟩ (fun k σ' H' _ hP => ?_) (fun k x σ' H' hx hP => ?_) fun σ' H' hP => ?_
  · obtain ⟨G', cP, lP, _⟩ := hP
    exact SqL.of (cP.ne (W.keep fa lP ha))
  · obtain ⟨G', cP, lP, eP⟩ := hP
    have lk : k < ds.length := by
      rw [← lx]
      exact (List.getElem?_eq_some_iff.mp hx).1
    have hd : ds[k]? = some ds[k] := List.getElem?_eq_getElem lk
    obtain ⟨x', hx', okx⟩ := ox.get hd
    rw [hx] at hx'
    cases hx'
    exact hb k _ hd _ _ H' G' (cP.slot (hs k)) (W.step lP iv) (eP.set (ds[k].st lP okx)) fun σ2 H2 G2 c2 l2 e2 => ⟨G2, c2, W.trans lP l2, e2⟩
  · obtain ⟨G', cP, lP, eP⟩ := hP
    rw [lx] at cP eP
    exact q σ' H' G' cP lP eP
end
section
variable {ι κ : Type} {i N j m n M : Nat} {ue : List (Nat × UD)} {us vs : List UD} {ts tu : TS} {te tl : TE} {ta : TA} {tt : TT} {K : PySem.W.Frag} {d : Dn W} {E : ι → List (Nat × UD)} {R : ι → List UD} {P : ι → Prop}
/-- a growing list, longer by a list of things -/
theorem ng_extend (h : ∀ W', Wle W W' → EV (uEnv N ue W') te (dLD (uDs vs W'))) (z : us.length + vs.length ≤ 100000) : NVG W i N ue us (tDrop (tBM K "list" rExtend (tVar i) (tCons te tNil))) (fun _ : Unit => ue) (fun _ => us ++ vs) (fun _ => True) := fun D σ H p fp s q => by
  obtain ⟨ys0, hy0, _⟩ := s.ct
  refine ⟨.ref p, s.slot, .inl ⟨rfl, _, SqL.of hy0⟩, h _ (away_le fp) σ H _ s.ainv s.env fun v H1 l1 ⟨a, zs, e, ga, ha, oz⟩ => ?_⟩
  subst e
  obtain ⟨s1, l2⟩ := s.go l1
  obtain ⟨xs, hp, ok⟩ := s1.ct
  have lx := ok.length
  have lz := oz.length
  unfold uDs at lx lz
  rw [List.length_map] at lx lz
  have iv1 : (awayW W p fp).inv H1 := s1.ainv
  refine ⟨p, a, xs, zs, rfl, rfl, hp, ha, Nat.le_of_lt (sl_lt (by omega)), q () _ _ trivial ⟨s1.slot, ⟨xs ++ zs, upd_same, ?_⟩, ?_, ?_⟩ ?_⟩
  · have e2 : uDs (us ++ vs) (awayW W p fp) = uDs us (awayW W p fp) ++ uDs vs (awayW W p fp) := by
      unfold uDs
      rw [List.map_append]
    rw [e2]
    exact OkL.app (uDs_stay fp ok) (uDs_stay fp oz)
  · have iv2 := W.delI fp s1.inv
    have l3 : W.L (del p H1) (upd H1 p (.lst (xs ++ zs))) := by
      have := W.put (o := .lst (xs ++ zs)) iv2 (W.refl _) (del_same (p := p) (H := H1))
      rwa [show upd (del p H1) p (HO.lst (xs ++ zs)) = upd H1 p (.lst (xs ++ zs)) from by
        funext b
        by_cases c : b = p
        · rw [c, upd_same, upd_same]
        · rw [upd_ne c, upd_ne c, del_ne c]] at this
    exact W.step l3 iv2
  · exact uEnv_stay fp s1.env
  · rw [del_updS]
    exact l2
/-- for x in a list of things, while a list grows -/
theorem ng_forD {ws : List UD} (off : ∀ w ∈ ws, OffU w) (E : Nat → ι → List (Nat × UD)) (R : Nat → ι → List UD) (P : Nat → ι → Prop) (x0 : ι) (hl : ∀ W', Wle W W' → EV (uEnv N ue W') tl (dLD (uDs ws W'))) (p0 : P 0 x0) (r0 : R 0 x0 = us) (e0 : ∀ W' σ H, EnvL (uEnv N ue W') σ H → EnvL (uEnv N (E 0 x0) W') σ H)
    (hb : ∀ k w, ws[k]? = some w → ∀ x, P k x → NVG W i N ((j, w) :: E k x) (R k x) ts (E (k + 1)) (R (k + 1)) (P (k + 1))) (ne : j ≠ i := by decide) :
    NVG W i N ue us (tFor (iList K tl) (gName j) ts) (E ws.length) (R ws.length) (P ws.length) := fun D σ H p fp s q => by
  refine hl _ (away_le fp) σ H _ s.ainv s.env fun v H1 l1 ⟨a, xs, e1, ga, ha, ox⟩ => ?_
  subst e1
  obtain ⟨s1, l2⟩ := s.go l1
  have lx := ox.length
  unfold uDs at lx
  rw [List.length_map] at lx
  have keepA : ∀ {H'}, W.L (del p H1) (del p H') → H' a = some (.lst xs) := fun {H'} l => by
    have h1 : del p H1 a = some (.lst xs) := (del_ne ga.2).trans ha
    have h2 := W.keep ga.1 l h1
    exact (del_some h2).2
  refine ⟨a, rfl, ⟨xs, SqL.of ha⟩, ?_⟩
  refine for_list (K := K) (a := a) (xs := xs) (fun k σ' H' => OkL (uDs ws (awayW W p fp)) xs H' ∧ W.L (del p H1) (del p H') ∧ ∃ x, P k x ∧ LG W i N (E k x) (R k x) p fp σ' H') ⟨ox, W.refl _, x0, p0, s1.slot, r0 ▸ s1.ct, s1.inv, e0 _ _ _ s1.env⟩ (fun k σ' H' _ hP => SqL.of (keepA hP.2.1)) (fun k x σ' H' hx hP => ?_) fun σ' H' hP => ?_
  · obtain ⟨oP, lP, z, pz, sz⟩ := hP
    have lk : k < ws.length := by
      rw [← lx]
      exact (List.getElem?_eq_some_iff.mp hx).1
    have hw : ws[k]? = some ws[k] := List.getElem?_eq_getElem lk
    obtain ⟨x', hx', okx⟩ := oP.get (k := k) (d := ws[k].f (awayW W p fp)) (by unfold uDs; rw [List.getElem?_map, hw]; rfl)
    rw [hx] at hx'
    cases hx'
    refine hb k ws[k] hw z pz _ _ _ p fp ⟨by rw [List.getElem?_set_ne ne]; exact sz.slot, sz.ct, sz.inv, EnvL.set (W := awayW W p fp) (d := ws[k].f (awayW W p fp)) okx sz.env⟩ fun y σ2 H2 py s2 l5 => ?_
    obtain ⟨_, e2, _⟩ := s2.ct
    exact ⟨OkL_away fp l5 e2 off oP, W.trans lP l5, y, py, s2⟩
  · obtain ⟨oP, lP, z, pz, sz⟩ := hP
    rw [lx] at pz sz
    exact q z σ' H' pz sz (W.trans l2 lP)
/-- a new list that grows, among statements -/
theorem nv_newG {Ds : EnvT W} {Es : EnvT W} (he : ∀ σ H, EnvL (Ds.set i none) σ H → EnvL (uEnv N ue W) σ H) (r : NVG W i N ue [] tu E R P) (hi : Nat.ble (i + 1) Ds.n = true := by rfl)
    (ho : ∀ x, P x → ∀ σ H, EnvL ((uEnv N (E x) W).set i (some (dLD (uDs (R x) W)))) σ H → EnvL Es σ H) : NV Ds (tSeq (tAsg (tLst tNil) (gName i)) tu) Es := fun D σ H iv en q =>
  ⟨Nat.zero_le _, fun p np => by
    have fp := W.fresh iv np
    have l : W.L H (upd H p (.lst [])) := W.put iv (W.refl H) np
    refine r D _ _ p fp ⟨?_, ⟨[], upd_same, trivial⟩, W.step l iv, uEnv_stay fp (uEnv_lift fp np (he _ _ (env_new (v := .ref p) en)))⟩ fun x σ2 H2 px s2 l2 => ?_
    · exact List.getElem?_set_self (by rw [en.1]; exact Nat.le_of_ble_eq_true hi)
    · rw [del_upd np] at l2
      exact q σ2 H2 (W.trans l2 s2.del) (ho x px _ _ s2.out)⟩
end
end Vf
set_option Elab.async false
set_option linter.all false
set_option maxRecDepth 100000
set_option maxHeartbeats 4000000
set_option pp.maxSteps 300
namespace Vf
open PySem PySem.Spec PyProof.Rows L2
variable {W : Wd}
/-! lists one by one (k86) -/
def odW : List Int → Nat
  | [] => 0
  | x :: l => 2 * odW l + (x % 2).toNat
def sqs (l : List Int) : Int := (l.map fun x => x * x).sum
def oneM (l : List Int) (x : Nat) : List Int := l ++ [(-3 + (x : Nat) : Int)]
def LLs : Nat → List (List Int)
  | 0 => [[]]
  | k + 1 => ((LLs k).filter fun l => decide (sqs l < 10)).flatMap fun l => (List.range 7).map (oneM l)
def LLf (n : Nat) : List (List Int) := (LLs n).filter fun l => decide (sqs l < 10)
theorem sq_nn (x : Int) : 0 ≤ x * x := by
  rcases Int.le_total 0 x with h | h
  · exact Int.mul_nonneg h h
  · have := Int.mul_nonneg (Int.neg_nonneg_of_nonpos h) (Int.neg_nonneg_of_nonpos h)
    rwa [Int.neg_mul_neg] at this
theorem sqs_nn (l : List Int) : 0 ≤ sqs l := by
  induction l with
  | nil => exact Int.le_refl 0
  | cons x l ih =>
    have e : sqs (x :: l) = x * x + sqs l := rfl
    have := sq_nn x
    rw [e]
    omega
theorem LLs_mem : ∀ {k : Nat} {l : List Int}, l ∈ LLs k → l.length = k ∧ ∀ x ∈ l, x.natAbs ≤ 3
  | 0, l, h => by
    rw [List.mem_singleton.mp h]
    exact ⟨rfl, fun x hx => (List.not_mem_nil hx).elim⟩
  | k + 1, l, h => by
    obtain ⟨a, ha, h2⟩ := List.mem_flatMap.mp h
    obtain ⟨x, hx, rfl⟩ := List.mem_map.mp h2
    obtain ⟨e, b⟩ := LLs_mem (List.mem_filter.mp ha).1
    have := List.mem_range.mp hx
    refine ⟨by unfold oneM; rw [List.length_append, e]; rfl, fun y hy => ?_⟩
    unfold oneM at hy
    rcases List.mem_append.mp hy with h | h
    · exact b y h
    · rw [List.mem_singleton.mp h]
      omega
theorem flat7_len : ∀ ls : List (List Int), (ls.flatMap fun l => (List.range 7).map (oneM l)).length = 7 * ls.length
  | [] => rfl
  | l :: ls => by
    rw [List.flatMap_cons, List.length_append, flat7_len ls, List.length_map, List.length_range, List.length_cons]
    omega
theorem LLs_len : ∀ k, (LLs k).length ≤ 7 ^ k
  | 0 => Nat.le_refl 1
  | k + 1 => by
    show (List.flatMap _ _).length ≤ _
    rw [flat7_len, Nat.pow_succ]
    have := List.length_filter_le (fun l => decide (sqs l < 10)) (LLs k)
    have := LLs_len k
    omega
theorem LLs_le {k : Nat} (h : k ≤ 4) : (LLs k).length ≤ 2401 := Nat.le_trans (LLs_len k) (Nat.le_trans (Nat.pow_le_pow_right (by decide) h) (by decide))
theorem LLf_le {k : Nat} (h : k ≤ 4) : (LLf k).length ≤ 2401 := Nat.le_trans (List.length_filter_le _ _) (LLs_le h)
theorem LLf_mem {k : Nat} {l : List Int} (h : l ∈ LLf k) : l.length = k ∧ (∀ x ∈ l, x.natAbs ≤ 3) ∧ (sqs l).toNat < 10 := by
  obtain ⟨h1, h2⟩ := List.mem_filter.mp h
  obtain ⟨a, b⟩ := LLs_mem h1
  have := of_decide_eq_true h2
  exact ⟨a, b, by omega⟩
theorem LLf_pos : ∀ n < 5, 0 < (LLf n).length := by decide +kernel
/-! the word of the odd places -/
theorem m2 (x : Int) : ((x % 2).toNat : Int) = x % 2 := Int.toNat_of_nonneg (Int.emod_nonneg _ (by decide))
theorem odW_lt : ∀ l : List Int, odW l < 2 ^ l.length
  | [] => Nat.lt_succ_self 0
  | x :: l => by
    have := odW_lt l
    have := Int.emod_lt_of_pos x (b := 2) (by decide)
    have := m2 x
    show 2 * odW l + (x % 2).toNat < 2 ^ (l.length + 1)
    rw [Nat.pow_succ]
    omega
theorem odW_bit : ∀ (l : List Int) (k : Nat), k < l.length → l.getD k 0 % 2 = if (odW l).testBit k = true then 1 else 0
  | x :: l, 0, _ => by
    show x % 2 = if (2 * odW l + (x % 2).toNat).testBit 0 = true then 1 else 0
    have := m2 x
    have := Int.emod_lt_of_pos x (b := 2) (by decide)
    have := Int.emod_nonneg x (b := 2) (by decide)
    rw [Nat.testBit_zero]
    by_cases c : x % 2 = 1
    · rw [if_pos (decide_eq_true (by omega)), c]
    · rw [if_neg (by rw [decide_eq_true_iff]; omega)]
      omega
  | x :: l, k + 1, h => by
    have ih := odW_bit l k (Nat.lt_of_succ_lt_succ h)
    have := m2 x
    have := Int.emod_lt_of_pos x (b := 2) (by decide)
    show l.getD k 0 % 2 = if (2 * odW l + (x % 2).toNat).testBit (k + 1) = true then 1 else 0
    rw [Nat.testBit_succ, show (2 * odW l + (x % 2).toNat) / 2 = odW l by omega]
    exact ih
theorem odW_odd (l : List Int) : oddW l = odW l := Lp.odd (n := l.length) ⟨rfl, odW_bit l⟩ (odW_lt l)
/-! the numbers due -/
def duS (L : List Nat) : List Int → List (List Int) → List Int
  | T, [] => T
  | T, l :: ls => duS L (if odW l ∈ L then T.set (sqs l).toNat (T.getD (sqs l).toNat 0 + 1) else T) ls
theorem duS_len {L : List Nat} : ∀ {ls : List (List Int)} {T : List Int}, (duS L T ls).length = T.length
  | [], _ => rfl
  | l :: ls, T => by
    show (duS L _ ls).length = _
    rw [duS_len]
    split
    · rw [List.length_set]
    · rfl
theorem duS_snoc {L : List Nat} {l : List Int} : ∀ {ls : List (List Int)} {T : List Int}, duS L T (ls ++ [l]) = if odW l ∈ L then (duS L T ls).set (sqs l).toNat ((duS L T ls).getD (sqs l).toNat 0 + 1) else duS L T ls
  | [], _ => rfl
  | c :: ls, T => by
    show duS L _ (ls ++ [l]) = _
    rw [duS_snoc]
    rfl
theorem duS_at {L : List Nat} {t : Nat} : ∀ {ls : List (List Int)} {T : List Int}, t < T.length →
    (duS L T ls).getD t 0 = T.getD t 0 + ((ls.filter fun l => decide (odW l ∈ L) && decide ((sqs l).toNat = t)).length : Int)
  | [], T, _ => (Int.add_zero _).symm
  | l :: ls, T, h => by
    show (duS L _ ls).getD t 0 = _
    by_cases c : odW l ∈ L
    · rw [if_pos c, duS_at (by rw [List.length_set]; exact h)]
      by_cases c2 : (sqs l).toNat = t
      · rw [List.filter_cons_of_pos (by rw [decide_eq_true c, decide_eq_true c2]; rfl), List.length_cons, c2, List.getD_eq_getElem?_getD, List.getElem?_set_self h]
        show T.getD t 0 + 1 + _ = _
        omega
      · rw [List.filter_cons_of_neg (by rw [decide_eq_false c2, Bool.and_false]; decide), List.getD_eq_getElem?_getD, List.getElem?_set_ne c2, ← List.getD_eq_getElem?_getD]
    · rw [if_neg c, duS_at h, List.filter_cons_of_neg (by rw [decide_eq_false c, Bool.false_and]; exact Bool.false_ne_true)]
theorem filt_add {α : Type} {p q r : α → Bool} (h : ∀ x, p x = (q x || r x)) (d : ∀ x, (q x && r x) = false) : ∀ l : List α, (l.filter p).length = (l.filter q).length + (l.filter r).length
  | [] => rfl
  | x :: l => by
    have ih := filt_add h d l
    have e := h x
    have d := d x
    cases hq : q x with
    | true =>
      rw [hq] at e d
      rw [List.filter_cons_of_pos e, List.filter_cons_of_pos hq, List.filter_cons_of_neg (by rw [show r x = false from d]; decide), List.length_cons, List.length_cons, ih]
      omega
    | false =>
      cases hr : r x with
      | true =>
        rw [hq, hr] at e
        rw [List.filter_cons_of_pos e, List.filter_cons_of_neg (by rw [hq]; decide), List.filter_cons_of_pos hr, List.length_cons, List.length_cons, ih]
        omega
      | false =>
        rw [hq, hr] at e
        rw [List.filter_cons_of_neg (by rw [e]; decide), List.filter_cons_of_neg (by rw [hq]; decide), List.filter_cons_of_neg (by rw [hr]; decide), ih]
theorem filt_mem {α : Type} {f : α → Nat} {q : α → Bool} {ls : List α} : ∀ {L : List Nat}, L.Nodup →
    ((ls.filter fun l => decide (f l ∈ L) && q l).length : Int) = (L.map fun u => ((ls.filter fun l => decide (f l = u) && q l).length : Int)).sum
  | [], _ => by
    have e : (ls.filter fun l => decide (f l ∈ ([] : List Nat)) && q l) = [] := List.filter_eq_nil_iff.mpr fun x _ => by
      rw [decide_eq_false (List.not_mem_nil), Bool.false_and]
      exact Bool.false_ne_true
    rw [e]
    rfl
  | u :: L, nd => by
    obtain ⟨n1, n2⟩ := List.nodup_cons.mp nd
    rw [List.map_cons, List.sum_cons, ← filt_mem n2]
    have := filt_add (p := fun l => decide (f l ∈ u :: L) && q l) (q := fun l => decide (f l = u) && q l) (r := fun l => decide (f l ∈ L) && q l) (fun x => by
      cases q x
      · rw [Bool.and_false, Bool.and_false, Bool.and_false]
        rfl
      · rw [Bool.and_true, Bool.and_true, Bool.and_true]
        by_cases c : f x = u
        · rw [decide_eq_true c, decide_eq_true (List.mem_cons.mpr (.inl c))]
          rfl
        · rw [decide_eq_false c, Bool.false_or]
          by_cases c2 : f x ∈ L
          · rw [decide_eq_true c2, decide_eq_true (List.mem_cons.mpr (.inr c2))]
          · rw [decide_eq_false c2, decide_eq_false fun z => (List.mem_cons.mp z).elim c c2]) (fun x => by
      by_cases c : f x = u
      · have : ¬ f x ∈ L := fun z => n1 (c ▸ z)
        rw [decide_eq_false this, Bool.false_and, Bool.and_false]
      · rw [decide_eq_false c]
        rfl) ls
    omega
theorem sum_pick {a : Nat} {c : Nat → Int} : ∀ {N : Nat}, ((List.range N).map fun i => if a = i then c i else 0).sum = if a < N then c a else 0
  | 0 => rfl
  | N + 1 => by
    rw [List.range_succ, List.map_append, List.sum_append, sum_pick]
    show _ + ((if a = N then c N else 0) + 0) = _
    by_cases e : a = N
    · rw [if_neg (by omega), if_pos e, if_pos (by omega), e]
      omega
    · rw [if_neg e]
      by_cases l : a < N
      · rw [if_pos l, if_pos (by omega)]
        omega
      · rw [if_neg l, if_neg (by omega)]
        rfl
theorem sum_map_add {α : Type} {f g : α → Int} : ∀ l : List α, (l.map fun x => f x + g x).sum = (l.map f).sum + (l.map g).sum
  | [] => rfl
  | x :: l => by
    rw [List.map_cons, List.sum_cons, sum_map_add l, List.map_cons, List.sum_cons, List.map_cons, List.sum_cons]
    omega
theorem cnt_sum {c : Nat → Int} {N : Nat} : ∀ {L : List Nat}, (∀ u ∈ L, pc u < N) → ((List.range N).map fun i => ((L.filter fun w => decide (pc w = i)).length : Int) * c i).sum = (L.map fun u => c (pc u)).sum
  | [], _ => by
    have : ((List.range N).map fun i => (((([] : List Nat).filter fun w => decide (pc w = i)).length : Nat) : Int) * c i) = (List.range N).map fun _ => 0 := List.map_congr_left fun i _ => Int.zero_mul _
    rw [this]
    generalize List.range N = l
    induction l with
    | nil => rfl
    | cons x l ih => rw [List.map_cons, List.sum_cons, ih]; rfl
  | u :: L, h => by
    have e : ((List.range N).map fun i => (((u :: L).filter fun w => decide (pc w = i)).length : Int) * c i) = (List.range N).map fun i => (if pc u = i then c i else 0) + ((L.filter fun w => decide (pc w = i)).length : Int) * c i := List.map_congr_left fun i _ => by
      by_cases k : pc u = i
      · rw [List.filter_cons_of_pos (p := fun w => decide (pc w = i)) (decide_eq_true k), List.length_cons, if_pos k, show ((((L.filter fun w => decide (pc w = i)).length + 1 : Nat)) : Int) = ((L.filter fun w => decide (pc w = i)).length : Int) + 1 from rfl, Int.add_mul, Int.one_mul, Int.add_comm]
      · rw [List.filter_cons_of_neg (p := fun w => decide (pc w = i)) (by rw [decide_eq_false k]; exact Bool.false_ne_true), if_neg k, Int.zero_add]
    rw [e, sum_map_add, sum_pick, if_pos (h u List.mem_cons_self), cnt_sum fun v hv => h v (List.mem_cons_of_mem _ hv)]
    rfl
theorem dF_rowP {L : List Nat} {n : Nat} {c : Nat → Int} (h : ∀ u ∈ L, pc u ≤ n) : dF (iz (rowP pc n L)) c = (L.map fun u => c (pc u)).sum := by
  have e : iz (rowP pc n L) = (List.range (n + 1)).map fun i => ((L.filter fun w => decide (pc w = i)).length : Int) := by
    unfold rowP iz
    rw [List.map_map]
    rfl
  rw [e, dF_map (c := c) (d := c) (fun k hk => by
    rw [List.length_range] at hk
    rw [List.getD_eq_getElem?_getD, List.getElem?_range hk]
    rfl)]
  exact cnt_sum fun u hu => Nat.lt_succ_of_le (h u hu)
def cdL (n : Nat) : List Nat := (LLf n).map fun l => 10 * odW l + (sqs l).toNat
theorem cds_all : ∀ n < 5, ∀ u < 2 ^ n, ∀ t < 10, (((cdL n).filter fun c => decide (c = 10 * u + t)).length : Int) = tf n (pc u) t := by decide +kernel
theorem cd_at {n u t : Nat} (hn : n < 5) (hu : u < 2 ^ n) (ht : t < 10) : (((LLf n).filter fun l => decide (odW l = u) && decide ((sqs l).toNat = t)).length : Int) = tf n (pc u) t := by
  rw [← cds_all n hn u hu t ht]
  unfold cdL
  rw [List.filter_map, List.length_map]
  refine congrArg (fun l : List (List Int) => ((l.length : Nat) : Int)) (List.filter_congr fun l hl => ?_)
  have := (LLf_mem hl).2.2
  show _ = decide (10 * odW l + (sqs l).toNat = 10 * u + t)
  by_cases c : 10 * odW l + (sqs l).toNat = 10 * u + t
  · rw [decide_eq_true c, decide_eq_true (by omega : odW l = u), decide_eq_true (by omega : (sqs l).toNat = t)]
    rfl
  · rw [decide_eq_false c]
    by_cases d : odW l = u
    · rw [decide_eq_false (by omega : ¬ (sqs l).toNat = t), Bool.and_false]
    · rw [decide_eq_false d]
      rfl
theorem due_is {n : Nat} {ws L : List Nat} (hn : n ≤ 4) (lt : ∀ v ∈ ws, v < 2 ^ n) (hL : SpanN ws L) : duS L (List.replicate 10 0) (LLf n) = ctd n 9 (iz (rowB n (bas ws))) := by
  have lr : (iz (rowB n (bas ws))).length = n + 1 := by rw [iz_len]; exact rowP_len ..
  have lu : ∀ u ∈ L, u < 2 ^ n := fun u hu => span_lt lt ((hL.1 u).mp hu)
  refine ext_getD (n := 10) (by rw [duS_len, List.length_replicate]) ctd_len fun t ht => ?_
  rw [ctd_at (by decide) lr (by omega), ← rows_any (by omega) lt hL, dF_rowP (fun u hu => pc_le_n (by omega) (lu u hu)), duS_at (by rw [List.length_replicate]; exact ht), filt_mem hL.2]
  have z : (List.replicate 10 (0 : Int)).getD t 0 = 0 := by
    rw [List.getD_eq_getElem?_getD, List.getElem?_replicate_of_lt ht]
    rfl
  rw [z, Int.zero_add]
  exact congrArg List.sum (List.map_congr_left fun u hu => cd_at (by omega) (lu u hu) ht)
theorem ctd_same {n s : Nat} {R : List Nat} (lr : (iz R).length = n + 1) (hs : s < 10) : (ctd n s (iz R)).getD s 0 = (ctd n 9 (iz R)).getD s 0 := by
  rw [ctd_at (by omega) lr (Nat.le_refl s), ctd_at (by decide) lr (by omega)]
theorem ctd_take {n s : Nat} {R : List Nat} (lr : (iz R).length = n + 1) (hs : s < 10) : ctd n s (iz R) = (ctd n 9 (iz R)).take (s + 1) := by
  refine ext_getD (n := s + 1) ctd_len (by rw [List.length_take, ctd_len]; omega) fun t ht => ?_
  rw [take_getD ht, ctd_at (by omega) lr (by omega), ctd_at (by decide) lr (by omega)]
theorem rng_getD {T : List Int} {n : Nat} (h : T.length = n) : ((List.range n).map fun s => T.getD s 0) = T := by
  refine ext_getD (n := n) (by rw [List.length_map, List.length_range]) h fun t ht => ?_
  rw [List.getD_eq_getElem?_getD, List.getElem?_map, List.getElem?_range ht]
  rfl
end Vf
set_option Elab.async false
set_option linter.all false
set_option maxRecDepth 100000
set_option maxHeartbeats 4000000
set_option pp.maxSteps 300
namespace Vf
open PySem PySem.Spec PyProof.Rows L2
variable {W : Wd}
section
variable {Ds Es : EnvT W} {ta tb tc tl te : TE} {tt : TT} {t : TA} {tu : TS} {d d1 : Dn W} {xs : List V} {i j m N : Nat} {K : PySem.W.Frag}
/-- a value, a value told in part and a new list, as a tuple told apart -/
theorem sv_unpDXC {ι : Type} {R : ι → Prop} {f : ι → Dn W} (h1 : EV Ds ta d1) (h2 : EV Ds tb (dEx R f)) (h : FL Ds tc xs) (r : ∀ x, R x → SVC (((Ds.set i (some d1)).set m (some (f x))).set j none) [(j, xs)] tu d) (hj : Nat.ble (j + 1) Ds.n = true := by rfl) :
    SV Ds (tSeq (tAsg (tTup (tCons ta (tCons tb (tCons tc tNil)))) (gTup K 3 (gCons (gName i) (gCons (gName m) (gCons (gName j) gNil))))) tu) d := fun D σ H iv en q =>
  h1 σ H _ iv en fun v H1 l1 o1 => h2 σ H1 _ (W.step l1 iv) (en.st l1) fun u H2 l2 ⟨x, rx, o2⟩ => h σ H2 _ (W.step l2 (W.step l1 iv)) ((en.st l1).st l2) fun p H3 np fp l3 e3 => by
    have l12 : W.L H H2 := W.trans l1 l2
    have LG : W.L H (del p H3) := W.trans l12 l3
    refine ⟨by show 3 ≤ sizeLine; decide, fun T nT => ?_⟩
    have ne_ : T ≠ p := fun z => by
      subst z
      rw [nT] at e3
      cases e3
    have nTd : del p H3 T = none := by rw [del_ne ne_]; exact nT
    have LT : W.L (del p H3) (upd (del p H3) T (.tup [v, u, .ref p])) := W.put (W.step LG iv) (W.refl _) nTd
    refine ⟨T, _, rfl, .inl (.inl upd_same), rfl, _, _, rfl, _, _, rfl, _, _, rfl, rfl, ?_⟩
    have ce : CE W [(j, xs)] (((σ.set i (some v)).set m (some u)).set j (some (.ref p))) (upd H3 T (.tup [v, u, .ref p])) (upd (del p H3) T (.tup [v, u, .ref p])) := by
      refine ⟨p, ?_, fp, by rw [upd_ne (Ne.symm ne_)]; exact e3, ?_⟩
      · exact List.getElem?_set_self (by rw [List.length_set, List.length_set, en.1]; exact Nat.le_of_ble_eq_true hj)
      · show _ = del p (upd H3 T _)
        rw [del_upd_ne ne_]
    exact r x rx D _ _ _ ce (W.step LT (W.step LG iv)) ((((en.st (W.trans LG LT)).set (d := d1) (d1.st (W.trans (W.trans l2 l3) LT) o1)).set (d := f x) ((f x).st (W.trans l3 LT) o2)).dropS) fun v3 H4 l4 o => q v3 H4 (W.trans LG (W.trans LT l4)) o
/-- a list of things by a comprehension with a test over a list of things -/
theorem ev_lcUF {ι : Type} (ue : List (Nat × UD)) (us : List ι) (fu gu : ι → UD) (p : ι → Bool) (hl : EV Ds tl (dLD (uDs (us.map fu) W))) (he : ∀ σ H, EnvL Ds σ H → EnvL (uEnv N ue W) σ H) (hz : us.length ≤ 100000)
    (ht : ∀ (W' : Wd), ∀ u ∈ us, TV ((uEnv N ue W').set i (some ((fu u).f W'))) tt (p u))
    (hb : ∀ (W' : Wd), ∀ u ∈ us, p u = true → EV ((uEnv N ue W').set i (some ((fu u).f W'))) te ((gu u).f W')) : EV Ds (tLc (iList K tl) (gName i) tt te [i]) (dLD (uDs ((us.filter p).map gu) W)) := fun σ H Q iv en q =>
  hl σ H _ iv en fun v H1 l1 ⟨a, xs, e, ga, h, oxs⟩ => by
    subst e
    have iv1 := W.step l1 iv
    have len := oxs.length
    unfold uDs at len
    rw [List.length_map, List.length_map] at len
    refine ⟨a, rfl, ⟨xs, .inl (.inl h)⟩, fun D nD => ?_⟩
    have fD : W.F D := W.fresh iv1 nD
    have en1 := uEnv_lift fD nD (he _ _ (en.st l1))
    have ox1 := uDs_lift fD nD oxs
    refine lc_list (K := K) (a := a) (xs := xs) (fun k H' => W.L H1 H' ∧ (∃ ys, H' D = some (.lst ys) ∧ OkL (uDs (((us.take k).filter p).map gu) (awayW W D fD)) ys H') ∧ EnvL (uEnv N ue (awayW W D fD)) σ H' ∧ OkL (uDs (us.map fu) (awayW W D fD)) xs H')
      ⟨W.put iv1 (W.refl H1) nD, ⟨[], upd_same, trivial⟩, uEnv_stay fD en1, uDs_stay fD ox1⟩ (fun k H' _ hP => .inl (.inl (W.keep ga hP.1 h))) (fun k x H' hx hP => ?_) fun H' hP => ?_
    · obtain ⟨lP, ⟨ys, eD, oy⟩, eP, oP⟩ := hP
      have lk : k < us.length := by
        rw [← len]
        exact (List.getElem?_eq_some_iff.mp hx).1
      have hd : us[k]? = some us[k] := List.getElem?_eq_getElem lk
      obtain ⟨x', hx', ox⟩ := oP.get (k := k) (d := (fu us[k]).f (awayW W D fD)) (by unfold uDs; rw [List.getElem?_map, List.getElem?_map, hd]; rfl)
      rw [hx] at hx'
      cases hx'
      have iv' : (awayW W D fD).inv H' := ⟨W.step lP iv1, ys, eD⟩
      have en' : EnvL ((uEnv N ue (awayW W D fD)).set i (some ((fu us[k]).f (awayW W D fD)))) ((wipe σ [i]).set i (some x)) H' := env_lc ox eP
      have tk : (us.take (k + 1)).filter p = (us.take k).filter p ++ [us[k]].filter p := by
        rw [List.take_add_one, hd, List.filter_append]
        rfl
      refine ⟨wipe_lc, ht (awayW W D fD) us[k] (List.getElem_mem lk) _ H' _ iv' en' fun H2 l2 => ?_⟩
      cases hp : p us[k] with
      | true =>
        refine (if_pos rfl).mpr (hb (awayW W D fD) us[k] (List.getElem_mem lk) hp _ H2 _ ((awayW W D fD).step l2 iv') (en'.st l2) fun y H3 l3 o3 => ?_)
        have l23 : (awayW W D fD).L H' H3 := (awayW W D fD).trans l2 l3
        have eD3 : H3 D = some (.lst ys) := W.keep fD l23 eD
        have ly := oy.length
        unfold uDs at ly
        rw [List.length_map, List.length_map] at ly
        have lf := List.length_filter_le p (us.take k)
        rw [List.length_take] at lf
        refine ⟨ys, eD3, sl_lt (by omega), W.put iv1 (W.trans lP l23) nD, ⟨ys ++ [y], upd_same, ?_⟩, uEnv_stay fD (eP.st l23), uDs_stay fD (oP.st l23)⟩
        rw [tk, List.filter_cons_of_pos hp]
        have e2 : uDs (((us.take k).filter p ++ us[k] :: [].filter p).map gu) (awayW W D fD) = uDs (((us.take k).filter p).map gu) (awayW W D fD) ++ [(gu us[k]).f (awayW W D fD)] := by
          unfold uDs
          rw [List.map_append, List.map_append]
          rfl
        rw [e2]
        exact OkL.app (uDs_stay fD (oy.st l23)) ⟨(gu us[k]).stay fD o3, trivial⟩
      | false =>
        refine (if_neg (by decide)).mpr ⟨W.trans lP l2, ⟨ys, W.keep fD l2 eD, ?_⟩, eP.st l2, oP.st l2⟩
        rw [tk, List.filter_cons_of_neg (by rw [hp]; decide), List.filter_nil, List.append_nil]
        exact oy.st l2
    · obtain ⟨lP, ⟨ys, eD, oy⟩, eP, oP⟩ := hP
      refine q _ H' (W.trans l1 lP) ⟨D, ys, rfl, fD, eD, ?_⟩
      have e3 : us.take xs.length = us := List.take_of_length_le (by omega)
      rw [e3] at oy
      exact uDs_drop fD oy
theorem ev_tupI (l : List Int) (h : AV Ds t (l.map fun n => dI n)) (hn : l.length ≤ 1000) : EV Ds (tTup t) (dTup (l.map V.int)) := ev_wk (ev_tup h (by rw [List.length_map]; omega)) fun v H ⟨a, xs, e, g, h3, o⟩ => by
  have := ok_dV (xs := l.map V.int) (vs := xs) (W := W) (H := H) (by
    rw [List.map_map]
    exact o)
  subst this
  exact ⟨a, e, g, h3⟩
end
theorem od_pow24 : OpD (W := W) (rI CPow fun i j => .int (i ^ j.toNat)) (dN 2) (dN 4) (dN (2 ^ 4)) := fun u v H Q iv e1 e2 k => ⟨2, 4, e1, e2, (show (0 : Int) ≤ 4 ∧ (4 : Int) ≤ 1000000 ∧ (2 : Int).natAbs < 2 ^ 64 by decide), k _ H (W.refl H) rfl⟩
def uT (l : List Int) : UD := uTup (l.map V.int)
theorem offu_T (ls : List (List Int)) : ∀ w ∈ ls.map uT, OffU w := fun w hw => by
  obtain ⟨l, _, rfl⟩ := List.mem_map.mp hw
  exact offu_Tup _
section
variable {n m : Nat} {R : List Nat} {l L : List Int} {ls : List (List Int)} {p C : Addr}
def dTs (ls : List (List Int)) : Dn W := dLD (uDs (ls.map uT) W)
def sp_llists86 : Sp := spW (ι := Nat) (fun _ n => n ≤ 4) (fun _ n => [dN n]) fun _ n => dTs (LLf n)
theorem sd_llists86 (h : n ≤ 4) : SpD sp_llists86 [] [(dN n : Dn W)] (dTs (LLf n)) := spW_sd (i := n) h
def sp_loddw : Sp := spW (ι := List Int) (fun _ l => l.length ≤ 24) (fun _ l => [dTup (l.map V.int)]) fun _ l => dN (odW l)
theorem sd_loddw (h : l.length ≤ 24) : SpD sp_loddw [] [(dTup (l.map V.int) : Dn W)] (dN (odW l)) := spW_sd (i := l) h
structure Pk86 (W : Wd) (i : Addr × List (List Int)) : Prop where
  hp : IsPot W i.1
  n0 : 0 < i.2.length
  sm : i.2.length ≤ 10000
def sp_pick86 : Sp := spW (ι := Addr × List (List Int)) (fun W i => Pk86 W i) (fun _ i => [dV (.ref i.1), dTs i.2]) fun _ i => dEx (fun l => l ∈ i.2) fun l => dTup (l.map V.int)
theorem sd_pick86 (hp : IsPot W p) (h : 0 < ls.length) (h2 : ls.length ≤ 10000) : SpD sp_pick86 [] [dV (.ref p), dTs ls] (dEx (fun l => l ∈ ls) fun l => (dTup (l.map V.int) : Dn W)) := spW_sd (i := (p, ls)) ⟨hp, h, h2⟩
def sp_ctdF : Sp := spF (ι := List Int × Nat) (fun _ i => CtdP i) (fun _ i => [dIs i.1, dN i.2]) fun i => (ctd (i.1.length - 1) i.2 i.1).map V.int
theorem fl_ctdF {Ds : EnvT W} {t : TA} (h : CtdP (L, m)) (ha : AV Ds t [dIs L, dN m]) : FL Ds (tCall sp_ctdF [] E0 t) ((ctd (L.length - 1) m L).map V.int) := fl_call (P := fun _ i => CtdP i) (ds := fun _ i => [dIs i.1, dN i.2]) (i := (L, m)) (ys := fun i : List Int × Nat => (ctd (i.1.length - 1) i.2 i.1).map V.int) h ha
theorem sd_ctdF (h : CtdP (L, m)) : SpD sp_ctdF [] [(dIs L : Dn W), dN m] (dIs (ctd (L.length - 1) m L)) := spF_sd (P := fun _ i => CtdP i) (ds := fun _ i => [dIs i.1, dN i.2]) (i := (L, m)) (ys := fun i : List Int × Nat => (ctd (i.1.length - 1) i.2 i.1).map V.int) h
noncomputable def sp_vrowF (C : Addr) : Sp := spF (ι := Nat × List Nat × Nat) (fun _ i => VecP i) (fun _ i => [dRoom C i.1 i.2.1, dN i.2.2]) fun i => (ctd i.1 i.2.2 (iz (rowB i.1 i.2.1))).map V.int
theorem fl_vrowF {Ds : EnvT W} {t : TA} (h : VecP (n, R, m)) (ha : AV Ds t [dRoom C n R, dN m]) : FL Ds (tCall (sp_vrowF C) [] E0 t) ((ctd n m (iz (rowB n R))).map V.int) := fl_call (P := fun _ i => VecP i) (ds := fun _ i => [dRoom C i.1 i.2.1, dN i.2.2]) (i := (n, R, m)) (ys := fun i : Nat × List Nat × Nat => (ctd i.1 i.2.2 (iz (rowB i.1 i.2.1))).map V.int) h ha
theorem sd_vrowF (h : VecP (n, R, m)) : SpD (sp_vrowF C) [] [(dRoom C n R : Dn W), dN m] (dIs (ctd n m (iz (rowB n R)))) := spF_sd (P := fun _ i => VecP i) (ds := fun _ i => [dRoom C i.1 i.2.1, dN i.2.2]) (i := (n, R, m)) (ys := fun i : Nat × List Nat × Nat => (ctd i.1 i.2.2 (iz (rowB i.1 i.2.1))).map V.int) h
end
end Vf
set_option Elab.async false
set_option linter.all false
set_option maxRecDepth 100000
set_option maxHeartbeats 4000000
set_option pp.maxSteps 300
namespace Vf
open PySem PySem.Spec PyProof.Rows L2
variable {W : Wd}
theorem op_catAS {X : Cx} (K : PySem.W.Frag) (h : X.K = K := by rfl) : L2.OpR X (binaryOp .Add) (rCatA K) := h ▸ op_catA
section
variable {Ds Es : EnvT W} {ta tb tc tl te : TE} {tt : TT} {t : TA} {ts tu : TS} {d d1 : Dn W} {xs : List V} {l : List Int} {ls : List (List Int)} {cs : List (Nat × List V)} {i j m N : Nat} {K : PySem.W.Frag} {ue : List (Nat × UD)}
/-- for x in a tuple -/
theorem nv_forT (E : Nat → EnvT W) (hl : EV Ds tl (dTup xs)) (h0 : ∀ σ H, EnvL Ds σ H → EnvL (E 0) σ H) (hb : ∀ k x, xs[k]? = some x → NV ((E k).set i (some (dV x))) ts (E (k + 1))) : NV Ds (tFor (iTup K tl) (gName i) ts) (E xs.length) := fun D σ H iv en q =>
  hl σ H _ iv en fun v H1 l1 ⟨a, e, g, h⟩ => by
    subst e
    have iv1 := W.step l1 iv
    refine ⟨a, rfl, ⟨xs, SqT.of h⟩, ?_⟩
    refine for_tup (K := K) (a := a) (xs := xs) (fun k σ' H' => W.L H1 H' ∧ EnvL (E k) σ' H') ⟨W.refl _, h0 _ _ (en.st l1)⟩ (fun k σ' H' _ hP => SqT.of (W.keep g hP.1 h)) (fun k x σ' H' hx hP => ?_) fun σ' H' hP => q σ' H' (W.trans l1 hP.1) hP.2
    exact hb k x hx _ _ H' (W.step hP.1 iv1) (hP.2.set rfl) fun σ2 H2 l2 e2 => ⟨W.trans hP.1 l2, e2⟩
theorem ev_lcTI {g : Int → Int} (hl : EV Ds tl (dTup (l.map V.int))) (hz : l.length ≤ 100000) (hb : ∀ x ∈ l, EV (Ds.set i (some (dI x))) te (dI (g x))) : EV Ds (tLc (iTup K tl) (gName i) tYes te [i]) (dIs (l.map g)) := by
  have h := ev_lcT (K := K) (i := i) (tt := tYes) (te := te) (p := fun _ => true) (g := fun v => match v with | .int x => V.int (g x) | _ => V.non) hl (by rw [len_is]; exact hz) (fun x hx => tv_yes) fun x hx hp => by
    obtain ⟨c, hc, rfl⟩ := List.mem_map.mp hx
    exact hb c hc
  rw [filt_true, List.map_map] at h
  unfold dIs
  rw [List.map_map]
  exact h
theorem ev_revTI (h : EV Ds te (dTup (l.map V.int))) : EV Ds (tRevT K te) (dTup (l.reverse.map V.int)) := fun σ H Q iv en q => h σ H _ iv en fun v H1 l1 ⟨p, e, g, h1⟩ => by
  subst e
  have iv1 := W.step l1 iv
  refine ⟨p, l.map V.int, rfl, SqT.of h1, fun p2 np => q _ _ (W.trans l1 (W.put iv1 (W.refl _) np)) ⟨p2, rfl, W.fresh iv1 np, ?_⟩⟩
  rw [upd_same, List.map_reverse]
theorem okT_off {W' : Wd} {H G : Hp} (h : ∀ a, W'.F a → W.F a ∧ G a = H a) : ∀ {ls : List (List Int)} {xs : List V}, OkL (uDs (ls.map uT) W') xs H → OkL (uDs (ls.map uT) W) xs G
  | [], [], _ => trivial
  | l :: ls, x :: xs, ⟨⟨a, e, g, ha⟩, r⟩ => by
    obtain ⟨f, ge⟩ := h a g
    exact ⟨⟨a, e, f, ge.trans ha⟩, okT_off h r⟩
  | [], _ :: _, k => k.elim
  | _ :: _, [], k => k.elim
/-- x = a list of tuples, beside cells -/
theorem svc_setT (hd : ∀ σ H, EnvL Ds σ H → EnvL (uEnv N ue W) σ H) (h : ∀ W', Wle W W' → EV (uEnv N ue W') te (dTs ls)) (r : SVC (Ds.set i (some (dTs ls))) cs tu d) (k : (cs.all fun c => !(Nat.beq c.1 i)) = true := by rfl) : SVC Ds cs (tSeq (tAsg te (gName i)) tu) d := fun D σ H G ce iv en q => by
  obtain ⟨W', o, iv', en'⟩ := ce_off ce iv (hd _ _ en)
  refine h W' o.le σ H _ iv' en' fun v H1 l1 ⟨a, xs, e, fa, ha, ox⟩ => ?_
  subst e
  obtain ⟨G1, c1, lG⟩ := ce.go (o.L l1)
  obtain ⟨g1, g2⟩ := o.F fa
  refine r D _ H1 G1 (c1.slot k) (W.step lG iv) ((en.st lG).set (d := dTs ls) (v := .ref a) ⟨a, xs, rfl, g1, by rw [ce_same c1 g2]; exact ha, okT_off (fun b fb => ?_) ox⟩) fun v H2 l2 o2 => q v H2 (W.trans lG l2) o2
  obtain ⟨f1, f2⟩ := o.F fb
  exact ⟨f1, ce_same c1 f2⟩
theorem ts_get {k : Nat} (h : ls[k]? = some l) : (uDs (ls.map uT) W)[k]? = some (dTup (l.map V.int)) := by
  unfold uDs
  rw [List.getElem?_map, List.getElem?_map, h]
  rfl
theorem ts_back {k : Nat} (h : (uDs (ls.map uT) W)[k]? = some d) : ∃ l, ls[k]? = some l ∧ d = dTup (l.map V.int) := by
  unfold uDs at h
  rw [List.getElem?_map, List.getElem?_map] at h
  cases e : ls[k]? with
  | none => rw [e] at h; cases h
  | some l => rw [e] at h; exact ⟨l, rfl, (Option.some.inj h).symm⟩
theorem ts_len : (uDs (ls.map uT) W).length = ls.length := by
  unfold uDs
  rw [List.length_map, List.length_map]
end
end Vf
set_option Elab.async false
set_option linter.all false
set_option maxRecDepth 100000
set_option maxHeartbeats 1000000
set_option pp.maxSteps 300
namespace K86
open PySem PySem.Spec PyProof.Rows L2 Vf
abbrev topS (i : Nat) : Stmt := PySem.Challenge.pw_owncontraries_k86_whole_vectors_listed.main.body.getD i (.Pass ⟨0, 0, 0, 0⟩)
section
variable {P : Program} {w : World} {K : PySem.W.Frag} {mg : Str → Option Value} {base : Heap} {C : Addr}
abbrev s_is_integer : Stmt := topS 1
abbrev N_is_integer : List Str := ["value"]
theorem sc_is_integer : FnScope N_is_integer ["value"] (defScope s_is_integer) := ⟨rfl, rfl, rfl, by decide +kernel, rfl, by decide +kernel, by decide +kernel⟩
theorem ok_is_integer {f : Addr} {fd : FuncData} (F : Fun K "is_integer" "is_integer" s_is_integer f fd) (m_isinstance : mg "isinstance" = none) (m_int : mg "int" = none) (m_bool : mg "bool" = none) :
    FnOk P w K mg base CX0 1 f fd ["value"] sp_is_integer := by
  refine F.ok sc_is_integer (fun vs H Q E h => ?_) (fun cdv A outer s H vs Q E hr h => ?_)
  · obtain ⟨i, rfl, _⟩ := h
    rfl
  · obtain ⟨i, rfl, q⟩ := h
    refine ⟨_, (pss_one (ps_ret (pe_and (pe_callB call_isi (by rfl) m_isinstance (by decide +kernel) (pa_cons (pv 0) (pa_cons (pe_bltn (v := .ty "int") (by rfl) m_int (by decide +kernel) rfl) pa_nil))) (pe_one (pe_not (pe_callB call_isi (by rfl) m_isinstance (by decide +kernel) (pa_cons (pv 0) (pa_cons (pe_bltn (v := .ty "bool") (by rfl) m_bool (by decide +kernel) rfl) pa_nil)))))))), ?_⟩
    refine ⟨.int i, rfl, .int i, .ty "int", .type "int", .type "int", true, rfl, .ty _, .base (.int i), kit_ty (by decide +kernel), true, rfl, iteT ?_⟩
    exact ⟨.int i, rfl, .int i, .ty "bool", .type "int", .type "bool", false, rfl, .ty _, .base (.int i), kit_ty (by decide +kernel), false, rfl, q⟩
abbrev s_is_count : Stmt := topS 2
abbrev N_is_count : List Str := ["value"]
theorem sc_is_count : FnScope N_is_count ["value"] (defScope s_is_count) := ⟨rfl, rfl, rfl, by decide +kernel, rfl, by decide +kernel, by decide +kernel⟩
theorem ok_is_count {f : Addr} {fd : FuncData} (F : Fun K "is_count" "is_count" s_is_count f fd) (C_is_integer : Cal P w K mg base "is_integer" 1 ["value"] [] sp_is_integer) :
    FnOk P w K mg base CX0 2 f fd ["value"] sp_is_count := by
  refine F.ok sc_is_count (fun vs H Q E h => ?_) (fun cdv A outer s H vs Q E hr h => ?_)
  · obtain ⟨i, rfl, _⟩ := h
    rfl
  · obtain ⟨i, rfl, q⟩ := h
    refine ⟨_, (pss_one (ps_ret (pe_and (pe_cal C_is_integer (hr.mono (by decide)) (by rfl) (pa_cons (pv 0) pa_nil)) (pe_one (pe_cmpR op_ge (pv 0) pe_int (nomark _)))))), ?_⟩
    refine ⟨.int i, rfl, i, rfl, true, rfl, iteT ?_⟩
    exact ⟨.int i, rfl, i, 0, rfl, rfl, q⟩
abbrev s_is_list : Stmt := topS 3
abbrev N_is_list : List Str := ["value"]
theorem sc_is_list : FnScope N_is_list ["value"] (defScope s_is_list) := ⟨rfl, rfl, rfl, by decide +kernel, rfl, by decide +kernel, by decide +kernel⟩
theorem ok_is_list {f : Addr} {fd : FuncData} (F : Fun K "is_list" "is_list" s_is_list f fd) (m_isinstance : mg "isinstance" = none) (m_list : mg "list" = none) (m_tuple : mg "tuple" = none) :
    FnOk P w K mg base CX0 1 f fd ["value"] sp_is_list := by
  refine F.ok sc_is_list (fun vs H Q E h => ?_) (fun cdv A outer s H vs Q E hr h => ?_)
  · obtain ⟨a, xs, rfl, _⟩ := h
    rfl
  · obtain ⟨a, xs, rfl, hS, q⟩ := h
    refine ⟨_, (pss_one (ps_ret (pe_callB call_isiT (by rfl) m_isinstance (by decide +kernel) (pa_cons (pv 0) (pa_cons (pe_tup (pa_cons (pe_bltn (v := .ty "list") (by rfl) m_list (by decide +kernel) rfl) (pa_cons (pe_bltn (v := .ty "tuple") (by rfl) m_tuple (by decide +kernel) rfl) pa_nil))) pa_nil))))), ?_⟩
    refine ⟨.ref a, rfl, by show 2 ≤ sizeLine; decide, fun t ht => ?_⟩
    have s1 : Same H (upd H t (.tup [.ty "list", .ty "tuple"])) := same_new ht
    rcases hS.same s1 with h1 | h1
    · exact ⟨.ref a, t, [.ty "list", .ty "tuple"], .type "list", [.type "list", .type "tuple"], true, rfl, upd_same, .cons (.ty _) (.cons (.ty _) .nil), .base (.lst h1),
        kitAny_cons (b := true) (kit_ty (by decide +kernel)) (fun z => by cases z) (fun _ => rfl), q _ s1⟩
    · exact ⟨.ref a, t, [.ty "list", .ty "tuple"], .type "tuple", [.type "list", .type "tuple"], true, rfl, upd_same, .cons (.ty _) (.cons (.ty _) .nil), .base (.tup h1),
        kitAny_cons (b := false) (kit_ty (by decide +kernel)) (fun _ => kitAny_cons (b := true) (kit_ty (by decide +kernel)) (fun z => by cases z) (fun _ => rfl)) (fun z => by cases z), q _ s1⟩
abbrev s_are_integers : Stmt := topS 4
abbrev N_are_integers : List Str := ["value", "number"]
theorem sc_are_integers : FnScope N_are_integers ["value"] (defScope s_are_integers) := ⟨rfl, rfl, rfl, by decide +kernel, rfl, by decide +kernel, by decide +kernel⟩
theorem ok_are_integers {f : Addr} {fd : FuncData} (F : Fun K "are_integers" "are_integers" s_are_integers f fd)
    (C_is_integer : Cal P w K mg base "is_integer" 1 ["value"] [] sp_is_integer)
    (C_is_list : Cal P w K mg base "is_list" 1 ["value"] [] sp_is_list)
    (m_all : mg "all" = none) :
    FnOk P w K mg base CX0 2 f fd ["value"] sp_are_integers := by
  refine fn_sv F sc_are_integers (fun _ _ => rfl) fun W i hP cdv A outer s H E hr => ⟨_, (pss_one (ps_ret (pe_and (pe_cal C_is_list (hr.mono (by decide)) (by rfl) (pa_cons (pv 0) pa_nil)) (pe_one (pe_callB (cr_all rfl) (by rfl) m_all (by decide +kernel) (pa_cons (pe_lc (own := [("number", 1)]) (g := gName 1) (by rfl) sc_are_integers.nd (pi_LT (pv 0)) (blkOk_by (own := [("number", 1)]) (N := N_are_integers) (sc := defScope s_are_integers) (by decide +kernel)) (fun _ _ _ _ _ => pg_name (i := 1) sc_are_integers.nd rfl (Or.inl rfl)) (fun _ _ _ _ _ => pts_nil) (fun _ _ _ _ _ => (pe_cal C_is_integer (hr.mono (by decide)) (by rfl) (pa_cons (pv 1) pa_nil)))) pa_nil)))))), ?_⟩
  have h : i.length ≤ 1000 := hP
  try dsimp only
  refine sv_ret (ev_eqD (ev_and (b2 := true) (ev_call sd_is_listX (av_cons (ev_var rfl) av_nil)) fun _ => ev_eqD (ev_cb cd_all (av_cons (ev_lcQT rfl qs_LT (by rw [len_is]; omega) fun x hx => ?_) av_nil)) (congrArg dB (all_rep _))) rfl)
  obtain ⟨y, _, rfl⟩ := List.mem_map.mp hx
  exact ev_call sd_is_integer (av_cons (ev_var rfl) av_nil)
abbrev s_is_places : Stmt := topS 20
abbrev N_is_places : List Str := ["value"]
theorem sc_is_places : FnScope N_is_places ["value"] (defScope s_is_places) := ⟨rfl, rfl, rfl, by decide +kernel, rfl, by decide +kernel, by decide +kernel⟩
theorem ok_is_places {f : Addr} {fd : FuncData} (F : Fun K "is_places" "is_places" s_is_places f fd) (C_is_integer : Cal P w K mg base "is_integer" 1 ["value"] [] sp_is_integer)
    {t : Tok} (g_MOST_PLACES : mg "MOST_PLACES" = some (.int 24 t)) : FnOk P w K mg base CX0 2 f fd ["value"] sp_is_places := by
  refine F.ok sc_is_places (fun vs H Q E h => ?_) (fun cdv A outer s H vs Q E hr h => ?_)
  · obtain ⟨i, rfl, _⟩ := h
    rfl
  · obtain ⟨n, rfl, h1, h2, q⟩ := h
    refine ⟨_, (pss_one (ps_ret (pe_and (pe_cal C_is_integer (hr.mono (by decide)) (by rfl) (pa_cons (pv 0) pa_nil)) (pe_one (pe_chain op_le op_le pe_int (pv 0) (pe_glob (v := .int 24) rfl g_MOST_PLACES ⟨_, rfl⟩)))))), ?_⟩
    refine ⟨.int n, rfl, n, rfl, true, rfl, iteT ?_⟩
    refine ⟨.int n, rfl, 1, n, rfl, rfl, true, bl_t (show (1 : Int) ≤ (n : Int) by omega), iteT ?_⟩
    refine ⟨n, 24, rfl, rfl, ?_⟩
    show Q (V.bl (decide ((n : Int) ≤ 24))) H
    rw [show decide ((n : Int) ≤ 24) = true from decide_eq_true (by omega)]
    exact q
abbrev s_check_places : Stmt := topS 21
abbrev N_check_places : List Str := ["places"]
theorem sc_check_places : FnScope N_check_places ["places"] (defScope s_check_places) := ⟨rfl, rfl, rfl, by decide +kernel, rfl, by decide +kernel, by decide +kernel⟩
theorem ok_check_places {f : Addr} {fd : FuncData} (F : Fun K "check_places" "check_places" s_check_places f fd) (C_is_places : Cal P w K mg base "is_places" 2 ["value"] [] sp_is_places) :
    FnOk P w K mg base CX0 3 f fd ["places"] sp_check_places := by
  refine F.ok sc_check_places (fun vs H Q E h => ?_) (fun cdv A outer s H vs Q E hr h => ?_)
  · obtain ⟨i, rfl, _⟩ := h
    rfl
  · obtain ⟨n, rfl, h1, h2, q⟩ := h
    refine ⟨_, (pss_one (ps_if (pt_not (pt_val (pe_cal C_is_places (hr.mono (by decide)) (by rfl) (pa_cons (pv 0) pa_nil)))) (pss_one ps_never) pss_nil)), ?_⟩
    exact ⟨.int n, rfl, n, rfl, h1, h2, true, rfl, iteF q⟩
abbrev s_is_word : Stmt := topS 22
abbrev N_is_word : List Str := ["places", "value"]
theorem sc_is_word : FnScope N_is_word ["places", "value"] (defScope s_is_word) := ⟨rfl, rfl, rfl, by decide +kernel, rfl, by decide +kernel, by decide +kernel⟩
theorem ok_is_word {f : Addr} {fd : FuncData} (F : Fun K "is_word" "is_word" s_is_word f fd) (C_check_places : Cal P w K mg base "check_places" 3 ["places"] [] sp_check_places) (C_is_count : Cal P w K mg base "is_count" 2 ["value"] [] sp_is_count) :
    FnOk P w K mg base CX0 4 f fd ["places", "value"] sp_is_word := by
  refine F.ok sc_is_word (fun vs H Q E h => ?_) (fun cdv A outer s H vs Q E hr h => ?_)
  · obtain ⟨i, j, rfl, _⟩ := h
    rfl
  · obtain ⟨n, m, rfl, h1, h2, q⟩ := h
    refine ⟨_, (pss_cons (ps_expr (pe_cal C_check_places (hr.mono (by decide)) (by rfl) (pa_cons (pv 0) pa_nil)))
    (pss_one (ps_ret (pe_and (pe_cal C_is_count (hr.mono (by decide)) (by rfl) (pa_cons (pv 1) pa_nil)) (pe_one (pe_cmpR op_lt (pv 1) (pe_op op_oneShl pe_int (pv 0)) (nomark _))))))), ?_⟩
    refine ⟨.int n, rfl, n, rfl, h1, h2, .int m, rfl, m, rfl, true, bl_t (show (0 : Int) ≤ (m : Int) by omega), iteT ?_⟩
    · refine ⟨.int m, rfl, .int n, rfl, n, rfl, rfl, by omega, m, 2 ^ n, rfl, rfl, ?_⟩
      have e : decide ((m : Int) < 2 ^ n) = decide (m < 2 ^ n) := by
        apply decide_eq_decide.mpr
        have e2 : (2 : Int) ^ n = ((2 ^ n : Nat) : Int) := by
          rw [Int.natCast_pow]
          rfl
        rw [e2]
        exact Int.ofNat_lt
      show Q (V.bl (decide ((m : Int) < 2 ^ n))) H
      rw [e]
      exact q
abbrev s_check_word : Stmt := topS 23
abbrev N_check_word : List Str := ["word", "places"]
theorem sc_check_word : FnScope N_check_word ["word", "places"] (defScope s_check_word) := ⟨rfl, rfl, rfl, by decide +kernel, rfl, by decide +kernel, by decide +kernel⟩
theorem ok_check_word {f : Addr} {fd : FuncData} {kws : List (Str × V)} (F : FunD K "check_word" "check_word" (defArgs s_check_word) (defBody s_check_word) (defScope s_check_word) [.int 24] kws f fd) (C_is_word : Cal P w K mg base "is_word" 4 ["places", "value"] [] sp_is_word) :
    FnOk P w K mg base CX0 5 f fd ["word", "places"] sp_check_word := by
  refine F.ok sc_check_word (fun vs H Q E h => ?_) (fun cdv A outer s H vs Q E hr h => ?_)
  · obtain ⟨i, j, rfl, _⟩ := h
    rfl
  · obtain ⟨m, n, rfl, n1, n2, h1, q⟩ := h
    refine ⟨_, (pss_one (ps_if (pt_not (pt_val (pe_cal C_is_word (hr.mono (by decide)) (by rfl) (pa_cons (pv 1) (pa_cons (pv 0) pa_nil))))) (pss_one ps_never) pss_nil)), ?_⟩
    exact ⟨.int n, rfl, .int m, rfl, n, m, rfl, n1, n2, true, bl_t h1, iteF q⟩
abbrev s_weight : Stmt := topS 24
abbrev N_weight : List Str := ["word", "left", "count"]
theorem sc_weight : FnScope N_weight ["word"] (defScope s_weight) := ⟨rfl, rfl, rfl, by decide +kernel, rfl, by decide +kernel, by decide +kernel⟩
theorem ok_weight {f : Addr} {fd : FuncData} (F : Fun K "weight" "weight" s_weight f fd) (C1_check_word : Cal P w K mg base "check_word" 5 ["word", "places"] [.int 24] sp_check_word) :
    FnOk P w K mg base CX0 6 f fd ["word"] sp_weight := by
  refine F.ok sc_weight (fun vs H Q E h => ?_) (fun cdv A outer s H vs Q E hr h => ?_)
  · obtain ⟨i, rfl, _⟩ := h
    rfl
  · obtain ⟨m, rfl, h1, q⟩ := h
    refine ⟨_, (pss_cons (ps_expr (pe_cal C1_check_word (hr.mono (by decide)) (by rfl) (pa_cons (pv 0) pa_nil)))
    (pss_cons (ps_set (i := 1) sc_weight.nd rfl (Or.inl rfl) (pv 0))
    (pss_cons (ps_set (i := 2) sc_weight.nd rfl (Or.inl rfl) pe_int)
    (pss_cons (ps_while PassesOwn.never (pt_cmpR op_gtN (pv 1) pe_int (nomark _)) (pss_cons (ps_set (i := 1) sc_weight.nd rfl (Or.inl rfl) (pe_op op_andN (pv 1) (pe_op op_subN (pv 1) pe_int)))
    (pss_one (ps_aug (i := 2) sc_weight.nd rfl (Or.inl rfl) pe_int ip_add))))
    (pss_one (ps_ret (pv 2))))))), ?_⟩
    refine ⟨.int m, rfl, m, 24, rfl, by decide, by decide, h1, .int m, rfl, ?_⟩
    refine while_by (fun σ H' => ∃ l c : Nat, σ = [some (.int m), some (.int l), some (.int c)] ∧ c + pc l = pc m ∧ l ≤ m ∧ H' = H)
      (fun σ _ => match σ with | [_, some (.int l), _] => l.toNat | _ => 0) ⟨m, 0, rfl, by omega, Nat.le_refl _, rfl⟩ ?_
      (fun σ H Q Q' f ⟨v, e, i, j, e1, e2, k, e3, q⟩ => ⟨v, e, i, j, e1, e2, k, e3, f _ _ q⟩)
    rintro σ H1 ⟨l, c, rfl, e, lm, rfl⟩
    refine ⟨.int l, rfl, l, 0, rfl, rfl, _, rfl, ite2 (fun hb => ?_) (fun hb => ?_)⟩
    · have l0 : 0 < l := of_decide_eq_true hb
      have e2 := pc_off l0 (by omega)
      have e3 := off_lt l0
      refine ⟨.int l, rfl, .int l, rfl, l, 1, rfl, rfl, l0, l, l - 1, rfl, rfl, ?_⟩
      refine ⟨.int c, rfl, c, 1, rfl, rfl, ⟨l &&& (l - 1), c + 1, rfl, by omega, by omega, rfl⟩, ?_⟩
      show ((l &&& (l - 1) : Nat) : Int).toNat < (l : Int).toNat
      omega
    · have l0 : l = 0 := by
        have : ¬ 0 < l := fun z => hb (decide_eq_true z)
        omega
      subst l0
      rw [pc_zero, Nat.add_zero] at e
      refine ⟨.int c, rfl, ?_⟩
      rw [e]
      exact q
abbrev s_are_spots : Stmt := topS 25
abbrev N_are_spots : List Str := ["places", "value", "spot"]
theorem sc_are_spots : FnScope N_are_spots ["places", "value"] (defScope s_are_spots) := ⟨rfl, rfl, rfl, by decide +kernel, rfl, by decide +kernel, by decide +kernel⟩
theorem ok_are_spots {f : Addr} {fd : FuncData} (F : Fun K "are_spots" "are_spots" s_are_spots f fd) (C_is_list : Cal P w K mg base "is_list" 1 ["value"] [] sp_is_list) (C_is_count : Cal P w K mg base "is_count" 2 ["value"] [] sp_is_count)
    (m_all : mg "all" = none) (m_len : mg "len" = none) (m_set : mg "set" = none) : FnOk P w K mg base CX0 3 f fd ["places", "value"] sp_are_spots := by
  refine F.ok sc_are_spots (fun vs H Q E h => ?_) (fun cdv A outer s H vs Q E hr h => ?_)
  · obtain ⟨a, l, N, rfl, _⟩ := h
    rfl
  · obtain ⟨a, l, N, rfl, hS, nd, h24, hl, q⟩ := h
    -- the turns of the comprehension
    have turn : ∀ {H1 : Hp} {D : Addr}, H1 D = none → ∀ (i : Nat) (x : V) (H' : Hp), (Vf.vs l)[i]? = some x → (Same H1 H' ∧ H' D = some (.lst ((List.replicate i true).map V.bl))) →
        ∃ n : Nat, x = .int (n : Nat) ∧ n < N ∧ ((List.replicate i true).map V.bl).length < sizeLine ∧
          (Same H1 (upd H' D (.lst (((List.replicate i true).map V.bl) ++ [V.bl true]))) ∧ upd H' D (.lst (((List.replicate i true).map V.bl) ++ [V.bl true])) D = some (.lst ((List.replicate (i + 1) true).map V.bl))) := by
      intro H1 D hD i x H' hx ⟨sm, eD⟩
      obtain ⟨n, en, rfl⟩ := get_vs hx
      have il : i < l.length := (List.getElem?_eq_some_iff.mp en).1
      refine ⟨n, rfl, h24 n (List.mem_of_getElem? en), ?_, fun b o e => ?_, ?_⟩
      · rw [List.length_map, List.length_replicate]
        exact sl_lt (by omega)
      · rw [upd_ne (ne_of_none e hD)]
        exact sm b o e
      · rw [upd_same, List.replicate_succ', List.map_append]
        rfl
    rcases hS with hS | hS
    · refine ⟨_, (pss_cons (ps_if (PW.pt (pw_or (pt_not (pt_val (pe_cal C_is_list (hr.mono (by decide)) (by rfl) (pa_cons (pv 1) pa_nil)))) (pw_or1 (pt_not (pt_val (pe_callB (cr_all rfl) (by rfl) m_all (by decide +kernel) (pa_cons (pe_lc (own := [("spot", 2)]) (g := gName 2) (by rfl) sc_are_spots.nd (pi_list (pv 1)) (blkOk_by (own := [("spot", 2)]) (N := N_are_spots) (sc := defScope s_are_spots) (by decide +kernel)) (fun _ _ _ _ _ => pg_name (i := 2) sc_are_spots.nd rfl (Or.inl rfl)) (fun _ _ _ _ _ => pts_nil) (fun _ _ _ _ _ => (pe_and (pe_cal C_is_count (hr.mono (by decide)) (by rfl) (pa_cons (pv 2) pa_nil)) (pe_one (pe_cmpR op_ltN (pv 2) (pv 0) (nomark _)))))) pa_nil))))))) (pss_one (ps_ret pe_bl)) pss_nil)
    (pss_one (ps_ret (pe_cmpR op_eq (RZ.pe_lenSetI (by rfl) m_len (by rfl) m_set (pv 1)) (pe_callB call_len_seq (by rfl) m_len (by decide +kernel) (pa_cons (pv 1) pa_nil)) (nomark _))))), ?_⟩
      refine ⟨.ref a, rfl, a, _, rfl, .inl hS, fun H1 s1 => ⟨true, rfl, iteF ?_⟩⟩
      have hL : SqL K H1 a (Vf.vs l) := .inl (.inl (s1 _ _ hS))
      refine ⟨.ref a, rfl, a, rfl, ⟨_, hL⟩, fun D hD => ?_⟩
      refine lc_list (K := K) (a := a) (xs := Vf.vs l) (fun i H' => Same H1 H' ∧ H' D = some (.lst ((List.replicate i true).map V.bl))) ⟨same_new hD, upd_same⟩
        (fun i H' _ hP => hP.1.seq hL) (fun i x H' hx hP => ?_) fun H' hP => ?_
      · obtain ⟨n, rfl, hn, hz, hN⟩ := turn hD i x H' hx hP
        refine ⟨rfl, yes_ ?_⟩
        refine iteT ?_
        refine ⟨.int n, rfl, n, rfl, true, bl_t (show (0 : Int) ≤ (n : Int) by omega), iteT ?_⟩
        refine ⟨.int n, rfl, .int N, rfl, n, N, rfl, rfl, _, hP.2, hz, ?_⟩
        rw [decide_eq_true hn]
        exact hN
      · obtain ⟨sm, eD⟩ := hP
        have sT := s1.trans sm
        have hL2 : SqL K H' a (Vf.vs l) := sm.seq hL
        refine ⟨D, _, rfl, .inl (.inl eD), true, ?_, iteF ?_⟩
        · rw [all_true]
        · refine ⟨.ref a, rfl, a, l.map (fun i : Nat => (i : Int)), rfl, ?_, nd_int nd, ?_, .ref a, rfl, a, Vf.vs l, rfl, .inl hL2, rfl, ?_⟩
          · rw [← vs_int]
            exact hL2
          · rw [List.length_map]
            omega
          · have e : decide (V.int ((l.map (fun i : Nat => (i : Int))).length : Nat) = V.int ((Vf.vs l).length : Nat)) = true := by
              rw [List.length_map, len_vs]
              exact decide_eq_true rfl
            rw [e]
            exact q _ sT
    · refine ⟨_, (pss_cons (ps_if (PW.pt (pw_or (pt_not (pt_val (pe_cal C_is_list (hr.mono (by decide)) (by rfl) (pa_cons (pv 1) pa_nil)))) (pw_or1 (pt_not (pt_val (pe_callB (cr_all rfl) (by rfl) m_all (by decide +kernel) (pa_cons (pe_lc (own := [("spot", 2)]) (g := gName 2) (by rfl) sc_are_spots.nd (pi_tup (pv 1)) (blkOk_by (own := [("spot", 2)]) (N := N_are_spots) (sc := defScope s_are_spots) (by decide +kernel)) (fun _ _ _ _ _ => pg_name (i := 2) sc_are_spots.nd rfl (Or.inl rfl)) (fun _ _ _ _ _ => pts_nil) (fun _ _ _ _ _ => (pe_and (pe_cal C_is_count (hr.mono (by decide)) (by rfl) (pa_cons (pv 2) pa_nil)) (pe_one (pe_cmpR op_ltN (pv 2) (pv 0) (nomark _)))))) pa_nil))))))) (pss_one (ps_ret pe_bl)) pss_nil)
    (pss_one (ps_ret (pe_cmpR op_eq (pe_lenSetT (by rfl) m_len (by rfl) m_set (pv 1)) (pe_callB call_len_seq (by rfl) m_len (by decide +kernel) (pa_cons (pv 1) pa_nil)) (nomark _))))), ?_⟩
      refine ⟨.ref a, rfl, a, _, rfl, .inr hS, fun H1 s1 => ⟨true, rfl, iteF ?_⟩⟩
      have hL : SqT K H1 a (Vf.vs l) := .inl (.inl (s1 _ _ hS))
      refine ⟨.ref a, rfl, a, rfl, ⟨_, hL⟩, fun D hD => ?_⟩
      have keep : ∀ H', Same H1 H' → SqT K H' a (Vf.vs l) := fun H' sm => .inl (.inl (sm _ _ (s1 _ _ hS)))
      refine lc_tup (K := K) (a := a) (xs := Vf.vs l) (fun i H' => Same H1 H' ∧ H' D = some (.lst ((List.replicate i true).map V.bl))) ⟨same_new hD, upd_same⟩
        (fun i H' _ hP => keep H' hP.1) (fun i x H' hx hP => ?_) fun H' hP => ?_
      · obtain ⟨n, rfl, hn, hz, hN⟩ := turn hD i x H' hx hP
        refine ⟨rfl, yes_ ?_⟩
        refine iteT ?_
        refine ⟨.int n, rfl, n, rfl, true, bl_t (show (0 : Int) ≤ (n : Int) by omega), iteT ?_⟩
        refine ⟨.int n, rfl, .int N, rfl, n, N, rfl, rfl, _, hP.2, hz, ?_⟩
        rw [decide_eq_true hn]
        exact hN
      · obtain ⟨sm, eD⟩ := hP
        have sT := s1.trans sm
        have hL2 : SqT K H' a (Vf.vs l) := keep H' sm
        refine ⟨D, _, rfl, .inl (.inl eD), true, ?_, iteF ?_⟩
        · rw [all_true]
        · refine ⟨.ref a, rfl, a, l.map (fun i : Nat => (i : Int)), rfl, ?_, nd_int nd, ?_, .ref a, rfl, a, Vf.vs l, rfl, .inr hL2, rfl, ?_⟩
          · rw [← vs_int]
            exact hL2
          · rw [List.length_map]
            omega
          · have e : decide (V.int ((l.map (fun i : Nat => (i : Int))).length : Nat) = V.int ((Vf.vs l).length : Nat)) = true := by
              rw [List.length_map, len_vs]
              exact decide_eq_true rfl
            rw [e]
            exact q _ sT
abbrev s_word_of : Stmt := topS 26
abbrev N_word_of : List Str := ["spots", "spot"]
theorem sc_word_of : FnScope N_word_of ["spots"] (defScope s_word_of) := ⟨rfl, rfl, rfl, by decide +kernel, rfl, by decide +kernel, by decide +kernel⟩
theorem ok_word_of {f : Addr} {fd : FuncData} (F : Fun K "word_of" "word_of" s_word_of f fd) (C_are_spots : Cal P w K mg base "are_spots" 3 ["places", "value"] [] sp_are_spots)
    {t : Tok} (g_MOST_PLACES : mg "MOST_PLACES" = some (.int 24 t)) (m_sum : mg "sum" = none) : FnOk P w K mg base CX0 4 f fd ["spots"] sp_word_of := by
  refine F.ok sc_word_of (fun vs H Q E h => ?_) (fun cdv A outer s H vs Q E hr h => ?_)
  · obtain ⟨a, l, rfl, _⟩ := h
    rfl
  · obtain ⟨a, l, rfl, hS, nd, h24, hl, q⟩ := h
    have turn : ∀ {H1 : Hp} {D : Addr}, H1 D = none → ∀ (i : Nat) (x : V) (H' : Hp), (Vf.vs l)[i]? = some x → (Same H1 H' ∧ H' D = some (.lst (((l.take i).map fun i : Nat => ((2 ^ i : Nat) : Int)).map V.int))) →
        ∃ n : Nat, x = .int (n : Nat) ∧ n < 24 ∧ (((l.take i).map fun i : Nat => ((2 ^ i : Nat) : Int)).map V.int).length < sizeLine ∧
          (Same H1 (upd H' D (.lst ((((l.take i).map fun i : Nat => ((2 ^ i : Nat) : Int)).map V.int) ++ [V.int ((2 ^ n : Nat) : Int)]))) ∧
            upd H' D (.lst ((((l.take i).map fun i : Nat => ((2 ^ i : Nat) : Int)).map V.int) ++ [V.int ((2 ^ n : Nat) : Int)])) D = some (.lst (((l.take (i + 1)).map fun i : Nat => ((2 ^ i : Nat) : Int)).map V.int))) := by
      intro H1 D hD i x H' hx ⟨sm, eD⟩
      obtain ⟨n, en, rfl⟩ := get_vs hx
      refine ⟨n, rfl, h24 n (List.mem_of_getElem? en), ?_, fun b o e => ?_, ?_⟩
      · rw [List.length_map, List.length_map, List.length_take]
        exact sl_lt (by omega)
      · rw [upd_ne (ne_of_none e hD)]
        exact sm b o e
      · rw [upd_same, List.take_add_one, en, List.map_append, List.map_append]
        rfl
    have fin : ((l.take (Vf.vs l).length).map fun i : Nat => ((2 ^ i : Nat) : Int)) = l.map fun i : Nat => ((2 ^ i : Nat) : Int) := by
      rw [len_vs, List.take_length]
    rcases hS with hS | hS
    · refine ⟨_, (pss_cons (ps_if (pt_not (pt_val (pe_cal C_are_spots (hr.mono (by decide)) (by rfl) (pa_cons (pe_glob (v := .int 24) rfl g_MOST_PLACES ⟨_, rfl⟩) (pa_cons (pv 0) pa_nil))))) (pss_one ps_never) pss_nil)
    (pss_one (ps_ret (pe_callB (cr_sum rfl) (by rfl) m_sum (by decide +kernel) (pa_cons (pe_lc (own := [("spot", 1)]) (g := gName 1) (by rfl) sc_word_of.nd (pi_list (pv 0)) (blkOk_by (own := [("spot", 1)]) (N := N_word_of) (sc := defScope s_word_of) (by decide +kernel)) (fun _ _ _ _ _ => pg_name (i := 1) sc_word_of.nd rfl (Or.inl rfl)) (fun _ _ _ _ _ => pts_nil) (fun _ _ _ _ _ => (pe_op op_pow2 pe_int (pv 1)))) pa_nil))))), ?_⟩
      refine ⟨.ref a, rfl, a, l, 24, rfl, .inl hS, nd, h24, hl, fun H1 s1 => ⟨true, rfl, iteF ?_⟩⟩
      have hL : SqL K H1 a (Vf.vs l) := .inl (.inl (s1 _ _ hS))
      refine ⟨.ref a, rfl, a, rfl, ⟨_, hL⟩, fun D hD => ?_⟩
      refine lc_list (K := K) (a := a) (xs := Vf.vs l) (fun i H' => Same H1 H' ∧ H' D = some (.lst (((l.take i).map fun i : Nat => ((2 ^ i : Nat) : Int)).map V.int))) ⟨same_new hD, upd_same⟩
        (fun i H' _ hP => hP.1.seq hL) (fun i x H' hx hP => ?_) fun H' hP => ?_
      · obtain ⟨n, rfl, hn, hz, hN⟩ := turn hD i x H' hx hP
        refine ⟨rfl, yes_ ?_⟩
        refine iteT ?_
        exact ⟨.int n, rfl, n, rfl, rfl, by omega, _, hP.2, hz, hN⟩
      · obtain ⟨sm, eD⟩ := hP
        rw [fin] at eD
        refine ⟨D, _, rfl, .inl (.inl eD), ?_⟩
        rw [sum_cast]
        exact q _ (s1.trans sm)
    · refine ⟨_, (pss_cons (ps_if (pt_not (pt_val (pe_cal C_are_spots (hr.mono (by decide)) (by rfl) (pa_cons (pe_glob (v := .int 24) rfl g_MOST_PLACES ⟨_, rfl⟩) (pa_cons (pv 0) pa_nil))))) (pss_one ps_never) pss_nil)
    (pss_one (ps_ret (pe_callB (cr_sum rfl) (by rfl) m_sum (by decide +kernel) (pa_cons (pe_lc (own := [("spot", 1)]) (g := gName 1) (by rfl) sc_word_of.nd (pi_tup (pv 0)) (blkOk_by (own := [("spot", 1)]) (N := N_word_of) (sc := defScope s_word_of) (by decide +kernel)) (fun _ _ _ _ _ => pg_name (i := 1) sc_word_of.nd rfl (Or.inl rfl)) (fun _ _ _ _ _ => pts_nil) (fun _ _ _ _ _ => (pe_op op_pow2 pe_int (pv 1)))) pa_nil))))), ?_⟩
      refine ⟨.ref a, rfl, a, l, 24, rfl, .inr hS, nd, h24, hl, fun H1 s1 => ⟨true, rfl, iteF ?_⟩⟩
      have keep : ∀ H', Same H1 H' → SqT K H' a (Vf.vs l) := fun H' sm => .inl (.inl (sm _ _ (s1 _ _ hS)))
      refine ⟨.ref a, rfl, a, rfl, ⟨_, keep H1 (Same.refl _)⟩, fun D hD => ?_⟩
      refine lc_tup (K := K) (a := a) (xs := Vf.vs l) (fun i H' => Same H1 H' ∧ H' D = some (.lst (((l.take i).map fun i : Nat => ((2 ^ i : Nat) : Int)).map V.int))) ⟨same_new hD, upd_same⟩
        (fun i H' _ hP => keep H' hP.1) (fun i x H' hx hP => ?_) fun H' hP => ?_
      · obtain ⟨n, rfl, hn, hz, hN⟩ := turn hD i x H' hx hP
        refine ⟨rfl, yes_ ?_⟩
        refine iteT ?_
        exact ⟨.int n, rfl, n, rfl, rfl, by omega, _, hP.2, hz, hN⟩
      · obtain ⟨sm, eD⟩ := hP
        rw [fin] at eD
        refine ⟨D, _, rfl, .inl (.inl eD), ?_⟩
        rw [sum_cast]
        exact q _ (s1.trans sm)
abbrev s_highest : Stmt := topS 30
abbrev N_highest : List Str := ["word"]
theorem sc_highest : FnScope N_highest ["word"] (defScope s_highest) := ⟨rfl, rfl, rfl, by decide +kernel, rfl, by decide +kernel, by decide +kernel⟩
theorem ok_highest {f : Addr} {fd : FuncData} (F : Fun K "highest" "highest" s_highest f fd) : FnOk P w K mg base CX0 1 f fd ["word"] sp_highest := by
  refine F.ok sc_highest (fun vs H Q E h => ?_) (fun cdv A outer s H vs Q E hr h => ?_)
  · obtain ⟨m, rfl, _⟩ := h
    rfl
  · obtain ⟨m, rfl, h0, h1, q⟩ := h
    have hl : m.log2 < 64 := (Nat.log2_lt h0).mpr h1
    have e : Builtin.Int.intBits (m : Int) = m.log2 + 1 := by
      unfold Builtin.Int.intBits
      rw [if_neg (by simpa using h0)]
      rfl
    refine ⟨_, (pss_one (ps_ret (pe_op op_pow2 pe_int (pe_op op_subN (pe_bits (pv 0)) pe_int)))), ?_⟩
    refine ⟨.int m, rfl, m, rfl, Builtin.Int.intBits (m : Int), 1, rfl, rfl, by omega, Builtin.Int.intBits (m : Int) - 1, rfl, rfl, by omega, ?_⟩
    rw [e, Nat.add_sub_cancel]
    exact q
abbrev s_rest_of : Stmt := topS 31
abbrev N_rest_of : List Str := ["word", "basis", "rest", "base"]
theorem sc_rest_of : FnScope N_rest_of ["word", "basis"] (defScope s_rest_of) := ⟨rfl, rfl, rfl, by decide +kernel, rfl, by decide +kernel, by decide +kernel⟩
theorem ok_rest_of {f : Addr} {fd : FuncData} (F : Fun K "rest_of" "rest_of" s_rest_of f fd) (C_highest : Cal P w K mg base "highest" 1 ["word"] [] sp_highest) : FnOk P w K mg base CX0 2 f fd ["word", "basis"] sp_rest_of := by
  refine F.ok sc_rest_of (fun vs H Q E h => ?_) (fun cdv A outer s H vs Q E hr h => ?_)
  · obtain ⟨v, b, B, rfl, _⟩ := h
    rfl
  · obtain ⟨v, b, B, rfl, eB, hB, q⟩ := h
    refine ⟨_, (pss_cons (ps_set (i := 2) sc_rest_of.nd rfl (Or.inl rfl) (pv 0))
    (pss_cons (ps_for PassesOwn.never rfl (pi_list (pv 1)) (pg_name (i := 3) sc_rest_of.nd rfl (Or.inl rfl))
      (pss_one (ps_if (pt_int (pe_op op_andN (pv 2) (pe_cal C_highest (hr.mono (by decide)) (by rfl) (pa_cons (pv 3) pa_nil))) (by intro _; rfl)) (pss_one (ps_set (i := 2) sc_rest_of.nd rfl (Or.inl rfl) (pe_op op_xorN (pv 2) (pv 3)))) pss_nil)))
    (pss_one (ps_ret (pv 2))))), ?_⟩
    refine ⟨.int v, rfl, .ref b, rfl, b, rfl, ⟨_, SqL.of eB⟩, ?_⟩
    refine for_list (K := K) (a := b) (xs := Vf.vs B) (fun i σ H' => ∃ z : Option V, σ = [some (.int v), some (.ref b), some (.int ((restOf v (B.take i) : Nat) : Int)), z] ∧ H' = H) ⟨none, rfl, rfl⟩
      (fun i σ H' _ hI => ?_) (fun i x σ H' hx hI => ?_) fun σ H' hI => ?_
    · obtain ⟨z, _, rfl⟩ := hI
      exact SqL.of eB
    · obtain ⟨z, rfl, rfl⟩ := hI
      obtain ⟨c, ec, rfl⟩ := get_vs hx
      obtain ⟨c0, c24⟩ := hB c (List.mem_of_getElem? ec)
      have key : restOf v (B.take (i + 1)) = rest1 (restOf v (B.take i)) c := by
        unfold restOf
        rw [List.take_add_one, ec, List.foldl_append]
        rfl
      refine ⟨_, rfl, .int c, rfl, c, rfl, c0, c24, restOf v (B.take i), 2 ^ c.log2, rfl, rfl, restOf v (B.take i) &&& 2 ^ c.log2, rfl, ?_⟩
      rw [and_pow]
      refine ite2 (fun hb => ?_) (fun hb => ?_)
      · refine ⟨_, rfl, .int c, rfl, restOf v (B.take i), c, rfl, rfl, some (.int c), ?_, rfl⟩
        rw [key]
        unfold rest1
        rw [if_pos hb]
        rfl
      · refine ⟨some (.int c), ?_, rfl⟩
        rw [key]
        unfold rest1
        rw [if_neg hb]
        rfl
    · obtain ⟨z, rfl, rfl⟩ := hI
      rw [len_vs, List.take_length]
      exact ⟨_, rfl, q⟩
abbrev s_put_in : Stmt := topS 32
abbrev N_put_in : List Str := ["rest", "basis", "top", "cleared", "base"]
theorem sc_put_in : FnScope N_put_in ["rest", "basis"] (defScope s_put_in) := ⟨rfl, rfl, rfl, by decide +kernel, rfl, by decide +kernel, by decide +kernel⟩
theorem ok_put_in {f : Addr} {fd : FuncData} (F : Fun K "put_in" "put_in" s_put_in f fd) (C_highest : Cal P w K mg base "highest" 1 ["word"] [] sp_highest) (m_sorted : mg "sorted" = none) :
    FnOk P w K mg base CX0 2 f fd ["rest", "basis"] sp_put_in := by
  refine F.ok sc_put_in (fun vs H Q E h => ?_) (fun cdv A outer s H vs Q E hr h => ?_)
  · obtain ⟨v, b, B, rfl, _⟩ := h
    rfl
  · obtain ⟨r, b, B, rfl, eB, r0, r64, lB, q⟩ := h
    refine ⟨_, (pss_cons (ps_set (i := 2) sc_put_in.nd rfl (Or.inr rfl) (pe_cal C_highest (hr.mono (by decide)) (by rfl) (pa_cons (pv 0) pa_nil)))
    (pss_cons (ps_setLc (i := 3) (own := [("base", 4)]) (g := gName 4) (by rfl) sc_put_in.nd rfl rfl (sw_true rfl rfl rfl (by decide +kernel)) (pi_list (pv 1)) (blkOk_by (own := [("base", 4)]) (N := N_put_in) (sc := defScope s_put_in) (by decide +kernel)) (fun _ _ _ _ _ => pg_name (i := 4) sc_put_in.nd rfl (Or.inl rfl)) (fun _ _ _ _ _ => pts_nil) (fun _ _ _ _ _ => (pe_ifExp (pt_int (pe_op op_andN (pv 4) (pv 2)) (by intro _; rfl)) (pe_op op_xorN (pv 4) (pv 0)) (pv 4))))
    (pss_one (ps_ret (pe_callBK (cr_sortedRev (b := true)) (by rfl) m_sorted (by decide +kernel) (pa_cons (pe_op op_cat (pv 3) (pe_lst (pa_cons (pv 0) pa_nil))) pa_nil) (pk_cons pe_bl pk_nil)))))), ?_⟩
    refine ⟨.int r, rfl, r, rfl, r0, r64, .ref b, rfl, b, rfl, ⟨_, SqL.of eB⟩, fun D hD => ?_⟩
    refine lc_list (K := K) (a := b) (xs := Vf.vs B) (fun i H' => Same H H' ∧ H' D = some (.lst (Vf.vs ((B.take i).map (clear1 r))))) ⟨same_new hD, upd_same⟩
      (fun i H' _ hP => hP.1.seq (SqL.of eB)) (fun i x H' hx hP => ?_) fun H' hP => ?_
    · obtain ⟨sm, eD⟩ := hP
      obtain ⟨c, ec, rfl⟩ := get_vs hx
      have key : Vf.vs ((B.take (i + 1)).map (clear1 r)) = Vf.vs ((B.take i).map (clear1 r)) ++ [V.int ((clear1 r c : Nat) : Int)] := by
        rw [List.take_add_one, ec, List.map_append, vs_append]
        rfl
      have lz : (Vf.vs ((B.take i).map (clear1 r))).length < sizeLine := by
        rw [len_vs, List.length_map, List.length_take]
        exact sl_lt (by omega)
      have fin : Same H (upd H' D (.lst (Vf.vs ((B.take i).map (clear1 r)) ++ [V.int ((clear1 r c : Nat) : Int)]))) ∧ (upd H' D (.lst (Vf.vs ((B.take i).map (clear1 r)) ++ [V.int ((clear1 r c : Nat) : Int)]))) D = some (.lst (Vf.vs ((B.take (i + 1)).map (clear1 r)))) := by
        refine ⟨fun a o e => ?_, ?_⟩
        · rw [upd_ne (ne_of_none e hD)]
          exact sm a o e
        · rw [upd_same, key]
      refine ⟨rfl, yes_ ?_⟩
      refine iteT ?_
      refine ⟨.int c, rfl, .int ((2 ^ r.log2 : Nat) : Int), rfl, c, 2 ^ r.log2, rfl, rfl, c &&& 2 ^ r.log2, rfl, ?_⟩
      rw [and_pow]
      refine ite2 (fun hb => ?_) (fun hb => ?_)
      · refine ⟨.int c, rfl, .int r, rfl, c, r, rfl, rfl, _, eD, lz, ?_⟩
        have e1 : clear1 r c = c ^^^ r := by
          unfold clear1
          rw [if_pos hb]
        rw [← e1]
        exact fin
      · refine ⟨.int c, rfl, _, eD, lz, ?_⟩
        have e1 : clear1 r c = c := by
          unfold clear1
          rw [if_neg hb]
        rw [e1] at fin
        exact fin
    · obtain ⟨sm, eD⟩ := hP
      rw [len_vs, List.take_length] at eD
      refine ⟨.ref D, rfl, .int r, rfl, Nat.succ_le_of_lt (sl_lt (by decide)), fun R1 nR1 => ?_⟩
      have s1 := same_new (o := .lst [V.int (r : Int)]) nR1
      refine ⟨D, R1, _, _, rfl, rfl, s1 _ _ eD, upd_same, ?_, fun R2 nR2 => ?_⟩
      · rw [len_vs, List.length_map]
        exact Nat.le_of_lt (sl_lt (by show B.length + 1 ≤ 100000; omega))
      · refine ⟨R2, ((B.map (clear1 r) ++ [r]).map fun i : Nat => (i : Int)), rfl, rfl, SqL.of ?_, fun ns' p pm od np => ?_⟩
        · rw [upd_same, ← vs_int, vs_append]
          rfl
        · obtain ⟨D2, rfl, p2⟩ := back_vs pm
          have s2 := sm.trans ((s1.trans (same_new (o := .lst (Vf.vs (B.map (clear1 r)) ++ [V.int (r : Int)])) nR2)).trans (same_new (o := .lst ((D2.map fun i : Nat => (i : Int)).map V.int)) np))
          refine q _ p D2 s2 ?_ ?_ p2 ?_
          · exact ((sm.trans s1).trans (same_new nR2)).free np
          · rw [upd_same, ← vs_int]
          · have o2 : (D2.map fun i : Nat => (i : Int)).Pairwise (· ≥ ·) := od
            rw [List.pairwise_map] at o2
            exact o2.imp fun h => by omega
abbrev s_plain_basis : Stmt := topS 33
abbrev N_plain_basis : List Str := ["words", "basis", "word", "rest"]
theorem sc_plain_basis : FnScope N_plain_basis ["words"] (defScope s_plain_basis) := ⟨rfl, rfl, rfl, by decide +kernel, rfl, by decide +kernel, by decide +kernel⟩
theorem ok_plain_basis {f : Addr} {fd : FuncData} (F : Fun K "plain_basis" "plain_basis" s_plain_basis f fd) (C_rest_of : Cal P w K mg base "rest_of" 2 ["word", "basis"] [] sp_rest_of) (C_put_in : Cal P w K mg base "put_in" 2 ["rest", "basis"] [] sp_put_in) :
    FnOk P w K mg base CX0 3 f fd ["words"] sp_plain_basis := by
  refine F.ok sc_plain_basis (fun vs H Q E h => ?_) (fun cdv A outer s H vs Q E hr h => ?_)
  · obtain ⟨a, ws, rfl, _⟩ := h
    rfl
  · obtain ⟨a, ws, rfl, hS, h24, lw, q⟩ := h
    have start : ∀ {b0 : Addr}, H b0 = none → PbI H a ws 0 [some (.ref a), some (.ref b0), none, none] (upd H b0 (.lst [])) := fun {b0} h0 =>
      ⟨b0, [], none, none, rfl, same_new h0, h0, upd_same, ⟨⟨List.Pairwise.nil, fun _ k => (List.not_mem_nil k).elim⟩, List.Pairwise.nil⟩, fun v => Iff.rfl, Nat.le_refl _⟩
    -- what a turn needs and gives
    have turn : ∀ {i : Nat} {c : Nat}, ws[i]? = some c → ∀ {σ : L2.St} {H' : Hp}, PbI H a ws i σ H' → ∃ (b : Addr) (B : List Nat) (z z2 : Option V), σ = [some (.ref a), some (.ref b), z, z2] ∧ H' b = some (.lst (Vf.vs B)) ∧ (∀ x ∈ B, x ≠ 0 ∧ x < 2 ^ 64) ∧ c < 2 ^ 64 ∧
        (restOf c B = 0 → PbI H a ws (i + 1) [some (.ref a), some (.ref b), some (.int (c : Int)), some (.int ((restOf c B : Nat) : Int))] H') ∧
        (restOf c B ≠ 0 → restOf c B < 2 ^ 64 ∧ B.length ≤ 1000 ∧ ∀ (H2 : Hp) (p : Addr) (D : List Nat), Same H' H2 → H' p = none → H2 p = some (.lst (Vf.vs D)) → D.Perm (B.map (clear1 (restOf c B)) ++ [restOf c B]) → D.Pairwise (· ≥ ·) →
          PbI H a ws (i + 1) [some (.ref a), some (.ref p), some (.int (c : Int)), some (.int ((restOf c B : Nat) : Int))] H2) := by
      intro i c hc σ H' hI
      obtain ⟨b, B, z, z2, rfl, sm, nb, eB, pl, sp, ln⟩ := hI
      have hc24 := h24 c (List.mem_of_getElem? hc)
      have lt : ∀ {x}, span B x → x < 2 ^ 64 := fun {x} hx => span_lt (ws := ws.take i) (fun v hv => h24 v (List.mem_of_mem_take hv)) ((sp x).mp hx)
      have il : i < ws.length := (List.getElem?_eq_some_iff.mp hc).1
      have rs := take_span hc pl.1 sp
      refine ⟨b, B, z, z2, rfl, eB, fun x hx => ⟨pl.1.2 x hx, lt (span_mem hx)⟩, hc24, fun r0 => ⟨b, B, _, _, rfl, sm, nb, eB, pl, fun v => ?_, by omega⟩, fun r0 => ⟨?_, by omega, fun H2 p D s2 np eD pm ge => ?_⟩⟩
      · rw [← rs v, r0]
        constructor
        · exact fun k => span_sub (fun x hx => span_mem (List.mem_cons_of_mem _ hx)) k
        · exact fun k => span_sub (fun x hx => (List.mem_cons.mp hx).elim (fun e => by rw [e]; exact span_zero B) span_mem) k
      · refine span_lt (ws := ws.take (i + 1)) (fun v hv => h24 v (List.mem_of_mem_take hv)) ((rs _).mp (span_mem List.mem_cons_self))
      · have pD := piv_perm pm.symm (put_piv pl.1 r0 fun x hx => rest_off pl.1 c hx)
        refine ⟨p, D, _, _, rfl, sm.trans s2, sm.free np, eD, ⟨pD, gt_of_ge pD ge⟩, fun v => ?_, ?_⟩
        · rw [span_perm pm v, put_span, rs v]
        · rw [pm.length_eq, List.length_append, List.length_map]
          show B.length + 1 ≤ i + 1
          omega
    rcases hS with hS | hS
    · refine ⟨_, (pss_cons (ps_set (i := 1) sc_plain_basis.nd rfl (Or.inl rfl) (pe_lst pa_nil))
    (pss_cons (ps_for PassesOwn.never rfl (pi_list (pv 0)) (pg_name (i := 2) sc_plain_basis.nd rfl (Or.inl rfl))
      (pss_cons (ps_set (i := 3) sc_plain_basis.nd rfl (Or.inl rfl) (pe_cal C_rest_of (hr.mono (by decide)) (by rfl) (pa_cons (pv 2) (pa_cons (pv 1) pa_nil))))
    (pss_one (ps_if (pt_cmpR op_gtN (pv 3) pe_int (nomark _)) (pss_one (ps_set (i := 1) sc_plain_basis.nd rfl (Or.inl rfl) (pe_cal C_put_in (hr.mono (by decide)) (by rfl) (pa_cons (pv 3) (pa_cons (pv 1) pa_nil))))) pss_nil))))
    (pss_one (ps_ret (pv 1))))), ?_⟩
      refine ⟨Nat.zero_le _, fun b0 h0 => ⟨.ref a, rfl, a, rfl, ⟨_, SqL.of ((same_new h0) _ _ hS)⟩, ?_⟩⟩
      refine for_list (K := K) (a := a) (xs := Vf.vs ws) (fun i σ H' => PbI H a ws i σ H') (start h0) (fun i σ H' _ hI => ?_) (fun i x σ H' hx hI => ?_) fun σ H' hI => ?_
      · obtain ⟨b, B, z, z2, _, sm, _⟩ := hI
        exact SqL.of (sm _ _ hS)
      · obtain ⟨c, hc, rfl⟩ := get_vs hx
        obtain ⟨b, B, z, z2, rfl, eB, hB, c24, k0, k1⟩ := turn hc hI
        refine ⟨.int c, rfl, .ref b, rfl, c, b, B, rfl, eB, hB, _, rfl, restOf c B, 0, rfl, rfl, _, rfl, ite2 (fun hb => ?_) (fun hb => ?_)⟩
        · have r0 : restOf c B ≠ 0 := Nat.ne_of_gt (of_decide_eq_true hb)
          obtain ⟨r24, l1000, k1⟩ := k1 r0
          exact ⟨_, rfl, .ref b, rfl, restOf c B, b, B, rfl, eB, r0, r24, l1000, fun H2 p D s2 np eD pm ge => k1 H2 p D s2 np eD pm ge⟩
        · have r0 : restOf c B = 0 := by
            have : ¬ 0 < restOf c B := fun z => hb (decide_eq_true z)
            omega
          exact k0 r0
      · obtain ⟨b, B, z, z2, rfl, sm, nb, eB, pl, sp, ln⟩ := hI
        rw [len_vs, List.take_length] at sp
        rw [len_vs] at ln
        exact ⟨.ref b, rfl, q H' b B sm nb eB pl sp ln⟩
    · refine ⟨_, (pss_cons (ps_set (i := 1) sc_plain_basis.nd rfl (Or.inl rfl) (pe_lst pa_nil))
    (pss_cons (ps_for PassesOwn.never rfl (pi_tup (pv 0)) (pg_name (i := 2) sc_plain_basis.nd rfl (Or.inl rfl))
      (pss_cons (ps_set (i := 3) sc_plain_basis.nd rfl (Or.inl rfl) (pe_cal C_rest_of (hr.mono (by decide)) (by rfl) (pa_cons (pv 2) (pa_cons (pv 1) pa_nil))))
    (pss_one (ps_if (pt_cmpR op_gtN (pv 3) pe_int (nomark _)) (pss_one (ps_set (i := 1) sc_plain_basis.nd rfl (Or.inl rfl) (pe_cal C_put_in (hr.mono (by decide)) (by rfl) (pa_cons (pv 3) (pa_cons (pv 1) pa_nil))))) pss_nil))))
    (pss_one (ps_ret (pv 1))))), ?_⟩
      refine ⟨Nat.zero_le _, fun b0 h0 => ⟨.ref a, rfl, a, rfl, ⟨_, .inl (.inl ((same_new h0) _ _ hS))⟩, ?_⟩⟩
      refine for_tup (K := K) (a := a) (xs := Vf.vs ws) (fun i σ H' => PbI H a ws i σ H') (start h0) (fun i σ H' _ hI => ?_) (fun i x σ H' hx hI => ?_) fun σ H' hI => ?_
      · obtain ⟨b, B, z, z2, _, sm, _⟩ := hI
        exact .inl (.inl (sm _ _ hS))
      · obtain ⟨c, hc, rfl⟩ := get_vs hx
        obtain ⟨b, B, z, z2, rfl, eB, hB, c24, k0, k1⟩ := turn hc hI
        refine ⟨.int c, rfl, .ref b, rfl, c, b, B, rfl, eB, hB, _, rfl, restOf c B, 0, rfl, rfl, _, rfl, ite2 (fun hb => ?_) (fun hb => ?_)⟩
        · have r0 : restOf c B ≠ 0 := Nat.ne_of_gt (of_decide_eq_true hb)
          obtain ⟨r24, l1000, k1⟩ := k1 r0
          exact ⟨_, rfl, .ref b, rfl, restOf c B, b, B, rfl, eB, r0, r24, l1000, fun H2 p D s2 np eD pm ge => k1 H2 p D s2 np eD pm ge⟩
        · have r0 : restOf c B = 0 := by
            have : ¬ 0 < restOf c B := fun z => hb (decide_eq_true z)
            omega
          exact k0 r0
      · obtain ⟨b, B, z, z2, rfl, sm, nb, eB, pl, sp, ln⟩ := hI
        rw [len_vs, List.take_length] at sp
        rw [len_vs] at ln
        exact ⟨.ref b, rfl, q H' b B sm nb eB pl sp ln⟩
abbrev s_sums_of : Stmt := topS 34
abbrev N_sums_of : List Str := ["basis", "sums", "base", "word"]
theorem sc_sums_of : FnScope N_sums_of ["basis"] (defScope s_sums_of) := ⟨rfl, rfl, rfl, by decide +kernel, rfl, by decide +kernel, by decide +kernel⟩
theorem ok_sums_of {f : Addr} {fd : FuncData} (F : Fun K "sums_of" "sums_of" s_sums_of f fd) (m_sorted : mg "sorted" = none) : FnOk P w K mg base CX0 1 f fd ["basis"] sp_sums_of := by
  refine F.ok sc_sums_of (fun vs H Q E h => ?_) (fun cdv A outer s H vs Q E hr h => ?_)
  · obtain ⟨b, B, rfl, _⟩ := h
    rfl
  · obtain ⟨b, B, rfl, eB, pB, lB, q⟩ := h
    have lens : ∀ i, (sumsOf (B.take i)).length ≤ 4096 := fun i => by
      have pB2 : Piv (B.take i) := ⟨pB.1.sublist (List.take_sublist _ _), fun c hc => pB.2 c (List.mem_of_mem_take hc)⟩
      rw [(sums_ok pB2).2.2]
      have h8 : (B.take i).length ≤ 12 := by
        rw [List.length_take]
        omega
      exact Nat.le_trans (Nat.pow_le_pow_right (by decide) h8) (by decide)
    refine ⟨_, (pss_cons (ps_set (i := 1) sc_sums_of.nd rfl (Or.inl rfl) (pe_lst (pa_cons pe_int pa_nil)))
    (pss_cons (ps_for PassesOwn.never rfl (pi_list (pv 0)) (pg_name (i := 2) sc_sums_of.nd rfl (Or.inr rfl))
      (pss_one (ps_set (i := 1) sc_sums_of.nd rfl (Or.inl rfl) (pe_op op_cat (pv 1) (pe_lc (own := [("word", 3)]) (g := gName 3) (by rfl) sc_sums_of.nd (pi_list (pv 1)) (blkOk_by (own := [("word", 3)]) (N := N_sums_of) (sc := defScope s_sums_of) (by decide +kernel)) (fun _ _ _ _ _ => pg_name (i := 3) sc_sums_of.nd rfl (Or.inl rfl)) (fun _ _ _ _ _ => pts_nil) (fun _ _ _ _ _ => (pe_op op_xorN (pv 3) (pv 2))))))))
    (pss_one (ps_ret (pe_callB cr_sortedI (by rfl) m_sorted (by decide +kernel) (pa_cons (pv 1) pa_nil)))))), ?_⟩
    refine ⟨Nat.succ_le_of_lt (sl_lt (by decide)), fun S0 nS0 => ⟨.ref b, rfl, b, rfl, ⟨_, SqL.of ((same_new nS0) _ _ eB)⟩, ?_⟩⟩
    refine for_list (K := K) (a := b) (xs := Vf.vs B) (fun i σ H' => ∃ (z z2 : Option V) (S : Addr), σ = [some (.ref b), some (.ref S), z, z2] ∧ Same H H' ∧ H S = none ∧ H' S = some (.lst (Vf.vs (sumsOf (B.take i))))) ⟨none, none, S0, rfl, same_new nS0, nS0, upd_same⟩
      (fun i σ H' _ hI => ?_) (fun i x σ H' hx hI => ?_) fun σ H' hI => ?_
    · obtain ⟨z, z2, S, _, sm, _⟩ := hI
      exact SqL.of (sm _ _ eB)
    · obtain ⟨z, z2, S, rfl, sm, nS, eS⟩ := hI
      obtain ⟨c, ec, rfl⟩ := get_vs hx
      have key : sumsOf (B.take (i + 1)) = sumsOf (B.take i) ++ (sumsOf (B.take i)).map (· ^^^ c) := by
        unfold sumsOf
        rw [List.take_add_one, ec, List.foldl_append]
        rfl
      have ln := lens i
      refine ⟨.ref S, rfl, .ref S, rfl, S, rfl, ⟨_, SqL.of eS⟩, fun D hD => ?_⟩
      refine lc_list (K := K) (a := S) (xs := Vf.vs (sumsOf (B.take i))) (fun j H2 => Same H' H2 ∧ H2 D = some (.lst (Vf.vs (((sumsOf (B.take i)).take j).map (· ^^^ c))))) ⟨same_new hD, upd_same⟩
        (fun j H2 _ hP => hP.1.seq (SqL.of eS)) (fun j x H2 hx hP => ?_) fun H2 hP => ?_
      · obtain ⟨sm2, eD⟩ := hP
        obtain ⟨u, eu, rfl⟩ := get_vs hx
        refine ⟨rfl, yes_ ?_⟩
        refine iteT ?_
        refine ⟨.int u, rfl, .int c, rfl, u, c, rfl, rfl, _, eD, ?_, fun a o e => ?_, ?_⟩
        · rw [len_vs, List.length_map, List.length_take]
          exact sl_lt (by omega)
        · rw [upd_ne (ne_of_none e hD)]
          exact sm2 a o e
        · rw [upd_same, List.take_add_one, eu, List.map_append, vs_append]
          rfl
      · obtain ⟨sm2, eD⟩ := hP
        rw [len_vs, List.take_length] at eD
        refine ⟨S, D, _, _, rfl, rfl, sm2 _ _ eS, eD, ?_, fun p np => ?_⟩
        · rw [len_vs, len_vs, List.length_map]
          exact Nat.le_of_lt (sl_lt (by omega))
        · refine ⟨_, _, p, rfl, sm.trans (sm2.trans (same_new np)), (sm.trans sm2).free np, ?_⟩
          rw [upd_same, key, vs_append]
    · obtain ⟨z, z2, S, rfl, sm, nS, eS⟩ := hI
      rw [len_vs, List.take_length] at eS
      refine ⟨.ref S, rfl, S, ((sumsOf B).map fun i : Nat => (i : Int)), rfl, SqL.of (by rw [← vs_int]; exact eS), fun ns' p pm od np => ?_⟩
      obtain ⟨L, rfl, p2⟩ := back_vs pm
      refine q _ p L (sm.trans (same_new np)) (sm.free np) (by rw [upd_same, ← vs_int]) p2 ?_
      have o2 : (L.map fun i : Nat => (i : Int)).Pairwise (· ≤ ·) := od
      rw [List.pairwise_map] at o2
      exact o2.imp fun h => by omega
abbrev s_check_words : Stmt := topS 35
abbrev N_check_words : List Str := ["places", "words", "position", "word"]
theorem sc_check_words : FnScope N_check_words ["places", "words"] (defScope s_check_words) := ⟨rfl, rfl, rfl, by decide +kernel, rfl, by decide +kernel, by decide +kernel⟩
theorem ok_check_words {f : Addr} {fd : FuncData} (F : Fun K "check_words" "check_words" s_check_words f fd) (C_is_list : Cal P w K mg base "is_list" 1 ["value"] [] sp_is_list) (C_is_word : Cal P w K mg base "is_word" 4 ["places", "value"] [] sp_is_word)
    {t : Tok} (g_MOST_WORDS : mg "MOST_WORDS" = some (.int 48 t)) (m_len : mg "len" = none) (m_enumerate : mg "enumerate" = none) : FnOk P w K mg base CX0 5 f fd ["places", "words"] sp_check_words := by
  refine F.ok sc_check_words (fun vs H Q E h => ?_) (fun cdv A outer s H vs Q E hr h => ?_)
  · obtain ⟨n, a, ws, rfl, _⟩ := h
    rfl
  · obtain ⟨n, a, ws, rfl, hS, n1, n24, hw, lw, q⟩ := h
    have l48 : ¬ 48 < (Vf.vs ws).length := by
      rw [len_vs]
      omega
    have word : ∀ {i : Nat} {x : V}, (Vf.vs ws)[i]? = some x → ∃ v : Nat, x = .int (v : Int) ∧ v < 2 ^ n := fun {i x} hx => by
      obtain ⟨v, ev, e⟩ := get_vs hx
      exact ⟨v, e, hw v (List.mem_of_getElem? ev)⟩
    rcases hS with hS | hS
    · refine ⟨_, (pss_cons (ps_if (PW.pt (pw_or (pt_not (pt_val (pe_cal C_is_list (hr.mono (by decide)) (by rfl) (pa_cons (pv 1) pa_nil)))) (pw_or1 (pt_cmpR op_gtN (pe_callB call_len_seq (by rfl) m_len (by decide +kernel) (pa_cons (pv 1) pa_nil)) (pe_glob (v := .int 48) rfl g_MOST_WORDS ⟨_, rfl⟩) (nomark _))))) (pss_one ps_never) pss_nil)
    (pss_one (ps_for PassesOwn.never rfl (pi_enum (by rfl) m_enumerate (pa_cons (pv 1) pa_nil)) (pg_tup rfl (pgs_cons (pg_name (i := 2) sc_check_words.nd rfl (Or.inl rfl)) (pgs_cons (pg_name (i := 3) sc_check_words.nd rfl (Or.inl rfl)) pgs_nil)))
      (pss_one (ps_if (pt_not (pt_val (pe_cal C_is_word (hr.mono (by decide)) (by rfl) (pa_cons (pv 0) (pa_cons (pv 3) pa_nil))))) (pss_one ps_never) pss_nil))))), ?_⟩
      refine ⟨.ref a, rfl, a, _, rfl, .inl hS, fun H1 s1 => ⟨true, rfl, iteF ?_⟩⟩
      have hL : SqL K H1 a (Vf.vs ws) := SqL.of (s1 _ _ hS)
      refine ⟨.ref a, rfl, a, _, rfl, .inl hL, (Vf.vs ws).length, 48, rfl, rfl, false, bl_f l48, iteF ?_⟩
      refine ⟨.ref a, rfl, a, _, rfl, hL, fun i m σ H2 => ∃ z2 z3 : Option V, σ = [some (.int n), some (.ref a), z2, z3] ∧ i + m = (Vf.vs ws).length ∧ Same H H2, ⟨(Vf.vs ws).length, none, none, rfl, by omega, s1⟩, fun i m σ H2 hW => ?_⟩
      obtain ⟨z2, z3, rfl, em, sm⟩ := hW
      have hL2 : SqL K H2 a (Vf.vs ws) := SqL.of (sm _ _ hS)
      by_cases hi : i < (Vf.vs ws).length
      · refine .inr ⟨⟨_, _, hL2, List.getElem?_eq_getElem hi⟩, fun σ' H' => ∃ z2 z3 : Option V, σ' = [some (.int n), some (.ref a), z2, z3] ∧ Same H H', fun σ' H' hN => ?_, fun x H' hy => ?_⟩
        · obtain ⟨y2, y3, e, sm'⟩ := hN
          exact ⟨m - 1, by omega, y2, y3, e, by omega, sm'⟩
        · obtain ⟨T, x1, rfl, nT, rfl, fx⟩ := hy
          obtain ⟨v, rfl, hv⟩ := word (fx _ hL2)
          have s2 := sm.trans (same_new (o := .tup [.int (i : Nat), .int (v : Int)]) nT)
          refine ⟨T, [.int (i : Nat), .int (v : Int)], rfl, .inl (.inl upd_same), rfl, .int (i : Nat), [.int (v : Int)], rfl, .int (v : Int), [], rfl, rfl, ?_⟩
          exact ⟨.int n, rfl, .int v, rfl, n, v, rfl, n1, n24, true, bl_t hv, iteF ⟨_, _, rfl, s2⟩⟩
      · exact .inl ⟨⟨_, hL2, by omega⟩, q H2 sm⟩
    · refine ⟨_, (pss_cons (ps_if (PW.pt (pw_or (pt_not (pt_val (pe_cal C_is_list (hr.mono (by decide)) (by rfl) (pa_cons (pv 1) pa_nil)))) (pw_or1 (pt_cmpR op_gtN (pe_callB call_len_seq (by rfl) m_len (by decide +kernel) (pa_cons (pv 1) pa_nil)) (pe_glob (v := .int 48) rfl g_MOST_WORDS ⟨_, rfl⟩) (nomark _))))) (pss_one ps_never) pss_nil)
    (pss_one (ps_for PassesOwn.never rfl (pi_enumT (by rfl) m_enumerate (pa_cons (pv 1) pa_nil)) (pg_tup rfl (pgs_cons (pg_name (i := 2) sc_check_words.nd rfl (Or.inl rfl)) (pgs_cons (pg_name (i := 3) sc_check_words.nd rfl (Or.inl rfl)) pgs_nil)))
      (pss_one (ps_if (pt_not (pt_val (pe_cal C_is_word (hr.mono (by decide)) (by rfl) (pa_cons (pv 0) (pa_cons (pv 3) pa_nil))))) (pss_one ps_never) pss_nil))))), ?_⟩
      refine ⟨.ref a, rfl, a, _, rfl, .inr hS, fun H1 s1 => ⟨true, rfl, iteF ?_⟩⟩
      have hL : SqT K H1 a (Vf.vs ws) := .inl (.inl (s1 _ _ hS))
      refine ⟨.ref a, rfl, a, _, rfl, .inr hL, (Vf.vs ws).length, 48, rfl, rfl, false, bl_f l48, iteF ?_⟩
      refine ⟨.ref a, rfl, a, _, rfl, hL, fun i m σ H2 => ∃ z2 z3 : Option V, σ = [some (.int n), some (.ref a), z2, z3] ∧ i + m = (Vf.vs ws).length ∧ Same H H2, ⟨(Vf.vs ws).length, none, none, rfl, by omega, s1⟩, fun i m σ H2 hW => ?_⟩
      obtain ⟨z2, z3, rfl, em, sm⟩ := hW
      have hL2 : SqT K H2 a (Vf.vs ws) := .inl (.inl (sm _ _ hS))
      by_cases hi : i < (Vf.vs ws).length
      · refine .inr ⟨⟨_, _, hL2, List.getElem?_eq_getElem hi⟩, fun σ' H' => ∃ z2 z3 : Option V, σ' = [some (.int n), some (.ref a), z2, z3] ∧ Same H H', fun σ' H' hN => ?_, fun x H' hy => ?_⟩
        · obtain ⟨y2, y3, e, sm'⟩ := hN
          exact ⟨m - 1, by omega, y2, y3, e, by omega, sm'⟩
        · obtain ⟨T, x1, rfl, nT, rfl, fx⟩ := hy
          obtain ⟨v, rfl, hv⟩ := word (fx _ hL2)
          have s2 := sm.trans (same_new (o := .tup [.int (i : Nat), .int (v : Int)]) nT)
          refine ⟨T, [.int (i : Nat), .int (v : Int)], rfl, .inl (.inl upd_same), rfl, .int (i : Nat), [.int (v : Int)], rfl, .int (v : Int), [], rfl, rfl, ?_⟩
          exact ⟨.int n, rfl, .int v, rfl, n, v, rfl, n1, n24, true, bl_t hv, iteF ⟨_, _, rfl, s2⟩⟩
      · exact .inl ⟨⟨_, hL2, by omega⟩, q H2 sm⟩
abbrev s_Room___init__ : Stmt := inClass (topS 36) 0
abbrev N_Room___init__ : List Str := ["self", "places", "words"]
theorem sc_Room___init__ : FnScope N_Room___init__ ["self", "places", "words"] (defScope s_Room___init__) := ⟨rfl, rfl, rfl, by decide +kernel, rfl, by decide +kernel, by decide +kernel⟩
theorem ok_init {f : Addr} {fd : FuncData} (F : Fun K "__init__" "Room.__init__" s_Room___init__ f fd) (R : RKn K C) (C_check_places : Cal P w K mg base "check_places" 3 ["places"] [] sp_check_places)
    (C_check_words : Cal P w K mg base "check_words" 5 ["places", "words"] [] sp_check_words) (C_plain_basis : Cal P w K mg base "plain_basis" 3 ["words"] [] sp_plain_basis) : FnOk P w K mg base CX0 6 f fd ["self", "places", "words"] (sp_init C) := by
  refine F.ok sc_Room___init__ (fun vs H Q E h => ?_) (fun cdv A outer s H vs Q E hr h => ?_)
  · obtain ⟨x, dx, n, a, ws, rfl, _⟩ := h
    rfl
  · obtain ⟨x, dx, n, a, ws, rfl, ex, hS, n1, n24, hw, lw, q⟩ := h
    refine ⟨_, (pss_cons (ps_expr (pe_cal C_check_places (hr.mono (by decide)) (by rfl) (pa_cons (pv 1) pa_nil)))
    (pss_cons (ps_expr (pe_cal C_check_words (hr.mono (by decide)) (by rfl) (pa_cons (pv 1) (pa_cons (pv 2) pa_nil))))
    (pss_cons (ps_fld (pv 0) (pv 1) rfl)
    (pss_one (ps_fld (pv 0) (pe_cal C_plain_basis (hr.mono (by decide)) (by rfl) (pa_cons (pv 2) pa_nil)) rfl))))), ?_⟩
    refine ⟨.int n, rfl, n, rfl, n1, n24, .int n, rfl, .ref a, rfl, n, a, ws, rfl, hS, n1, n24, hw, lw, fun H1 s1 => ?_⟩
    refine ⟨.int n, rfl, .ref x, rfl, x, C, dx, [], rfl, s1 _ _ ex, R.cl, R.nP, by decide, ?_⟩
    have nax : a ≠ x := by
      rintro rfl
      rcases hS with h | h <;> rw [h] at ex <;> cases ex
    have b1 : But x H (upd H1 x (.ins C dx (putF "_places" (.int (n : Int)) []))) := (But.of s1).upd
    have hS2 : Sq (upd H1 x (.ins C dx (putF "_places" (.int (n : Int)) []))) a (Vf.vs ws) := hS.imp (b1 _ _ nax) (b1 _ _ nax)
    refine ⟨.ref a, rfl, a, ws, rfl, hS2, fun v hv => lt64 n24 (hw v hv), by omega, fun H2 p B s2 np eB pl sp ln => ?_⟩
    refine ⟨.ref x, rfl, x, C, dx, _, rfl, s2 _ _ upd_same, R.cl, R.nB, (show 1 < 1000 by decide), ?_⟩
    have npx : p ≠ x := by
      rintro rfl
      rw [upd_same] at np
      cases np
    refine q _ B ((b1.trans (.of s2)).upd) ⟨dx, p, upd_same, by rw [upd_ne npx]; exact eB, pl, n1, n24, fun c hc => ?_, ?_⟩ sp ln
    · exact span_lt (ws := ws) hw ((sp c).mp (span_mem hc))
    · rw [upd_ne npx] at np
      exact s1.free np
abbrev s_Room_places : Stmt := inClass (topS 36) 1
abbrev N_Room_places : List Str := ["self"]
theorem sc_Room_places : FnScope N_Room_places ["self"] (defScope s_Room_places) := ⟨rfl, rfl, rfl, by decide +kernel, rfl, by decide +kernel, by decide +kernel⟩
theorem ok_places {f : Addr} {fd : FuncData} (F : Fun K "places" "Room.places" s_Room_places f fd) (R : RKn K C) : FnOk P w K mg base CX0 1 f fd ["self"] (sp_places C) := by
  refine F.ok sc_Room_places (fun vs H Q E h => ?_) (fun cdv A outer s H vs Q E hr h => ?_)
  · obtain ⟨x, n, B, rfl, _⟩ := h
    rfl
  · obtain ⟨x, n, B, rfl, ⟨dx, b, ex, eb, pl, n1, n24, hB⟩, q⟩ := h
    refine ⟨_, (pss_one (ps_ret (pe_fld (pv 0) rfl))), ?_⟩
    exact ⟨.ref x, rfl, x, C, dx, _, _, rfl, ex, R.cl, R.nP, rf_places n b, q⟩
abbrev s_Room_dimension : Stmt := inClass (topS 36) 2
abbrev N_Room_dimension : List Str := ["self"]
theorem sc_Room_dimension : FnScope N_Room_dimension ["self"] (defScope s_Room_dimension) := ⟨rfl, rfl, rfl, by decide +kernel, rfl, by decide +kernel, by decide +kernel⟩
theorem ok_dimension {f : Addr} {fd : FuncData} (F : Fun K "dimension" "Room.dimension" s_Room_dimension f fd) (R : RKn K C) (m_len : mg "len" = none) : FnOk P w K mg base CX0 1 f fd ["self"] (sp_dimension C) := by
  refine F.ok sc_Room_dimension (fun vs H Q E h => ?_) (fun cdv A outer s H vs Q E hr h => ?_)
  · obtain ⟨x, n, B, rfl, _⟩ := h
    rfl
  · obtain ⟨x, n, B, rfl, ⟨dx, b, ex, eb, pl, n1, n24, hB⟩, q⟩ := h
    refine ⟨_, (pss_one (ps_ret (pe_callB call_len_seq (by rfl) m_len (by decide +kernel) (pa_cons (pe_fld (pv 0) rfl) pa_nil)))), ?_⟩
    refine ⟨.ref x, rfl, x, C, dx, _, _, rfl, ex, R.cl, R.nB, rf_basis n b, b, _, rfl, .inl (SqL.of eb), ?_⟩
    rw [len_vs]
    exact q
abbrev s_Room_basis : Stmt := inClass (topS 36) 3
abbrev N_Room_basis : List Str := ["self"]
theorem sc_Room_basis : FnScope N_Room_basis ["self"] (defScope s_Room_basis) := ⟨rfl, rfl, rfl, by decide +kernel, rfl, by decide +kernel, by decide +kernel⟩
theorem ok_basis {f : Addr} {fd : FuncData} (F : Fun K "basis" "Room.basis" s_Room_basis f fd) (R : RKn K C) (m_list : mg "list" = none) : FnOk P w K mg base CX0 1 f fd ["self"] (sp_basis C) := by
  refine F.ok sc_Room_basis (fun vs H Q E h => ?_) (fun cdv A outer s H vs Q E hr h => ?_)
  · obtain ⟨x, n, B, rfl, _⟩ := h
    rfl
  · obtain ⟨x, n, B, rfl, ⟨dx, b, ex, eb, pl, n1, n24, hB⟩, q⟩ := h
    refine ⟨_, (pss_one (ps_ret (pe_callTy call_list_of (by rfl) m_list (by decide +kernel) (pa_cons (pe_fld (pv 0) rfl) pa_nil)))), ?_⟩
    exact ⟨.ref x, rfl, x, C, dx, _, _, rfl, ex, R.cl, R.nB, rf_basis n b, b, _, rfl, .inl (SqL.of eb), fun p np => q _ p (same_new np) np upd_same⟩
abbrev s_Room_has : Stmt := inClass (topS 36) 4
abbrev N_Room_has : List Str := ["self", "word"]
theorem sc_Room_has : FnScope N_Room_has ["self", "word"] (defScope s_Room_has) := ⟨rfl, rfl, rfl, by decide +kernel, rfl, by decide +kernel, by decide +kernel⟩
theorem ok_has {f : Addr} {fd : FuncData} (F : Fun K "has" "Room.has" s_Room_has f fd) (R : RKn K C) (C_check_word : Cal P w K mg base "check_word" 5 ["word", "places"] [] sp_check_word) (C_rest_of : Cal P w K mg base "rest_of" 2 ["word", "basis"] [] sp_rest_of) :
    FnOk P w K mg base CX0 6 f fd ["self", "word"] (sp_has C) := by
  refine F.ok sc_Room_has (fun vs H Q E h => ?_) (fun cdv A outer s H vs Q E hr h => ?_)
  · obtain ⟨x, n, B, m, rfl, _⟩ := h
    rfl
  · obtain ⟨x, n, B, m, rfl, ⟨dx, b, ex, eb, pl, n1, n24, hB⟩, hm, q⟩ := h
    refine ⟨_, (pss_cons (ps_expr (pe_cal C_check_word (hr.mono (by decide)) (by rfl) (pa_cons (pv 1) (pa_cons (pe_fld (pv 0) rfl) pa_nil))))
    (pss_one (ps_ret (pe_cmpR op_eqN (pe_cal C_rest_of (hr.mono (by decide)) (by rfl) (pa_cons (pv 1) (pa_cons (pe_fld (pv 0) rfl) pa_nil))) pe_int (nomark _))))), ?_⟩
    refine ⟨.int m, rfl, .ref x, rfl, x, C, dx, _, _, rfl, ex, R.cl, R.nP, rf_places n b, m, n, rfl, n1, n24, hm, ?_⟩
    exact ⟨.int m, rfl, .ref x, rfl, x, C, dx, _, _, rfl, ex, R.cl, R.nB, rf_basis n b, m, b, B, rfl, eb, fun c hc => ⟨pl.1.2 c hc, lt64 n24 (hB c hc)⟩, restOf m B, 0, rfl, rfl, q⟩
abbrev s_Room_words : Stmt := inClass (topS 36) 5
abbrev N_Room_words : List Str := ["self"]
theorem sc_Room_words : FnScope N_Room_words ["self"] (defScope s_Room_words) := ⟨rfl, rfl, rfl, by decide +kernel, rfl, by decide +kernel, by decide +kernel⟩
theorem ok_words {f : Addr} {fd : FuncData} (F : Fun K "words" "Room.words" s_Room_words f fd) (R : RKn K C) (C_sums_of : Cal P w K mg base "sums_of" 1 ["basis"] [] sp_sums_of) {t : Tok} (g_MOST_DIMENSION : mg "MOST_DIMENSION" = some (.int 8 t)) (m_len : mg "len" = none) :
    FnOk P w K mg base CX0 2 f fd ["self"] (sp_words C) := by
  refine F.ok sc_Room_words (fun vs H Q E h => ?_) (fun cdv A outer s H vs Q E hr h => ?_)
  · obtain ⟨x, n, B, rfl, _⟩ := h
    rfl
  · obtain ⟨x, n, B, rfl, ⟨dx, b, ex, eb, pl, n1, n24, hB⟩, lB, q⟩ := h
    refine ⟨_, (pss_cons (ps_if (pt_cmpR op_gtN (pe_callB call_len_seq (by rfl) m_len (by decide +kernel) (pa_cons (pe_fld (pv 0) rfl) pa_nil)) (pe_glob (v := .int 8) rfl g_MOST_DIMENSION ⟨_, rfl⟩) (nomark _)) (pss_one ps_never) pss_nil)
    (pss_one (ps_ret (pe_cal C_sums_of (hr.mono (by decide)) (by rfl) (pa_cons (pe_fld (pv 0) rfl) pa_nil))))), ?_⟩
    have l8 : ¬ 8 < (Vf.vs B).length := by
      rw [len_vs]
      omega
    refine ⟨.ref x, rfl, x, C, dx, _, _, rfl, ex, R.cl, R.nB, rf_basis n b, b, _, rfl, .inl (SqL.of eb), (Vf.vs B).length, 8, rfl, rfl, false, bl_f l8, iteF ?_⟩
    exact ⟨.ref x, rfl, x, C, dx, _, _, rfl, ex, R.cl, R.nB, rf_basis n b, b, B, rfl, eb, pl.1, by omega, q⟩
abbrev s_Room___eq__ : Stmt := inClass (topS 36) 6
abbrev N_Room___eq__ : List Str := ["self", "other"]
theorem sc_Room___eq__ : FnScope N_Room___eq__ ["self", "other"] (defScope s_Room___eq__) := ⟨rfl, rfl, rfl, by decide +kernel, rfl, by decide +kernel, by decide +kernel⟩
theorem ok_eq {f : Addr} {fd : FuncData} (F : Fun K "__eq__" "Room.__eq__" s_Room___eq__ f fd) (R : RKn K C) (g_Room : mg "Room" = some (.ref C)) (m_isinstance : mg "isinstance" = none) : FnOk P w K mg base CX0 1 f fd ["self", "other"] (sp_eq K C) := by
  refine F.ok sc_Room___eq__ (fun vs H Q E h => ?_) (fun cdv A outer s H vs Q E hr h => ?_)
  · obtain ⟨x, n, B, y, rfl, _⟩ := h
    rfl
  · obtain ⟨x, n, B, y, rfl, ⟨dx, b, ex, eb, pl, n1, n24, hB⟩, hy⟩ := h
    refine ⟨_, (pss_one (ps_ret (pe_and (pe_callB call_isi (by rfl) m_isinstance (by decide +kernel) (pa_cons (pv 1) (pa_cons (pe_glob (v := .ref C) rfl g_Room rfl) pa_nil))) (pe_and (pe_cmpR op_eqN (pe_fld (pv 0) rfl) (pe_fld (pv 1) rfl) (nomark _)) (pe_one (pe_cmpR (op_eqD hr.units) (pe_fld (pv 0) rfl) (pe_fld (pv 1) rfl) (nomark _))))))), ?_⟩
    rcases hy with ⟨z, m, D, rfl, ⟨dz, d, ez, ed, pd, _⟩, q⟩ | ⟨t, ty, ko, q⟩
    · refine ⟨.ref z, rfl, .ref z, .ref C, .ref C, .ref C, true, rfl, .own C, .base (.ins ez R.cl R.ca R.cn R.ct R.cm), if_pos (beq_self_eq_true _), true, rfl, iteT ?_⟩
      refine ⟨.ref x, rfl, x, C, dx, _, _, rfl, ex, R.cl, R.nP, rf_places n b, .ref z, rfl, z, C, dz, _, _, rfl, ez, R.cl, R.nP, rf_places m d, n, m, rfl, rfl, decide (n = m), rfl, ?_⟩
      refine ite2 (fun e => ?_) (fun e => ?_)
      · have e' : n = m := of_decide_eq_true e
        refine ⟨.ref x, rfl, x, C, dx, _, _, rfl, ex, R.cl, R.nB, rf_basis n b, .ref z, rfl, z, C, dz, _, _, rfl, ez, R.cl, R.nB, rf_basis m d, eqD_vs (SqL.of eb) (SqL.of ed) ?_⟩
        have : decide (n = m ∧ B = D) = decide (B = D) := decide_eq_decide.mpr ⟨fun k => k.2, fun k => ⟨e', k⟩⟩
        rw [this] at q
        exact q
      · have : decide (n = m ∧ B = D) = false := decide_eq_false fun k => e (decide_eq_true k.1)
        rw [this] at q
        exact q
    · exact ⟨y, rfl, y, .ref C, t, .ref C, false, rfl, .own C, ty, ko, false, rfl, iteF q⟩
abbrev s_Room___repr__ : Stmt := inClass (topS 36) 7
abbrev N_Room___repr__ : List Str := ["self"]
theorem sc_Room___repr__ : FnScope N_Room___repr__ ["self"] (defScope s_Room___repr__) := ⟨rfl, rfl, rfl, by decide +kernel, rfl, by decide +kernel, by decide +kernel⟩
theorem ok_repr {f : Addr} {fd : FuncData} (F : Fun K "__repr__" "Room.__repr__" s_Room___repr__ f fd) (R : RKn K C) : GgOk P w K mg base 1 f fd ["self"] (sp_repr C) := by
  refine gg_ok F sc_Room___repr__ (fun g vs H Q E h => ?_) (fun g cdv A outer s H vs Q E hg hr h => ?_)
  · obtain ⟨x, dx, b, n, B, rfl, _⟩ := h
    rfl
  · obtain ⟨x, dx, b, n, B, rfl, ex, eb, n1, n24, hB, lB, hc, q⟩ := h
    have sm : ∀ y ∈ Vf.vs B, small y = true := small_vs fun c hc => lt24 n24 (hB c hc)
    have l1 := txt_len sm
    rw [len_vs] at l1
    have l2 : ((toString (n : Int) : Str)).length ≤ 30 := by
      have e := int_text_length_le (a := (n : Int)) (k := 24) (by decide) (by
        show n.log2 < 24
        exact (Nat.log2_lt (by omega)).mpr (Nat.lt_of_le_of_lt n24 (by decide)))
      show (Str.ofString (toString (n : Int))).length ≤ 30
      rw [PySem.ofString_length]
      omega
    have e3 : sizeLine = 16777216 := sizeLine_eq
    have k1 : (Str.empty).length = 0 := rfl
    have k2 : (("Room(" : Str)).length = 5 := rfl
    have k3 : ((", " : Str)).length = 2 := rfl
    have k4 : ((")" : Str)).length = 1 := rfl
    refine ⟨_, (pss_one (ps_ret (pe_joined (PJ.cons pe_str (PJ.cons (pe_fmt (pe_fld (pv 0) rfl)) (PJ.cons pe_str (PJ.cons (pe_fmtG hg hr.units (pe_fld (pv 0) rfl)) (PJ.cons pe_str PJ.nil)))))))), ?_⟩
    refine ⟨"Room(", rfl, by rw [strLen_append]; omega, ?_⟩
    refine ⟨.ref x, rfl, x, C, dx, _, _, rfl, ex, R.cl, R.nP, rf_places n b, .inr ⟨n, rfl, ?_, toString (n : Int), rfl, by rw [strLen_append, strLen_append]; omega, ?_⟩⟩
    · show n.log2 < 1920
      exact Nat.lt_of_lt_of_le ((Nat.log2_lt (by omega)).mpr (Nat.lt_of_le_of_lt n24 (show 24 < 2 ^ 24 by decide))) (by decide)
    refine ⟨", ", rfl, by rw [strLen_append, strLen_append, strLen_append]; omega, ?_⟩
    refine ⟨.ref x, rfl, x, C, dx, _, _, rfl, ex, R.cl, R.nB, rf_basis n b, ⟨⟨b, _, rfl, SqL.of eb, sm, hc, by omega, ?_⟩⟩⟩
    refine ⟨txt (Vf.vs B), rfl, by rw [strLen_append, strLen_append, strLen_append, strLen_append]; omega, ?_⟩
    exact ⟨")", rfl, by rw [strLen_append, strLen_append, strLen_append, strLen_append, strLen_append]; omega, q⟩
abbrev s_check_room : Stmt := topS 37
abbrev N_check_room : List Str := ["room"]
theorem sc_check_room : FnScope N_check_room ["room"] (defScope s_check_room) := ⟨rfl, rfl, rfl, by decide +kernel, rfl, by decide +kernel, by decide +kernel⟩
theorem ok_check_room {f : Addr} {fd : FuncData} (F : Fun K "check_room" "check_room" s_check_room f fd)
    (R : RKn K C)
    (g_Room : mg "Room" = some (.ref C))
    (m_isinstance : mg "isinstance" = none) :
    FnOk P w K mg base CX0 1 f fd ["room"] (sp_check_room C) := by
  refine fn_nv F sc_check_room (fun _ _ => rfl) fun W i hP cdv A outer s H E hr => ⟨_, (pss_one (ps_if (pt_not (pt_val (pe_callB call_isi (by rfl) m_isinstance (by decide +kernel) (pa_cons (pv 0) (pa_cons (pe_glob (v := .ref C) rfl g_Room rfl) pa_nil))))) (pss_one ps_never) pss_nil)), ?_⟩
  obtain ⟨n, B⟩ := i
  dsimp only
  exact ⟨_, nv_ifF (tv_nf (tv_t (tv_B (ev_cb (cd_isRoom R) (av_cons (ev_var rfl) (av_cons ev_c av_nil)))) rfl))⟩
abbrev s_multiplied : Stmt := topS 39
abbrev N_multiplied : List Str := ["polynomial", "other", "numbers", "at", "number", "other_at", "factor"]
theorem sc_multiplied : FnScope N_multiplied ["polynomial", "other"] (defScope s_multiplied) := ⟨rfl, rfl, rfl, by decide +kernel, rfl, by decide +kernel, by decide +kernel⟩
theorem ok_multiplied {f : Addr} {fd : FuncData} (F : Fun K "multiplied" "multiplied" s_multiplied f fd)
    (m_enumerate : mg "enumerate" = none)
    (m_len : mg "len" = none) :
    FnOk P w K mg base CX0 1 f fd ["polynomial", "other"] (sp_mulZ K) := by
  refine fn_sv F sc_multiplied (fun _ _ => rfl) fun W i hP cdv A outer s H E hr => ⟨_, (pss_cons (ps_set (i := 2) sc_multiplied.nd rfl (Or.inl rfl) (pe_op op_rep (pe_lst (pa_cons pe_int pa_nil)) (pe_op op_subN (pe_op op_addN (pe_callB call_len_seq (by rfl) m_len (by decide +kernel) (pa_cons (pv 0) pa_nil)) (pe_callB call_len_seq (by rfl) m_len (by decide +kernel) (pa_cons (pv 1) pa_nil))) pe_int)))
    (pss_cons (ps_for PassesOwn.never rfl (pi_enum (by rfl) m_enumerate (pa_cons (pv 0) pa_nil)) (pg_tup rfl (pgs_cons (pg_name (i := 3) sc_multiplied.nd rfl (Or.inl rfl)) (pgs_cons (pg_name (i := 4) sc_multiplied.nd rfl (Or.inl rfl)) pgs_nil)))
      (pss_one (ps_for PassesOwn.never rfl (pi_enumLT (by rfl) m_enumerate (pa_cons (pv 1) pa_nil)) (pg_tup rfl (pgs_cons (pg_name (i := 5) sc_multiplied.nd rfl (Or.inl rfl)) (pgs_cons (pg_name (i := 6) sc_multiplied.nd rfl (Or.inl rfl)) pgs_nil)))
      (pss_one (ps_augS (pv 2) (pe_op op_addN (pv 3) (pv 5)) get_listN (pe_op op_mul (pv 4) (pv 6)) ip_add set_list)))))
    (pss_one (ps_ret (pv 2))))), ?_⟩
  obtain ⟨A, B⟩ := i
  have a1 : 1 ≤ A.length := hP.a1
  have a9 : A.length ≤ 200 := hP.a99
  have b1 : 1 ≤ B.length := hP.b1
  have b9 : B.length ≤ 200 := hP.b99
  have sm : smZ A := hP.sm
  try dsimp only
  refine sv_cell (fl_rep (n := A.length + B.length - 1) (y := V.int 0) (ev_lstI [0] (av_cons (ev_cn 0) av_nil)) (ev_op (od_subN (by omega)) (ev_op od_addN (ev_cb cd_lenI (av_cons (ev_var rfl) av_nil)) (ev_eqD (ev_cb cd_lenQ (av_cons (ev_var rfl) av_nil)) (congrArg dN (len_is B)))) (ev_cn 1)) (by omega)) ?_
  refine svc_seq (nvc_enumV (m := 0) (xs := A.map V.int) (fun _ => envOf [dIs A, dQ K (B.map V.int)] 5) (fun k => [(2, (outZ B 0 (List.replicate (A.length + B.length - 1) 0) (A.take k)).map V.int)]) rfl rfl (fun σ H h => h.sub rfl ⟨rfl, rfl, trivial⟩) ?_ (fun _ => rfl) (fun _ => rfl) fun k x hx => ?_) ?_
  · show CE _ [_] = CE _ [(2, (List.replicate (A.length + B.length - 1) 0).map V.int)]
    rw [List.map_replicate]
  · obtain ⟨a, ha, rfl⟩ := get_is hx
    have kl : k < A.length := (List.getElem?_eq_some_iff.mp ha).1
    have sa := sm a (List.mem_of_getElem? ha)
    have st := outZ_snoc B a (A.take k) 0 (List.replicate (A.length + B.length - 1) 0)
    rw [← take_snocZ ha, List.length_take, Nat.min_eq_left (Nat.le_of_lt kl), Nat.zero_add] at st
    have ln : (outZ B 0 (List.replicate (A.length + B.length - 1) 0) (A.take k)).length = A.length + B.length - 1 := by rw [outZ_len, List.length_replicate]
    generalize outZ B 0 (List.replicate (A.length + B.length - 1) 0) (A.take k) = L at st ln
    refine nvc_sub' (nvc_cs (nvc_enumQ (m := 1) (xs := B.map V.int) (fun _ => ((envOf [dIs A, dQ K (B.map V.int)] 5).set 3 (some (dN k))).set 4 (some (dI a))) (fun t => [(2, (inZ a k L (B.take t)).map V.int)]) rfl qs_Q (fun σ H h => h) rfl (fun _ => rfl) (fun _ => rfl) fun t y hy => ?_) ?_) rfl ⟨rfl, rfl, trivial⟩
    · obtain ⟨b, hb, rfl⟩ := get_is hy
      have tl : t < B.length := (List.getElem?_eq_some_iff.mp hb).1
      have si := inZ_snoc a b (B.take t) k L
      rw [← take_snocZ hb, List.length_take, Nat.min_eq_left (Nat.le_of_lt tl)] at si
      have li := inZ_len a (B.take t) k L
      rw [ln] at li
      generalize inZ a k L (B.take t) = T at si li
      have gx : (T.map V.int)[k + t]? = some (.int (T.getD (k + t) 0)) := by
        rw [List.getElem?_map, getD_some (l := T) (d := 0) (by omega)]
        rfl
      refine nvc_sub' (nvc_cs (nvc_aug (a := T.getD (k + t) 0) (b := a * b) rfl (ev_op od_addN (ev_var rfl) (ev_var rfl)) gx (ev_op (od_mulI (.inl sa)) (ev_var rfl) (ev_var rfl))) ?_) rfl ⟨rfl, rfl, rfl, rfl, trivial⟩
      show [(2, (T.map V.int).set (k + t) (V.int (T.getD (k + t) 0 + a * b)))] = [(2, _)]
      rw [si, List.map_set]
    · rw [len_is, List.take_length, st]
  · refine svc_ret rfl ?_
    show (dIs (mulZ A B)).ok = (dLst ((outZ B 0 (List.replicate (A.length + B.length - 1) 0) (A.take (A.map V.int).length)).map V.int)).ok
    rw [len_is, List.take_length]
    rfl
abbrev s_added_up : Stmt := topS 40
abbrev N_added_up : List Str := ["terms", "factors", "total", "term", "factor", "number", "part"]
theorem sc_added_up : FnScope N_added_up ["terms", "factors"] (defScope s_added_up) := ⟨rfl, rfl, rfl, by decide +kernel, rfl, by decide +kernel, by decide +kernel⟩
theorem ok_added_up {f : Addr} {fd : FuncData} (F : Fun K "added_up" "added_up" s_added_up f fd)
    (m_len : mg "len" = none)
    (m_zip : mg "zip" = none) :
    FnOk P w K mg base CX0 1 f fd ["terms", "factors"] sp_addZ := by
  refine fn_svf F sc_added_up (fun _ _ => rfl) fun W i hP cdv A outer s H E hr => ⟨_, (pss_cons (ps_set (i := 2) sc_added_up.nd rfl (Or.inl rfl) (pe_op op_rep (pe_lst (pa_cons pe_int pa_nil)) (pe_callB call_len_seq (by rfl) m_len (by decide +kernel) (pa_cons (pe_ix ix_list (pv 0) pe_int (fun _ _ => rfl)) pa_nil))))
    (pss_cons (ps_for PassesOwn.never rfl (pi_zip (by rfl) m_zip (pa_cons (pv 0) (pa_cons (pv 1) pa_nil))) (pg_tup rfl (pgs_cons (pg_name (i := 3) sc_added_up.nd rfl (Or.inl rfl)) (pgs_cons (pg_name (i := 4) sc_added_up.nd rfl (Or.inr rfl)) pgs_nil)))
      (pss_one (ps_setLc (i := 2) (own := [("number", 5), ("part", 6)]) (g := gTup K 2 (gCons (gName 5) (gCons (gName 6) gNil))) (by rfl) sc_added_up.nd rfl rfl (sw_true rfl rfl rfl (by decide +kernel)) (pi_zip (by rfl) m_zip (pa_cons (pv 2) (pa_cons (pv 3) pa_nil))) (blkOk_by (own := [("number", 5), ("part", 6)]) (N := N_added_up) (sc := defScope s_added_up) (by decide +kernel)) (fun _ _ _ _ _ => (pg_tup rfl (pgs_cons (pg_name (i := 5) sc_added_up.nd rfl (Or.inl rfl)) (pgs_cons (pg_name (i := 6) sc_added_up.nd rfl (Or.inl rfl)) pgs_nil)))) (fun _ _ _ _ _ => pts_nil) (fun _ _ _ _ _ => (pe_op op_add (pv 5) (pe_op op_mul (pv 4) (pv 6)))))))
    (pss_one (ps_ret (pv 2))))), ?_⟩
  obtain ⟨ts, fs⟩ := i
  have h : AddP (ts, fs) := hP
  have t1 : 1 ≤ ts.length := h.t1
  have t9 : ts.length ≤ 100 := h.t9
  have ln : ts.length = fs.length := h.ln
  have eq : ∀ t ∈ ts, t.length = (ts.headD []).length := h.eq
  have l9 : (ts.headD []).length ≤ 200 := h.l99
  have sm : ∀ t ∈ ts, smZ t := h.sm
  have h0 : ts[0]? = some (ts.headD []) := by
    cases ts with
    | nil => simp at t1
    | cons t ts => rfl
  try dsimp only
  show SVF _ [] _ ((adZ ts fs (List.replicate (ts.headD []).length 0)).map V.int)
  generalize ts.headD [] = t0 at eq l9 h0 ⊢
  refine svf_cell (fl_rep (n := t0.length) (y := V.int 0) (ev_lstI [0] (av_cons (ev_cn 0) av_nil)) (ev_cb cd_lenI (av_cons (ev_op (od_ixLD (tD_at h0)) (ev_var rfl) (ev_cn 0)) av_nil)) (by omega)) ?_
  refine svf_seq (nvc_zipV (m := 0) (m2 := 1) (ds := tD ts W) (ys := fs.map V.int) (fun _ => envOf [dLD (tD ts W), dIs fs] 5) (fun k => [(2, (adZ (ts.take k) (fs.take k) (List.replicate t0.length 0)).map V.int)]) rfl rfl (by rw [tD_len, len_is, ln]) (fun σ H h => h.sub rfl ⟨rfl, rfl, trivial⟩) ?_ (fun _ => rfl) (fun _ => rfl) fun k d y hd hy => ?_) ?_
  · show CE _ [_] = CE _ [(2, (List.replicate t0.length 0).map V.int)]
    rw [List.map_replicate]
  · obtain ⟨t, ht, rfl⟩ := tD_get hd
    obtain ⟨f, hf, rfl⟩ := get_is hy
    have kl : k < ts.length := (List.getElem?_eq_some_iff.mp ht).1
    have et := eq t (List.mem_of_getElem? ht)
    have smt := sm t (List.mem_of_getElem? ht)
    have la := adZ_len (n := t0.length) (ts := ts.take k) (fs := fs.take k) (tot := List.replicate t0.length 0) (fun s hs => eq s (List.mem_of_mem_take hs)) List.length_replicate
    have st := adZ_snoc t f (ts.take k) (fs.take k) (List.replicate t0.length 0) (by rw [List.length_take, List.length_take, ln])
    rw [← take_snocZ ht, ← take_snocZ hf] at st
    rw [st]
    generalize adZ (ts.take k) (fs.take k) (List.replicate t0.length 0) = L at la
    exact nvc_sub' (nvc_recell (fl_lcZ (g := fun x y => x + f * y) (av_cons (ev_var rfl) (av_cons (ev_var rfl) av_nil)) (by omega) (by omega) (by decide) fun x y hx hy => (ev_op od_addI (ev_var rfl) (ev_op (od_mulI (.inr (smt y hy))) (ev_var rfl) (ev_var rfl))))) rfl ⟨rfl, rfl, trivial⟩
  · have e1 : (tD ts W).length = ts.length := tD_len ts
    rw [e1, List.take_length, ln, List.take_length]
    exact svf_retC
abbrev s_even_word : Stmt := topS 42
abbrev N_even_word : List Str := ["unit", "basis", "word", "base"]
theorem sc_even_word : FnScope N_even_word ["unit", "basis"] (defScope s_even_word) := ⟨rfl, rfl, rfl, by decide +kernel, rfl, by decide +kernel, by decide +kernel⟩
theorem ok_even_word {f : Addr} {fd : FuncData} (F : Fun K "even_word" "even_word" s_even_word f fd)
    (C_highest : Cal P w K mg base "highest" 1 ["word"] [] sp_highest) :
    FnOk P w K mg base CX0 2 f fd ["unit", "basis"] sp_even_word := by
  refine fn_sv F sc_even_word (fun _ _ => rfl) fun W i hP cdv A outer s H E hr => ⟨_, (pss_cons (ps_set (i := 2) sc_even_word.nd rfl (Or.inl rfl) (pv 0))
    (pss_cons (ps_for PassesOwn.never rfl (pi_list (pv 1)) (pg_name (i := 3) sc_even_word.nd rfl (Or.inl rfl))
      (pss_one (ps_if (pt_int (pe_op op_andN (pv 3) (pv 0)) (by intro _; rfl)) (pss_one (ps_set (i := 2) sc_even_word.nd rfl (Or.inl rfl) (pe_op op_xorN (pv 2) (pe_cal C_highest (hr.mono (by decide)) (by rfl) (pa_cons (pv 3) pa_nil))))) pss_nil)))
    (pss_one (ps_ret (pv 2))))), ?_⟩
  obtain ⟨i, B⟩ := i
  obtain ⟨h, pl, lt⟩ := hP
  have h : i < 24 := h
  have pl : Plain B := pl
  have lt : ∀ b ∈ B, b < 2 ^ 24 := lt
  try dsimp only
  refine sv_seq (nv_set (ev_var rfl)) ?_
  refine sv_seq (nv_of_nvc (nvc_forV (cs := []) (xs := vs B) (fun k => (envOf [dN (2 ^ i), dVs B] 2).set 2 (some (dN (fW (B.take k) (2 ^ i))))) (fun _ => []) rfl rfl (fun σ H h => ?_) rfl (fun _ => rfl) fun k x hx => ?_) rfl) (sv_ret (ev_eq (ev_var rfl) (by rw [len_vs, List.take_length])))
  · have e : fW (B.take 0) (2 ^ i) = 2 ^ i := Nat.xor_zero _
    try dsimp only
    rw [e]
    exact h
  · obtain ⟨b, hb, rfl⟩ := get_vs hx
    have mb := List.mem_of_getElem? hb
    have b0 := pl.1.2 b mb
    have b64 : b < 2 ^ 64 := Nat.lt_of_lt_of_le (lt b mb) (by decide)
    have st : fW (B.take (k + 1)) (2 ^ i) = fW (B.take k) (2 ^ i) ^^^ pw (b.testBit i) (2 ^ b.log2) := by
      unfold fW
      rw [List.take_add_one, hb, show (some b).toList = [b] from rfl, gW_snoc, par_pow h, Nat.xor_assoc]
    refine nvc_end (nv_if (tv_int (ev_op od_andN (ev_var rfl) (ev_var rfl))) (fun t_ => ?_) (fun t_ => ?_))
    · rw [and_pow] at t_
      rw [t_] at st
      exact nv_sub (nv_set (ev_op od_xorN (ev_var rfl) (ev_call (sd_highest b0 b64) (av_cons (ev_var rfl) av_nil)))) rfl ⟨congrArg (fun z => some (dN z)) st.symm, rfl, rfl, trivial⟩
    · rw [and_pow] at t_
      rw [t_] at st
      exact nv_sub nv_next rfl ⟨congrArg (fun z => some (dN z)) (st.trans (Nat.xor_zero _)).symm, rfl, rfl, trivial⟩
abbrev s_contrary : Stmt := topS 43
abbrev N_contrary : List Str := ["room", "basis", "place"]
theorem sc_contrary : FnScope N_contrary ["room"] (defScope s_contrary) := ⟨rfl, rfl, rfl, by decide +kernel, rfl, by decide +kernel, by decide +kernel⟩
theorem ok_contrary {f : Addr} {fd : FuncData} (F : Fun K "contrary" "contrary" s_contrary f fd)
    (C_check_room : Cal P w K mg base "check_room" 1 ["room"] [] (sp_check_room C))
    (C_even_word : Cal P w K mg base "even_word" 2 ["unit", "basis"] [] sp_even_word)
    (MK_Room : MakC P w K mg base C "Room" 6 ["self", "places", "words"] (sp_init C))
    (M_basis : MthC P w K mg base C "basis" 1 ["self"] (sp_basis C))
    (P_places : PrpC P w K mg base C "places" 1 (sp_places C))
    (m_range : mg "range" = none)
    (n_basis : ∀ n b, (rf n b).lookup ("basis" : Str) = none) :
    FnOk P w K mg base CX0 8 f fd ["room"] (sp_contrary C) := by
  refine fn_sv F sc_contrary (fun _ _ => rfl) fun W i hP cdv A outer s H E hr => ⟨_, (pss_cons (ps_expr (pe_cal C_check_room (hr.mono (by decide)) (by rfl) (pa_cons (pv 0) pa_nil)))
    (pss_cons (ps_set (i := 1) sc_contrary.nd rfl (Or.inr rfl) (pe_meth0C M_basis (hr.mono (by decide)) (pv 0)))
    (pss_one (ps_ret (pe_mkC MK_Room (hr.mono (by decide)) (by rfl) (pa_cons (pe_propC P_places (hr.mono (by decide)) (pv 0) rfl) (pa_cons (pe_lc (own := [("place", 2)]) (g := gName 2) (by rfl) sc_contrary.nd (pi_range1 (by rfl) m_range (pa_cons (pe_propC P_places (hr.mono (by decide)) (pv 0) rfl) pa_nil)) (blkOk_by (own := [("place", 2)]) (N := N_contrary) (sc := defScope s_contrary) (by decide +kernel)) (fun _ _ _ _ _ => pg_name (i := 2) sc_contrary.nd rfl (Or.inl rfl)) (fun _ _ _ _ _ => pts_nil) (fun _ _ _ _ _ => (pe_cal C_even_word (hr.mono (by decide)) (by rfl) (pa_cons (pe_op op_pow2 pe_int (pv 2)) (pa_cons (pv 1) pa_nil))))) pa_nil))))))), ?_⟩
  obtain ⟨n, B⟩ := i
  try dsimp only
  refine sv_roomF 0 rfl fun fB => ?_
  have lB := plain_len24 fB
  have n24 := fB.n24
  refine sv_seq (nv_drop (ev_call sd_check_room (av_cons (ev_var rfl) av_nil))) ?_
  refine sv_seq (nv_set (ev_meth n_basis sd_basis (ev_var rfl) av_nil)) ?_
  exact sv_ret (ev_make (ws := conB n B) fB.n1 n24 (conB_lt fB.pl fB.lt) (by unfold conB; rw [List.length_map, List.length_range]; omega) (av_cons (ev_prop sd_places (ev_var rfl)) (av_cons (ev_lcRM (g := fun i => fW B (2 ^ i)) (av_cons (ev_prop sd_places (ev_var rfl)) av_nil) (by omega) fun place hplace => (ev_call (sd_even_word (by omega) fB.pl fun b hb => lt24 n24 (fB.lt b hb)) (av_cons (ev_op (od_pow2 (by omega)) (ev_cn 1) (ev_var rfl)) (av_cons (ev_var rfl) av_nil)))) av_nil)))
abbrev s_is_power_of_2 : Stmt := topS 45
abbrev N_is_power_of_2 : List Str := ["number"]
theorem sc_is_power_of_2 : FnScope N_is_power_of_2 ["number"] (defScope s_is_power_of_2) := ⟨rfl, rfl, rfl, by decide +kernel, rfl, by decide +kernel, by decide +kernel⟩
theorem ok_is_power_of_2 {f : Addr} {fd : FuncData} (F : Fun K "is_power_of_2" "is_power_of_2" s_is_power_of_2 f fd) :
    FnOk P w K mg base CX0 1 f fd ["number"] sp_pow2 := by
  refine fn_sv F sc_is_power_of_2 (fun _ _ => rfl) fun W i hP cdv A outer s H E hr => ⟨_, (pss_one (ps_ret (pe_cmpR op_eqN (pe_op op_andN (pv 0) (pe_op op_subN (pv 0) pe_int)) pe_int (nomark _)))), ?_⟩
  have h : i ≤ 24 := hP
  try dsimp only
  exact sv_ret (ev_t (ev_op od_eqN (ev_op od_andN (ev_var rfl) (ev_op (od_subN (Nat.two_pow_pos i)) (ev_var rfl) (ev_cn 1))) (ev_cn 0)) (d_t (pow2_and i)))
abbrev s_is_row : Stmt := topS 46
abbrev N_is_row : List Str := ["value", "number", "total"]
theorem sc_is_row : FnScope N_is_row ["value"] (defScope s_is_row) := ⟨rfl, rfl, rfl, by decide +kernel, rfl, by decide +kernel, by decide +kernel⟩
theorem ok_is_row {f : Addr} {fd : FuncData} {t_MOST_PLACES : Tok} (F : Fun K "is_row" "is_row" s_is_row f fd)
    (C_is_count : Cal P w K mg base "is_count" 2 ["value"] [] sp_is_count)
    (C_is_list : Cal P w K mg base "is_list" 1 ["value"] [] sp_is_list)
    (C_is_power_of_2 : Cal P w K mg base "is_power_of_2" 1 ["number"] [] sp_pow2)
    (g_MOST_PLACES : mg "MOST_PLACES" = some (.int 24 t_MOST_PLACES))
    (m_all : mg "all" = none)
    (m_len : mg "len" = none)
    (m_sum : mg "sum" = none) :
    FnOk P w K mg base CX0 3 f fd ["value"] sp_is_row := by
  refine fn_sv F sc_is_row (fun _ _ => rfl) fun W i hP cdv A outer s H E hr => ⟨_, (pss_cons (ps_if (PW.pt (pw_or (pt_not (pt_val (pe_cal C_is_list (hr.mono (by decide)) (by rfl) (pa_cons (pv 0) pa_nil)))) (pw_or1 (pt_not (pt_chain op_leN op_leN pe_int (pe_callB call_len_seq (by rfl) m_len (by decide +kernel) (pa_cons (pv 0) pa_nil)) (pe_op op_addN (pe_glob (v := .int 24) rfl g_MOST_PLACES ⟨_, rfl⟩) pe_int)))))) (pss_one (ps_ret pe_bl)) pss_nil)
    (pss_cons (ps_if (PW.pt (pw_or (pt_not (pt_val (pe_callB (cr_all rfl) (by rfl) m_all (by decide +kernel) (pa_cons (pe_lc (own := [("number", 1)]) (g := gName 1) (by rfl) sc_is_row.nd (pi_list (pv 0)) (blkOk_by (own := [("number", 1)]) (N := N_is_row) (sc := defScope s_is_row) (by decide +kernel)) (fun _ _ _ _ _ => pg_name (i := 1) sc_is_row.nd rfl (Or.inl rfl)) (fun _ _ _ _ _ => pts_nil) (fun _ _ _ _ _ => (pe_cal C_is_count (hr.mono (by decide)) (by rfl) (pa_cons (pv 1) pa_nil)))) pa_nil)))) (pw_or1 (pt_cmpR op_neN (pe_ix ix_list (pv 0) pe_int (fun _ _ => rfl)) pe_int (nomark _))))) (pss_one (ps_ret pe_bl)) pss_nil)
    (pss_cons (ps_set (i := 2) sc_is_row.nd rfl (Or.inl rfl) (pe_callB (cr_sum rfl) (by rfl) m_sum (by decide +kernel) (pa_cons (pv 0) pa_nil)))
    (pss_one (ps_ret (pe_and (pe_cal C_is_power_of_2 (hr.mono (by decide)) (by rfl) (pa_cons (pv 2) pa_nil)) (pe_one (pe_cmpR op_leN (pv 2) (pe_op op_pow2 pe_int (pe_op op_subN (pe_callB call_len_seq (by rfl) m_len (by decide +kernel) (pa_cons (pv 0) pa_nil)) pe_int)) (nomark _))))))))), ?_⟩
  have h : RowP i := hP
  obtain ⟨l2, l25, one, k, sm, hk⟩ := h
  have g0 : i.getD 0 0 = 1 := by rw [List.getD_eq_getElem?_getD, one]; rfl
  have pk : 2 ^ k ≤ 2 ^ (i.length - 1) := pw_le (by omega)
  try dsimp only
  refine sv_seq (nv_ifF (tv_orF (tv_nf (tv_B (ev_call sd_is_listL (av_cons (ev_var rfl) av_nil)))) (tv_nf (tv_t (tv_test (ev_chainT (ev_cn 2) (ev_cb cd_lenN (av_cons (ev_var rfl) av_nil)) (od_tt od_leN (d_t l2)) (ev_op od_addN (ev_cn 24) (ev_cn 1)) od_leN)) (d_t l25))))) ?_
  refine sv_seq (nv_ifF (tv_orF (tv_nf (tv_t (tv_B (ev_cb cd_all (av_cons (ev_lcB (g := fun _ => true) (ev_var rfl) (by omega) fun number hnumber => (ev_call sd_is_countN (av_cons (ev_var rfl) av_nil))) av_nil))) (by simp))) (tv_f (tv_test (ev_op od_neN (ev_op (od_ixN (by omega)) (ev_var rfl) (ev_cn 0)) (ev_cn 1))) (nd_t g0)))) ?_
  refine sv_seq (nv_set (d := dN (2 ^ k)) (ev_eqD (ev_cb cd_sum (av_cons (ev_var rfl) av_nil)) (by rw [sm]))) ?_
  exact sv_ret (ev_andT (ev_call (sd_pow2 (by omega)) (av_cons (ev_var rfl) av_nil)) (ev_t (ev_op od_leN (ev_var rfl) (ev_op (od_pow2 (by omega)) (ev_cn 1) (ev_op (od_subN (by omega)) (ev_cb cd_lenN (av_cons (ev_var rfl) av_nil)) (ev_cn 1)))) (d_t pk)))
abbrev s_check_row : Stmt := topS 47
abbrev N_check_row : List Str := ["row"]
theorem sc_check_row : FnScope N_check_row ["row"] (defScope s_check_row) := ⟨rfl, rfl, rfl, by decide +kernel, rfl, by decide +kernel, by decide +kernel⟩
theorem ok_check_row {f : Addr} {fd : FuncData} (F : Fun K "check_row" "check_row" s_check_row f fd)
    (C_is_row : Cal P w K mg base "is_row" 3 ["value"] [] sp_is_row) :
    FnOk P w K mg base CX0 4 f fd ["row"] sp_check_row := by
  refine fn_nv F sc_check_row (fun _ _ => rfl) fun W i hP cdv A outer s H E hr => ⟨_, (pss_one (ps_if (pt_not (pt_val (pe_cal C_is_row (hr.mono (by decide)) (by rfl) (pa_cons (pv 0) pa_nil)))) (pss_one ps_never) pss_nil)), ?_⟩
  have h : RowP i := hP
  try dsimp only
  exact ⟨_, nv_ifF (tv_nf (tv_B (ev_call (sd_is_row h) (av_cons (ev_var rfl) av_nil))))⟩
abbrev s_entries : Stmt := topS 48
abbrev N_entries : List Str := ["places", "second", "numbers", "factor", "sign", "by_x", "by_y"]
theorem sc_entries : FnScope N_entries ["places", "second"] (defScope s_entries) := ⟨rfl, rfl, rfl, by decide +kernel, rfl, by decide +kernel, by decide +kernel⟩
theorem ok_entries {f : Addr} {fd : FuncData} (F : Fun K "entries" "entries" s_entries f fd)
    (m_range : mg "range" = none)
    (m_zip : mg "zip" = none) :
    FnOk P w K mg base CX0 1 f fd ["places", "second"] sp_entries := by
  refine fn_sv F sc_entries (fun _ _ => rfl) fun W i hP cdv A outer s H E hr => ⟨_, (pss_cons (ps_set (i := 2) sc_entries.nd rfl (Or.inl rfl) (pe_lst (pa_cons pe_int pa_nil)))
    (pss_cons (ps_for PassesOwn.never rfl (pi_range1 (by rfl) m_range (pa_cons (pv 0) pa_nil)) (pg_name (i := 3) sc_entries.nd rfl (Or.inl rfl))
      (pss_cons (ps_set (i := 4) sc_entries.nd rfl (Or.inr rfl) (pe_ifExp (pt_cmpR op_ltN (pv 3) (pv 1) (nomark _)) (pe_un un_neg pe_int) pe_int))
    (pss_one (ps_setLc (i := 2) (own := [("by_x", 5), ("by_y", 6)]) (g := gTup K 2 (gCons (gName 5) (gCons (gName 6) gNil))) (by rfl) sc_entries.nd rfl rfl (sw_true rfl rfl rfl (by decide +kernel)) (pi_zip (by rfl) m_zip (pa_cons (pe_op op_cat (pv 2) (pe_lst (pa_cons pe_int pa_nil))) (pa_cons (pe_op op_cat (pe_lst (pa_cons pe_int pa_nil)) (pv 2)) pa_nil))) (blkOk_by (own := [("by_x", 5), ("by_y", 6)]) (N := N_entries) (sc := defScope s_entries) (by decide +kernel)) (fun _ _ _ _ _ => (pg_tup rfl (pgs_cons (pg_name (i := 5) sc_entries.nd rfl (Or.inl rfl)) (pgs_cons (pg_name (i := 6) sc_entries.nd rfl (Or.inl rfl)) pgs_nil)))) (fun _ _ _ _ _ => pts_nil) (fun _ _ _ _ _ => (pe_op op_add (pv 5) (pe_op op_mul (pv 4) (pv 6))))))))
    (pss_one (ps_ret (pv 2))))), ?_⟩
  obtain ⟨n, i⟩ := i
  obtain ⟨n24, h⟩ := hP
  have n24 : n ≤ 24 := n24
  have h : i ≤ n := h
  try dsimp only
  refine sv_seq (nv_set (ev_lstI [1] (av_cons (ev_cn 1) av_nil))) ?_
  refine sv_seq (nv_of_nvc (nvc_forR (cs := []) (n := n) (fun k => (envOf [dN n, dN i] 5).set 2 (some (dIs (polL (sgs (2 ^ i - 1) k))))) (fun _ => []) (av_cons (ev_var rfl) av_nil) (fun σ H h => h) rfl (by omega) (av_cons (ev_var rfl) av_nil) (fun _ _ => rfl) fun k hk => ?_) rfl) ?_
  · refine nvc_end ?_
    refine nv_seq (nv_set (d := dI (if k < i then -1 else 1)) (ev_if (tv_test (ev_op od_ltN (ev_var rfl) (ev_var rfl))) (fun t_ => ?_) fun t_ => ?_)) ?_
    · rw [if_pos (of_decide_eq_true t_)]
      exact ev_neg (ev_cn 1)
    · rw [if_neg (of_decide_eq_false t_)]
      exact ev_cn 1
    have sc := sgn_cases (k < i)
    have st := ent_step (i := i) (k := k)
    have ln := polS_len (v := 2 ^ i - 1) (k := k)
    generalize (if k < i then (-1 : Int) else 1) = e at sc st ⊢
    generalize polL (sgs (2 ^ i - 1) k) = l at st ln ⊢
    refine nv_sub (nv_set (ev_lcZ (g := fun x y => x + e * y) (l := l ++ [0]) (l2 := [0] ++ l) (av_cons (ev_op (od_catI (by simp; omega)) (ev_var rfl) (ev_lstI [0] (av_cons (ev_cn 0) av_nil))) (av_cons (ev_op (od_catI (by simp; omega)) (ev_lstI [0] (av_cons (ev_cn 0) av_nil)) (ev_var rfl)) av_nil)) (by simp) (by simp; omega) (by decide) fun x y hx hy => (ev_op od_addI (ev_var rfl) (ev_op (od_mulI (cmul_l sc)) (ev_var rfl) (ev_var rfl))))) rfl ?_
    exact ⟨congrArg (fun z => some (dIs z)) st, rfl, rfl, trivial⟩
  · refine sv_ret (ev_eqD (ev_var rfl) ?_)
    rw [ent_of n24 h]
abbrev s_changed_sums : Stmt := topS 49
abbrev N_changed_sums : List Str := ["row", "places", "sums", "second", "number", "told", "part"]
theorem sc_changed_sums : FnScope N_changed_sums ["row"] (defScope s_changed_sums) := ⟨rfl, rfl, rfl, by decide +kernel, rfl, by decide +kernel, by decide +kernel⟩
theorem ok_changed_sums {f : Addr} {fd : FuncData} (F : Fun K "changed_sums" "changed_sums" s_changed_sums f fd)
    (C_entries : Cal P w K mg base "entries" 1 ["places", "second"] [] sp_entries)
    (m_enumerate : mg "enumerate" = none)
    (m_len : mg "len" = none)
    (m_zip : mg "zip" = none) :
    FnOk P w K mg base CX0 2 f fd ["row"] sp_changed_sums := by
  refine fn_sv F sc_changed_sums (fun _ _ => rfl) fun W i hP cdv A outer s H E hr => ⟨_, (pss_cons (ps_set (i := 1) sc_changed_sums.nd rfl (Or.inl rfl) (pe_op op_subN (pe_callB call_len_seq (by rfl) m_len (by decide +kernel) (pa_cons (pv 0) pa_nil)) pe_int))
    (pss_cons (ps_set (i := 2) sc_changed_sums.nd rfl (Or.inl rfl) (pe_op op_rep (pe_lst (pa_cons pe_int pa_nil)) (pe_callB call_len_seq (by rfl) m_len (by decide +kernel) (pa_cons (pv 0) pa_nil))))
    (pss_cons (ps_for PassesOwn.never rfl (pi_enum (by rfl) m_enumerate (pa_cons (pv 0) pa_nil)) (pg_tup rfl (pgs_cons (pg_name (i := 3) sc_changed_sums.nd rfl (Or.inl rfl)) (pgs_cons (pg_name (i := 4) sc_changed_sums.nd rfl (Or.inr rfl)) pgs_nil)))
      (pss_one (ps_setLc (i := 2) (own := [("told", 5), ("part", 6)]) (g := gTup K 2 (gCons (gName 5) (gCons (gName 6) gNil))) (by rfl) sc_changed_sums.nd rfl rfl (sw_true rfl rfl rfl (by decide +kernel)) (pi_zip (by rfl) m_zip (pa_cons (pv 2) (pa_cons (pe_cal C_entries (hr.mono (by decide)) (by rfl) (pa_cons (pv 1) (pa_cons (pv 3) pa_nil))) pa_nil))) (blkOk_by (own := [("told", 5), ("part", 6)]) (N := N_changed_sums) (sc := defScope s_changed_sums) (by decide +kernel)) (fun _ _ _ _ _ => (pg_tup rfl (pgs_cons (pg_name (i := 5) sc_changed_sums.nd rfl (Or.inl rfl)) (pgs_cons (pg_name (i := 6) sc_changed_sums.nd rfl (Or.inl rfl)) pgs_nil)))) (fun _ _ _ _ _ => pts_nil) (fun _ _ _ _ _ => (pe_op op_add (pv 5) (pe_op op_mul (pv 4) (pv 6)))))))
    (pss_one (ps_ret (pv 2)))))), ?_⟩
  obtain ⟨r, d⟩ := i
  have h : ChgP (r, d) := hP
  have l2 : 2 ≤ r.length := h.row.l2
  have l25 : r.length ≤ 25 := h.row.l25
  try dsimp only
  refine sv_seq (nv_set (ev_op (od_subN (by omega)) (ev_cb cd_lenN (av_cons (ev_var rfl) av_nil)) (ev_cn 1))) ?_
  refine sv_seq (nv_set (d := dIs (chK r 0)) (ev_eqD (ev_fl (fl_rep (n := r.length) (y := V.int 0) (ev_lstI [0] (av_cons (ev_cn 0) av_nil)) (ev_cb cd_lenN (av_cons (ev_var rfl) av_nil)) (by omega))) (chK_start r))) ?_
  refine sv_seq (nv_enum (l := r) (fun k => ((envOf [dVs r] 6).set 1 (some (dN (r.length - 1)))).set 2 (some (dIs (chK r k)))) (av_cons (ev_var rfl) av_nil) (fun _ _ h => h) fun k x hk => ?_) ?_
  · have kl : k < r.length := (List.getElem?_eq_some_iff.mp hk).1
    have gx : r.getD k 0 = x := by rw [List.getD_eq_getElem?_getD, hk]; rfl
    have st := chK_step (r := r) (k := k)
    rw [gx] at st
    have lc := chK_len r k
    have le := entL_len (r.length - 1) k
    refine nv_sub (nv_set (ev_lcZ (g := fun a b => a + (x : Int) * b) (l := chK r k) (l2 := entL (r.length - 1) k) (av_cons (ev_var rfl) (av_cons (ev_call (sd_entries (by omega) (by omega)) (av_cons (ev_var rfl) (av_cons (ev_var rfl) av_nil))) av_nil)) (by omega) (by omega) (by decide) fun a b ha hb => (ev_op od_addI (ev_var rfl) (ev_op (od_mulI (cmul_mem (n := r.length - 1) (i := k) (by omega) (by omega) hb)) (ev_var rfl) (ev_var rfl))))) rfl ?_
    exact ⟨congrArg (fun z => some (dIs z)) st, rfl, rfl, trivial⟩
  · exact sv_ret (ev_eqD (ev_var rfl) (congrArg dLst (chK_end h)))
abbrev s_changed : Stmt := topS 50
abbrev N_changed : List Str := ["row", "total", "sums", "position", "number"]
theorem sc_changed : FnScope N_changed ["row"] (defScope s_changed) := ⟨rfl, rfl, rfl, by decide +kernel, rfl, by decide +kernel, by decide +kernel⟩
theorem ok_changed {f : Addr} {fd : FuncData} (F : Fun K "changed" "changed" s_changed f fd)
    (C_changed_sums : Cal P w K mg base "changed_sums" 2 ["row"] [] sp_changed_sums)
    (C_check_row : Cal P w K mg base "check_row" 4 ["row"] [] sp_check_row)
    (m_enumerate : mg "enumerate" = none)
    (m_sum : mg "sum" = none) :
    FnOk P w K mg base CX0 5 f fd ["row"] sp_changed := by
  refine fn_svf F sc_changed (fun _ _ => rfl) fun W i hP cdv A outer s H E hr => ⟨_, (pss_cons (ps_expr (pe_cal C_check_row (hr.mono (by decide)) (by rfl) (pa_cons (pv 0) pa_nil)))
    (pss_cons (ps_set (i := 1) sc_changed.nd rfl (Or.inr rfl) (pe_callB (cr_sum rfl) (by rfl) m_sum (by decide +kernel) (pa_cons (pv 0) pa_nil)))
    (pss_cons (ps_set (i := 2) sc_changed.nd rfl (Or.inl rfl) (pe_cal C_changed_sums (hr.mono (by decide)) (by rfl) (pa_cons (pv 0) pa_nil)))
    (pss_cons (ps_for PassesOwn.never rfl (pi_enum (by rfl) m_enumerate (pa_cons (pv 2) pa_nil)) (pg_tup rfl (pgs_cons (pg_name (i := 3) sc_changed.nd rfl (Or.inl rfl)) (pgs_cons (pg_name (i := 4) sc_changed.nd rfl (Or.inl rfl)) pgs_nil)))
      (pss_one (ps_if (PW.pt (pw_or (pt_cmpR op_ltN (pv 4) pe_int (nomark _)) (pw_or1 (pt_cmpR op_neN (pe_op op_modNN (pv 4) (pv 1)) pe_int (nomark _))))) (pss_one ps_never) pss_nil)))
    (pss_one (ps_ret (pe_lc (own := [("number", 4)]) (g := gName 4) (by rfl) sc_changed.nd (pi_list (pv 2)) (blkOk_by (own := [("number", 4)]) (N := N_changed) (sc := defScope s_changed) (by decide +kernel)) (fun _ _ _ _ _ => pg_name (i := 4) sc_changed.nd rfl (Or.inl rfl)) (fun _ _ _ _ _ => pts_nil) (fun _ _ _ _ _ => (pe_op op_fdivNN (pv 4) (pv 1)))))))))), ?_⟩
  obtain ⟨r, d⟩ := i
  have h : ChgP (r, d) := hP
  have l25 : r.length ≤ 25 := h.row.l25
  have ld : d.length = r.length := h.len
  obtain ⟨s0, s1⟩ := h.row.sum0
  try dsimp only
  refine svf_seqN (nv_drop (ev_call (sd_check_row h.row) (av_cons (ev_var rfl) av_nil))) ?_
  refine svf_seqN (nv_set (ev_cb cd_sum (av_cons (ev_var rfl) av_nil))) ?_
  refine svf_seqN (nv_set (ev_call (sd_changed_sums h) (av_cons (ev_var rfl) av_nil))) ?_
  generalize r.sum = T at s0 s1 ⊢
  refine svf_seqN (nv_enum (l := d.map (T * ·)) (fun _ => ((envOf [dVs r] 4).set 1 (some (dN T))).set 2 (some (dVs (d.map (T * ·))))) (av_cons (ev_var rfl) av_nil) (fun _ _ h => h) fun k x hk => ?_) ?_
  · rw [List.getElem?_map] at hk
    obtain ⟨y, _, rfl⟩ := Option.map_eq_some_iff.mp hk
    exact nv_sub (nv_ifF (tv_orF (tv_f (tv_test (ev_op od_ltN (ev_var rfl) (ev_cn 0))) (decide_eq_false (by omega))) (tv_f (tv_test (ev_op od_neN (ev_op (od_modN s0) (ev_var rfl) (ev_var rfl)) (ev_cn 0))) (nd_t (Nat.mul_mod_right T y))))) rfl ⟨rfl, rfl, rfl, trivial⟩
  · refine svf_ret (fl_eq (fl_lcM (g := fun x => x / T) (ev_var rfl) (by rw [List.length_map]; omega) fun number hnumber => (ev_op (od_fdivN (by omega) (by omega)) (ev_var rfl) (ev_var rfl))) ?_)
    rw [List.map_map]
    refine congrArg vs ((List.map_congr_left fun x _ => ?_).trans (List.map_id d))
    exact Nat.mul_div_cancel_left x s0
abbrev s_counted_weights : Stmt := topS 52
abbrev N_counted_weights : List Str := ["places", "words", "numbers", "word"]
theorem sc_counted_weights : FnScope N_counted_weights ["places", "words"] (defScope s_counted_weights) := ⟨rfl, rfl, rfl, by decide +kernel, rfl, by decide +kernel, by decide +kernel⟩
theorem ok_counted_weights {f : Addr} {fd : FuncData} (F : Fun K "counted_weights" "counted_weights" s_counted_weights f fd)
    (C_weight : Cal P w K mg base "weight" 6 ["word"] [] sp_weight) :
    FnOk P w K mg base CX0 7 f fd ["places", "words"] sp_counted_weights := by
  refine fn_svf F sc_counted_weights (fun _ _ => rfl) fun W i hP cdv A outer s H E hr => ⟨_, (pss_cons (ps_set (i := 2) sc_counted_weights.nd rfl (Or.inl rfl) (pe_op op_rep (pe_lst (pa_cons pe_int pa_nil)) (pe_op op_addN (pv 0) pe_int)))
    (pss_cons (ps_for PassesOwn.never rfl (pi_list (pv 1)) (pg_name (i := 3) sc_counted_weights.nd rfl (Or.inl rfl))
      (pss_one (ps_augS (pv 2) (pe_cal C_weight (hr.mono (by decide)) (by rfl) (pa_cons (pv 3) pa_nil)) get_listN pe_int ip_add set_list)))
    (pss_one (ps_ret (pv 2))))), ?_⟩
  obtain ⟨n, L⟩ := i
  obtain ⟨n24, lt⟩ := hP
  have n24 : n ≤ 24 := n24
  have lt : ∀ v ∈ L, v < 2 ^ n := lt
  try dsimp only
  refine svf_cell (fl_rep (n := n + 1) (y := V.int 0) (ev_lstI [0] (av_cons (ev_cn 0) av_nil)) (ev_op od_addN (ev_var rfl) (ev_cn 1)) (by omega)) ?_
  refine svf_seq (nvc_cs (cs2 := [(2, vs (rowP pc n L))]) (nvc_forV (j := 1) (xs := vs L) (fun _ => envOf [dN n, dVs L] 2) (fun k => [(2, vs (rowP pc n (L.take k)))]) rfl rfl (fun σ H h => h.sub rfl ⟨rfl, rfl, trivial⟩) ?_ (fun _ => rfl) fun k x hx => ?_) ?_) svf_retC
  · rw [List.take_zero, rowP_nil, ← vs_rep]
    rfl
  · obtain ⟨w, hw, rfl⟩ := get_vs hx
    have wl : w < 2 ^ n := lt w (List.mem_of_getElem? hw)
    have pw : pc w ≤ n := pc_le_n n24 wl
    have ek : L.take (k + 1) = L.take k ++ [w] := by rw [List.take_add_one, hw]; rfl
    have st := rowP_step (P := pc) (n := n) (w := w) (L := L.take k) pw
    have at_ := rowP_at (P := pc) (n := n) (L := L.take k) pw
    rw [← ek] at st
    generalize ((L.take k).filter fun v => decide (pc v = pc w)).length = c at st at_
    refine nvc_sub' (nvc_cs (nvc_aug (a := (c : Int)) (b := 1) rfl (ev_call (sd_weight (lt24 n24 wl)) (av_cons (ev_var rfl) av_nil)) (vs_getR at_) (ev_cn 1)) ?_) rfl ⟨rfl, rfl, trivial⟩
    show [(2, (vs _).set (pc w) (V.int ((c + 1 : Nat) : Int)))] = [(2, vs _)]
    rw [vs_set, st]
  · show [(2, vs (rowP pc n (L.take (vs L).length)))] = _
    rw [len_vs, List.take_length]
abbrev s_counted : Stmt := topS 53
abbrev N_counted : List Str := ["room"]
theorem sc_counted : FnScope N_counted ["room"] (defScope s_counted) := ⟨rfl, rfl, rfl, by decide +kernel, rfl, by decide +kernel, by decide +kernel⟩
theorem ok_counted {f : Addr} {fd : FuncData} (F : Fun K "counted" "counted" s_counted f fd)
    (C_counted_weights : Cal P w K mg base "counted_weights" 7 ["places", "words"] [] sp_counted_weights)
    (C_sums_of : Cal P w K mg base "sums_of" 1 ["basis"] [] sp_sums_of)
    (M_basis : MthC P w K mg base C "basis" 1 ["self"] (sp_basis C))
    (P_places : PrpC P w K mg base C "places" 1 (sp_places C))
    (n_basis : ∀ n b, (rf n b).lookup ("basis" : Str) = none) :
    FnOk P w K mg base CX0 8 f fd ["room"] (sp_counted C) := by
  refine fn_svf F sc_counted (fun _ _ => rfl) fun W i hP cdv A outer s H E hr => ⟨_, (pss_one (ps_ret (pe_cal C_counted_weights (hr.mono (by decide)) (by rfl) (pa_cons (pe_propC P_places (hr.mono (by decide)) (pv 0) rfl) (pa_cons (pe_cal C_sums_of (hr.mono (by decide)) (by rfl) (pa_cons (pe_meth0C M_basis (hr.mono (by decide)) (pv 0)) pa_nil)) pa_nil))))), ?_⟩
  obtain ⟨n, B⟩ := i
  have lB : B.length ≤ 12 := hP
  try dsimp only
  refine svf_roomF 0 rfl fun fB => ?_
  have n24 := fB.n24
  have lt := words_lt fB.pl fB.lt
  exact svf_ret (fl_counted_weights n24 lt (av_cons (ev_prop sd_places (ev_var rfl)) (av_cons (ev_fl (fl_sums fB.pl.1 lB (av_cons (ev_meth n_basis sd_basis (ev_var rfl) av_nil) av_nil))) av_nil)))
abbrev s_row : Stmt := topS 54
abbrev N_row : List Str := ["room"]
theorem sc_row : FnScope N_row ["room"] (defScope s_row) := ⟨rfl, rfl, rfl, by decide +kernel, rfl, by decide +kernel, by decide +kernel⟩
theorem ok_row {f : Addr} {fd : FuncData} (F : Fun K "row" "row" s_row f fd)
    (C_changed : Cal P w K mg base "changed" 5 ["row"] [] sp_changed)
    (C_check_room : Cal P w K mg base "check_room" 1 ["room"] [] (sp_check_room C))
    (C_contrary : Cal P w K mg base "contrary" 8 ["room"] [] (sp_contrary C))
    (C_counted : Cal P w K mg base "counted" 8 ["room"] [] (sp_counted C))
    (P_dimension : PrpC P w K mg base C "dimension" 1 (sp_dimension C))
    (P_places : PrpC P w K mg base C "places" 1 (sp_places C)) :
    FnOk P w K mg base CX0 9 f fd ["room"] (sp_row C) := by
  refine fn_svf F sc_row (fun _ _ => rfl) fun W i hP cdv A outer s H E hr => ⟨_, (pss_cons (ps_expr (pe_cal C_check_room (hr.mono (by decide)) (by rfl) (pa_cons (pv 0) pa_nil)))
    (pss_cons (ps_if (pt_cmpR op_gtN (pe_op op_mulN pe_int (pe_propC P_dimension (hr.mono (by decide)) (pv 0) rfl)) (pe_propC P_places (hr.mono (by decide)) (pv 0) rfl) (nomark _)) (pss_one (ps_ret (pe_cal C_changed (hr.mono (by decide)) (by rfl) (pa_cons (pe_cal C_counted (hr.mono (by decide)) (by rfl) (pa_cons (pe_cal C_contrary (hr.mono (by decide)) (by rfl) (pa_cons (pv 0) pa_nil)) pa_nil)) pa_nil)))) pss_nil)
    (pss_one (ps_ret (pe_cal C_counted (hr.mono (by decide)) (by rfl) (pa_cons (pv 0) pa_nil)))))), ?_⟩
  obtain ⟨n, B⟩ := i
  try dsimp only
  refine svf_roomF 0 rfl fun fB => ?_
  have n24 := fB.n24
  have dm := con_dim fB.pl n24 fB.lt
  refine svf_seqN (nv_drop (ev_call sd_check_room (av_cons (ev_var rfl) av_nil))) ?_
  refine svf_ifR (tv_test (ev_op od_gtN (ev_op (od_mulN (by omega)) (ev_cn 2) (ev_prop sd_dimension (ev_var rfl))) (ev_prop sd_places (ev_var rfl)))) (fun t_ => ?_) (fun t_ => ?_)
  · have t_ := of_decide_eq_true t_
    exact svf_ret (fl_call (i := (rowB n (bas (conB n B)), rowB n B)) (ys := fun i => vs i.2) (rowB_chg2 fB) (av_cons (ev_call (sd_counted (by omega)) (av_cons (ev_call sd_contrary (av_cons (ev_var rfl) av_nil)) av_nil)) av_nil))
  · have t_ := of_decide_eq_false t_
    exact svf_ret (fl_call (i := (n, B)) (ys := fun i => vs (rowB i.1 i.2)) (show B.length ≤ 12 by omega) (av_cons (ev_var rfl) av_nil))
abbrev s_check_size : Stmt := topS 57
abbrev N_check_size : List Str := ["size"]
theorem sc_check_size : FnScope N_check_size ["size"] (defScope s_check_size) := ⟨rfl, rfl, rfl, by decide +kernel, rfl, by decide +kernel, by decide +kernel⟩
theorem ok_check_size {f : Addr} {fd : FuncData} {t_MOST_SIZE : Tok} (F : Fun K "check_size" "check_size" s_check_size f fd)
    (C_is_count : Cal P w K mg base "is_count" 2 ["value"] [] sp_is_count)
    (g_MOST_SIZE : mg "MOST_SIZE" = some (.int 24 t_MOST_SIZE)) :
    FnOk P w K mg base CX0 3 f fd ["size"] sp_chksize := by
  refine fn_nv F sc_check_size (fun _ _ => rfl) fun W i hP cdv A outer s H E hr => ⟨_, (pss_one (ps_if (PW.pt (pw_or (pt_not (pt_val (pe_cal C_is_count (hr.mono (by decide)) (by rfl) (pa_cons (pv 0) pa_nil)))) (pw_or1 (pt_cmpR op_gtN (pv 0) (pe_glob (v := .int 24) rfl g_MOST_SIZE ⟨_, rfl⟩) (nomark _))))) (pss_one ps_never) pss_nil)), ?_⟩
  have h : i ≤ 24 := hP
  try dsimp only
  exact ⟨_, nv_ifF (tv_orF (tv_nf (tv_t (tv_B (ev_call sd_is_countN (av_cons (ev_var rfl) av_nil))) rfl)) (tv_f (tv_test (ev_op od_gtN (ev_var rfl) (ev_cn 24))) (decide_eq_false (by omega))))⟩
abbrev s_square_ways : Stmt := topS 58
abbrev N_square_ways : List Str := ["first", "most", "ways", "root"]
theorem sc_square_ways : FnScope N_square_ways ["first", "most"] (defScope s_square_ways) := ⟨rfl, rfl, rfl, by decide +kernel, rfl, by decide +kernel, by decide +kernel⟩
theorem ok_square_ways {f : Addr} {fd : FuncData} (F : Fun K "square_ways" "square_ways" s_square_ways f fd)
    (m_range : mg "range" = none) :
    FnOk P w K mg base CX0 1 f fd ["first", "most"] sp_sqways := by
  refine fn_sv F sc_square_ways (fun _ _ => rfl) fun W i hP cdv A outer s H E hr => ⟨_, (pss_cons (ps_set (i := 2) sc_square_ways.nd rfl (Or.inl rfl) (pe_op op_rep (pe_lst (pa_cons pe_int pa_nil)) (pe_op op_addN (pv 1) pe_int)))
    (pss_cons (ps_for PassesOwn.never rfl (pi_range3 (by rfl) m_range (pa_cons (pv 0) (pa_cons (pe_op op_addN (pv 1) pe_int) (pa_cons pe_int pa_nil)))) (pg_name (i := 3) sc_square_ways.nd rfl (Or.inl rfl))
      (pss_one (ps_if (pt_cmpR op_leN (pe_op op_mulN (pv 3) (pv 3)) (pv 1) (nomark _)) (pss_one (ps_asg (pe_ifExp (pt_cmpR op_eqN (pv 3) pe_int (nomark _)) pe_int pe_int) (pg_sub (pv 2) (pe_op op_mul (pv 3) (pv 3)) set_list))) pss_nil)))
    (pss_one (ps_ret (pv 2))))), ?_⟩
  obtain ⟨f, m⟩ := i
  obtain ⟨hf, hm⟩ := hP
  have hf : f < 2 := hf
  have hm : m < 25 := hm
  try dsimp only
  refine sv_cell (fl_rep (n := m + 1) (y := V.int 0) (ev_lstI [0] (av_cons (ev_cn 0) av_nil)) (ev_op od_addN (ev_var rfl) (ev_cn 1)) (by omega)) ?_
  refine svc_seq (nvc_forR3 hm hf (fun _ => envOf [dN f, dN m] 2) (fun k => [(2, (sqS f m k).map V.int)]) (av_cons (ev_var rfl) (av_cons (ev_op od_addN (ev_var rfl) (ev_cn 1)) (av_cons (ev_cn 2) av_nil))) (fun σ H h => h.sub rfl ⟨rfl, rfl, trivial⟩) ?_ (fun _ => rfl) fun k hk => ?_) (svc_ret rfl rfl)
  · show [_] = [(2, (List.replicate (m + 1) 0).map V.int)]
    rw [List.map_replicate]
  · have r26 : f + 2 * k ≤ 30 := by omega
    have rr : (f + 2 * k) * (f + 2 * k) ≤ 30 * 30 := Nat.mul_le_mul r26 r26
    have ln := sqS_len f m k
    have st : sqS f m (k + 1) = if (f + 2 * k) * (f + 2 * k) ≤ m then (sqS f m k).set ((f + 2 * k) * (f + 2 * k)) (if f + 2 * k = 0 then 1 else 2) else sqS f m k := rfl
    rw [st]
    generalize sqS f m k = L at ln
    generalize f + 2 * k = r at r26 rr
    refine nvc_sub' (nvc_if (Es := (envOf [dN f, dN m] 2).set 3 (some (dN r))) (tv_test (ev_op od_leN (ev_op (od_mulN (by omega)) (ev_var rfl) (ev_var rfl)) (ev_var rfl))) (fun t_ => ?_) (fun t_ => ?_)) rfl ⟨rfl, rfl, trivial⟩
    · have t_ : r * r ≤ m := of_decide_eq_true t_
      refine nvc_cs (nvc_sub (xs := L.map V.int) (y := V.int (if r = 0 then 1 else 2)) (k := r * r) rfl (ev_if (tv_test (ev_op od_eqN (ev_var rfl) (ev_cn 0))) (fun h => ev_eqD (ev_cn 1) (congrArg dI (if_pos (of_decide_eq_true h)).symm)) (fun h => ev_eqD (ev_cn 2) (congrArg dI (if_neg (of_decide_eq_false h)).symm))) (ev_eqD (ev_op (od_mulI (.inl (by omega))) (ev_var rfl) (ev_var rfl)) (congrArg dI (Int.natCast_mul r r).symm)) (by rw [len_is, ln]; omega)) ?_
      show [(2, (L.map V.int).set (r * r) _)] = [(2, _)]
      rw [if_pos t_, List.map_set]
    · have t_ : ¬ r * r ≤ m := of_decide_eq_false t_
      rw [if_neg t_]
      exact nvc_next
abbrev s_powers_up_to : Stmt := topS 59
abbrev N_powers_up_to : List Str := ["ways", "many", "most", "powers", "_"]
theorem sc_powers_up_to : FnScope N_powers_up_to ["ways", "many", "most"] (defScope s_powers_up_to) := ⟨rfl, rfl, rfl, by decide +kernel, rfl, by decide +kernel, by decide +kernel⟩
theorem ok_powers_up_to {f : Addr} {fd : FuncData} (F : Fun K "powers_up_to" "powers_up_to" s_powers_up_to f fd)
    (C_multiplied : Cal P w K mg base "multiplied" 1 ["polynomial", "other"] [] (sp_mulZ K))
    (m_range : mg "range" = none) :
    FnOk P w K mg base CX0 2 f fd ["ways", "many", "most"] sp_pows := by
  refine fn_sv F sc_powers_up_to (fun _ _ => rfl) fun W i hP cdv A outer s H E hr => ⟨_, (pss_cons (ps_set (i := 3) sc_powers_up_to.nd rfl (Or.inl rfl) (pe_lst (pa_cons (pe_op op_cat (pe_lst (pa_cons pe_int pa_nil)) (pe_op op_rep (pe_lst (pa_cons pe_int pa_nil)) (pv 2))) pa_nil)))
    (pss_cons (ps_for PassesOwn.never rfl (pi_range1 (by rfl) m_range (pa_cons (pv 1) pa_nil)) (pg_name (i := 4) sc_powers_up_to.nd rfl (Or.inl rfl))
      (pss_one (ps_expr (pe_bm PySem.F.plainAttrs_list PySem.F.slot_list_append PySem.F.type_list_append mt_append (pv 3) (pa_cons (pe_slice sl_list (pe_cal C_multiplied (hr.mono (by decide)) (by rfl) (pa_cons (pe_ix ix_list (pv 3) (pe_un un_neg pe_int) (fun _ _ => rfl)) (pa_cons (pv 0) pa_nil))) po_none (po_some (pe_op op_addN (pv 2) pe_int))) pa_nil)))))
    (pss_one (ps_ret (pv 3))))), ?_⟩
  obtain ⟨ways, many, m⟩ := i
  have ln : ways.length = m + 1 := hP.ln
  have nn : NnB ways 5 := hP.nn
  have h24 : many ≤ 24 := hP.many
  have hm : m < 25 := hP.most
  have sp5 : ∀ k, k ≤ 24 → smZ (pwT ways m k) := fun k hk x hx => by
    have a := (pwT_nn (m := m) nn k).mem x hx
    have b := pow5_le hk
    have c : (5 : Int) ^ 24 < 2 ^ 64 := by decide
    omega
  try dsimp only
  refine sv_newR (ds := [dIs (pwT ways m 0)]) (fr_lst (av_cons (ev_op (od_catI (l := [1]) (l2 := List.replicate m 0) (by rw [List.length_replicate]; show 1 + m ≤ 100000; omega)) (ev_lstI [1] (av_cons (ev_cn 1) av_nil)) (ev_repI (ev_lstI [0] (av_cons (ev_cn 0) av_nil)) (ev_var rfl) (by omega))) av_nil) (by show (1 : Nat) ≤ 100000; decide)) rf_isD ?_
  refine svr_seq (nvr_forR (ι := Unit) (N := many) (fun _ _ => envOf [dIs ways, dN many, dN m] 2) (fun k _ => ((List.range (k + 1)).map (pwT ways m)).map fun t => dIs t) (fun _ _ => True) () (av_cons (ev_var rfl) av_nil) (by omega) trivial rfl (fun σ H h => h.sub rfl ⟨rfl, rfl, rfl, trivial⟩) fun k hk x _ => ?_) fun x _ => ?_
  · have sn : ((List.range (k + 1)).map (pwT ways m)).map (fun t => (dIs t : Dn W)) = ((List.range k).map (pwT ways m)).map (fun t => dIs t) ++ [dIs (pwT ways m k)] := by
      rw [List.range_succ, List.map_append, List.map_append]
      rfl
    have l1 := pwT_len ln k
    refine nvr_imp (nvr_append (d := dIs (pwT ways m (k + 1))) (ev_slTI (l := mulZ (pwT ways m k) ways) (ev_call (sd_mulZ ⟨by show 1 ≤ (pwT ways m k).length; omega, by show (pwT ways m k).length ≤ 200; omega, by show 1 ≤ ways.length; omega, by show ways.length ≤ 200; omega, sp5 k (by omega)⟩) (av_cons (ev_op od_ixLastD (ev_eqD (ev_var rfl) (congrArg dLD sn)) (ev_neg (ev_cn 1))) (av_cons (ev_Q (ev_var rfl) qs_L) av_nil))) (ev_op od_addN (ev_var rfl) (ev_cn 1))) (sep_is _) (by rw [List.length_map, List.length_map, List.length_range]; omega)) (fun _ => ()) fun _ _ => ⟨trivial, ?_, fun σ H h => h.sub rfl ⟨rfl, rfl, rfl, trivial⟩⟩
    rw [List.range_succ (n := k + 1), List.map_append, List.map_append]
    rfl
  · exact svr_end (sv_ret (ev_eqD (ev_var rfl) (congrArg dLD (tD_map _).symm)))
end
end K86
set_option Elab.async false
set_option linter.all false
set_option maxRecDepth 100000
set_option maxHeartbeats 1000000
set_option pp.maxSteps 300
namespace K86
open PySem PySem.Spec PyProof.Rows L2 Vf
section
variable {P : Program} {w : World} {K : PySem.W.Frag} {mg : Str → Option Value} {base : Heap} {C : Addr}
abbrev s_law_pot : Stmt := topS 65
abbrev N_law_pot : List Str := ["_law_script", "_law_k", "_law_cell"]
theorem sc_law_pot : FnScope N_law_pot ["_law_script", "_law_k"] (defScope s_law_pot) := ⟨rfl, rfl, rfl, by decide +kernel, rfl, by decide +kernel, by decide +kernel⟩
theorem ok_law_pot {f : Addr} {fd : FuncData} (F : Fun K "_law_pot" "_law_pot" s_law_pot f fd) (m_len : mg "len" = none) (m_abs : mg "abs" = none) (m_max : mg "max" = none) (m_int : mg "int" = none) :
    FnOk P w K mg base CX0 1 f fd ["_law_script", "_law_k"] (sp_pot K) := by
  refine F.ok sc_law_pot (fun vs H Q E h => ?_) (fun cdv A outer s H vs Q E hr h => ?_)
  · obtain ⟨a, ns, k, rfl, _⟩ := h
    rfl
  · obtain ⟨a, ns, k, rfl, hS, hk, q⟩ := h
    refine ⟨_, (pss_cons (ps_set (i := 2) sc_law_pot.nd rfl (Or.inl rfl) (pe_ifExp (pt_cmpR op_ltN (pv 1) (pe_callB call_len_seq (by rfl) m_len (by decide +kernel) (pa_cons (pv 0) pa_nil)) (nomark _)) (pe_callB call_abs (by rfl) m_abs (by decide +kernel) (pa_cons (pe_ix ix_list (pv 0) (pv 1) (fun _ _ => rfl)) pa_nil)) (pe_op op_addN (pe_op op_mulN pe_int (pv 1)) pe_int)))
    (pss_one (ps_ret (pe_lst (pa_cons (pe_callB (call_max2 rfl) (by rfl) m_max (by decide +kernel) (pa_cons pe_int (pa_cons (pe_op op_sub (pv 2) (pe_op op_pow pe_int pe_int)) pa_nil))) (pa_cons (pe_op op_addN (pe_op op_modNN (pe_callTy call_intN (by rfl) m_int (by decide +kernel) (pa_cons (pe_op op_addN (pe_op op_addN (pe_op op_mulN (pe_op op_modNN (pe_callTy call_intN (by rfl) m_int (by decide +kernel) (pa_cons (pv 2) pa_nil)) pe_int) pe_int) (pe_op op_mulN pe_int (pv 1))) pe_int) pa_nil)) pe_int) pe_int) pa_nil)))))), ?_⟩
    refine ⟨.int k, rfl, .ref a, rfl, a, _, rfl, .inl hS, k, ns.length, rfl, ?_, _, rfl, ite2 (fun hb => ?_) (fun hb => ?_)⟩
    · rw [List.length_map]
    · have hl : k < ns.length := of_decide_eq_true hb
      refine ⟨.ref a, rfl, .int k, rfl, a, _, k, .int (ns[k]), rfl, rfl, hS, atI_nat (j := k) (by rw [List.getElem?_map, List.getElem?_eq_getElem hl]; rfl), ns[k], rfl, ?_⟩
      have e : V.int (if ns[k] < 0 then -ns[k] else ns[k]) = V.int ((ns[k].natAbs : Nat) : Int) := by
        congr 1
        split <;> omega
      rw [e]
      refine ⟨.int ((((ns[k].natAbs) : Nat)) : Int), rfl, 10, 18, rfl, rfl, ⟨by decide, by decide, by decide⟩, ((((ns[k].natAbs) : Nat)) : Int), _, rfl, rfl, 0, _, rfl, ?_⟩
      refine ⟨.int ((((ns[k].natAbs) : Nat)) : Int), rfl, (ns[k].natAbs), rfl, (ns[k].natAbs), 2147483489, rfl, rfl, by decide, (ns[k].natAbs) % 2147483489, 40829, rfl, rfl, ?_, .int k, rfl, 6569, k, rfl, rfl, by decide, _, _, rfl, rfl, _, 373, rfl, rfl, _, rfl, _, 2147483549, rfl, rfl, by decide, _, 1, rfl, rfl, (by show 2 ≤ sizeLine; decide), fun p hp => q _ p (same_new hp) hp (pot_new ?_)⟩
      · have := Nat.mod_lt (ns[k].natAbs) (show 0 < 2147483489 by decide)
        omega
      · have := Nat.mod_lt ((ns[k].natAbs) % 2147483489 * 40829 + 6569 * k + 373) (show 0 < 2147483549 by decide)
        omega
    · refine ⟨.int k, rfl, 569, k, rfl, rfl, by decide, 569 * k, 419, rfl, rfl, ?_⟩
      refine ⟨.int ((((569 * k + 419) : Nat)) : Int), rfl, 10, 18, rfl, rfl, ⟨by decide, by decide, by decide⟩, ((((569 * k + 419) : Nat)) : Int), _, rfl, rfl, 0, _, rfl, ?_⟩
      refine ⟨.int ((((569 * k + 419) : Nat)) : Int), rfl, (569 * k + 419), rfl, (569 * k + 419), 2147483489, rfl, rfl, by decide, (569 * k + 419) % 2147483489, 40829, rfl, rfl, ?_, .int k, rfl, 6569, k, rfl, rfl, by decide, _, _, rfl, rfl, _, 373, rfl, rfl, _, rfl, _, 2147483549, rfl, rfl, by decide, _, 1, rfl, rfl, (by show 2 ≤ sizeLine; decide), fun p hp => q _ p (same_new hp) hp (pot_new ?_)⟩
      · have := Nat.mod_lt (569 * k + 419) (show 0 < 2147483489 by decide)
        omega
      · have := Nat.mod_lt ((569 * k + 419) % 2147483489 * 40829 + 6569 * k + 373) (show 0 < 2147483549 by decide)
        omega
abbrev s_law_draw : Stmt := topS 66
abbrev N_law_draw : List Str := ["_law_pot_here", "_law_size", "_law_digit"]
theorem sc_law_draw : FnScope N_law_draw ["_law_pot_here", "_law_size"] (defScope s_law_draw) := ⟨rfl, rfl, rfl, by decide +kernel, rfl, by decide +kernel, by decide +kernel⟩
theorem ok_law_draw {f : Addr} {fd : FuncData} (F : Fun K "_law_draw" "_law_draw" s_law_draw f fd) (m_divmod : mg "divmod" = none) (m_int : mg "int" = none) :
    FnOk P w K mg base CX0 1 f fd ["_law_pot_here", "_law_size"] sp_draw := by
  refine F.ok sc_law_draw (fun vs H Q E h => ?_) (fun cdv A outer s H vs Q E hr h => ?_)
  · obtain ⟨a, n, rfl, _⟩ := h
    rfl
  · obtain ⟨p, n, rfl, hP, h1, h2, q⟩ := h
    obtain ⟨x, y, eP, ly⟩ := hP
    have hL : SqL K H p [.int (x : Int), .int (y : Int)] := .inl (.inl eP)
    refine ⟨_, (pss_cons (ps_if (pt_cmpR op_gtN (pe_ix ix_list (pv 0) pe_int (fun _ _ => rfl)) pe_int (nomark _)) (pss_cons (ps_asg (pe_callB call_divmodN (by rfl) m_divmod (by decide +kernel) (pa_cons (pe_ix ix_list (pv 0) pe_int (fun _ _ => rfl)) (pa_cons (pv 1) pa_nil))) (pg_tup rfl (pgs_cons (pg_sub (pv 0) pe_int set_list) (pgs_cons (pg_name (i := 2) sc_law_draw.nd rfl (Or.inl rfl)) pgs_nil))))
    (pss_one (ps_ret (pv 2)))) pss_nil)
    (pss_cons (ps_asg (pe_op op_modNN (pe_callTy call_intN (by rfl) m_int (by decide +kernel) (pa_cons (pe_op op_addN (pe_op op_mulN (pe_ix ix_list (pv 0) pe_int (fun _ _ => rfl)) pe_int) pe_int) pa_nil)) pe_int) (pg_sub (pv 0) pe_int set_list))
    (pss_one (ps_ret (pe_op op_modNN (pe_callTy call_intN (by rfl) m_int (by decide +kernel) (pa_cons (pe_op op_fdivNN (pe_op op_modNN (pe_callTy call_intN (by rfl) m_int (by decide +kernel) (pa_cons (pe_op op_mulN (pe_ix ix_list (pv 0) pe_int (fun _ _ => rfl)) (pe_ix ix_list (pv 0) pe_int (fun _ _ => rfl))) pa_nil)) pe_int) pe_int) pa_nil)) (pv 1)))))), ?_⟩
    refine ⟨.ref p, rfl, p, _, 0, .int x, rfl, rfl, hL, atI_nat (j := 0) rfl, x, 0, rfl, rfl, _, rfl, ite2 (fun hb => ?_) (fun hb => ?_)⟩
    · refine ⟨.ref p, rfl, p, _, 0, .int x, rfl, rfl, hL, atI_nat (j := 0) rfl, .int n, rfl, x, n, rfl, h1, h2, fun t ht => ?_⟩
      have np : p ≠ t := ne_of_none eP ht
      refine ⟨t, _, rfl, .inl (.inl upd_same), rfl, _, _, rfl, .ref p, rfl, p, [.int x, .int y], 0, 0, rfl, rfl, ?_, rfl, _, _, rfl, rfl, ?_⟩
      · rw [upd_ne np]
        exact eP
      · refine ⟨.int ((x % n : Nat) : Int), rfl, q _ (x % n) (fun b o nb e => ?_) ⟨x / n, y, upd_same, ly⟩ (Nat.mod_lt _ h1)⟩
        rw [upd_ne nb, upd_ne (ne_of_none e ht)]
        exact e
    · have l1 := Nat.mod_lt (y * 40087 + 30671) (show 0 < 2147483549 by decide)
      refine ⟨.ref p, rfl, p, _, 1, .int y, rfl, rfl, hL, atI_nat (j := 1) rfl, y, 40087, rfl, rfl, by omega, _, 30671, rfl, rfl, _, rfl, _, 2147483549, rfl, rfl, by decide,
        .ref p, rfl, p, [.int x, .int y], 1, 1, rfl, rfl, eP, rfl, ?_⟩
      have e2 : (upd H p (.lst ([V.int x, V.int y].set 1 (V.int (((y * 40087 + 30671) % 2147483549 : Nat) : Int))))) p = some (.lst [.int (x : Int), .int (((y * 40087 + 30671) % 2147483549 : Nat) : Int)]) := upd_same
      have hL2 := SqL.of (K := K) e2
      refine ⟨.ref p, rfl, p, _, 1, _, rfl, rfl, hL2, atI_nat (j := 1) rfl, .ref p, rfl, p, _, 1, _, rfl, rfl, hL2, atI_nat (j := 1) rfl, _, _, rfl, rfl, by omega, _, rfl, _, 2147483489, rfl, rfl, by decide,
        _, 23, rfl, rfl, ⟨by decide, by decide⟩, _, rfl, .int n, rfl, _, n, rfl, rfl, h1, ?_⟩
      exact q _ _ (fun b o nb e => by rw [upd_ne nb]; exact e) ⟨x, _, e2, by omega⟩ (Nat.mod_lt _ h1)
abbrev s_law_span : Stmt := topS 69
abbrev N_law_span : List Str := ["_law_words", "_law_found", "_law_word", "_law_one"]
theorem sc_law_span : FnScope N_law_span ["_law_words"] (defScope s_law_span) := ⟨rfl, rfl, rfl, by decide +kernel, rfl, by decide +kernel, by decide +kernel⟩
theorem ok_law_span {f : Addr} {fd : FuncData} (F : Fun K "_law_span" "_law_span" s_law_span f fd)
    (m_sorted : mg "sorted" = none) :
    FnOk P w K mg base CX0 1 f fd ["_law_words"] sp_lspan87 := by
  refine fn_sv F sc_law_span (fun _ _ => rfl) fun W i hP cdv A outer s H E hr => ⟨_, (pss_cons (ps_set (i := 1) sc_law_span.nd rfl (Or.inl rfl) (pe_lst (pa_cons pe_int pa_nil)))
    (pss_cons (ps_for PassesOwn.never rfl (pi_list (pv 0)) (pg_name (i := 2) sc_law_span.nd rfl (Or.inr rfl))
      (pss_one (ps_if (pt_cmpR op_notIn_seq (pv 2) (pv 1) (by with_unfolding_all rfl)) (pss_one (ps_set (i := 1) sc_law_span.nd rfl (Or.inl rfl) (pe_op op_cat (pv 1) (pe_lc (own := [("_law_one", 3)]) (g := gName 3) (by rfl) sc_law_span.nd (pi_list (pv 1)) (blkOk_by (own := [("_law_one", 3)]) (N := N_law_span) (sc := defScope s_law_span) (by decide +kernel)) (fun _ _ _ _ _ => pg_name (i := 3) sc_law_span.nd rfl (Or.inl rfl)) (fun _ _ _ _ _ => pts_nil) (fun _ _ _ _ _ => (pe_op op_xorN (pv 3) (pv 2))))))) pss_nil)))
    (pss_one (ps_ret (pe_callB cr_sortedI (by rfl) m_sorted (by decide +kernel) (pa_cons (pv 1) pa_nil)))))), ?_⟩
  generalize hws : i = ws at hP ⊢
  have w6 : ws.length ≤ 6 := hP
  try dsimp only
  refine sv_seq (nv_set (ev_lstN [0] (av_cons (ev_cn 0) av_nil))) ?_
  refine sv_seq (nv_of_nvc (nvc_forV (cs := []) (j := 0) (xs := vs ws) (fun k => (envOf [dVs ws] 3).set 1 (some (dEx (fun L => SpanN (ws.take k) L) dVs))) (fun _ => []) rfl rfl (fun σ H h => env_close 1 (x := [0]) h rfl SpanN.nil rfl ⟨rfl, rfl, trivial⟩) rfl (fun _ => rfl) fun k x hx => ?_) rfl) ?_
  · obtain ⟨w, hw, rfl⟩ := get_vs hx
    have ek : ws.take (k + 1) = ws.take k ++ [w] := by rw [List.take_add_one, hw]; rfl
    refine nvc_end (nv_open 1 rfl fun L hL => ?_)
    have lL := hL.len8 (by rw [List.length_take]; omega)
    have hx2 : w ∈ L → SpanN (ws.take (k + 1)) L := fun h => by rw [ek]; exact hL.old h
    have ex : (fun o => w ^^^ o) = fun o => o ^^^ w := funext fun o => Nat.xor_comm w o
    have hn2 : ¬ w ∈ L → SpanN (ws.take (k + 1)) (L ++ L.map fun o => o ^^^ w) := fun h => by rw [ek, ← ex]; exact hL.new h
    refine nv_if (tv_test (ev_op od_ninL (ev_var rfl) (ev_var rfl))) (fun t_ => ?_) (fun t_ => ?_)
    · have t_ : ¬ w ∈ L := by simpa using t_
      exact nv_close 1 (x := L ++ L.map fun o => o ^^^ w) (nv_set (ev_op (od_cat (by rw [List.length_map]; omega)) (ev_var rfl) (ev_lcM (g := fun o => o ^^^ w) (ev_var rfl) (by omega) fun one hone => (ev_op od_xorN (ev_var rfl) (ev_var rfl))))) rfl (hn2 t_) rfl ⟨rfl, rfl, trivial⟩
    · have t_ : w ∈ L := by simpa using t_
      exact nv_close 1 (x := L) nv_next rfl (hx2 t_) rfl ⟨rfl, rfl, trivial⟩
  · refine sv_open 1 rfl fun L hL => ?_
    rw [len_vs, List.take_length] at hL
    exact sv_ret (ev_wk (ev_cb cd_sorted (av_cons (ev_var rfl) av_nil)) fun v H o => ⟨sortN L, spanN_sort hL, o⟩)
end
end K86
set_option Elab.async false
set_option linter.all false
set_option maxRecDepth 100000
set_option maxHeartbeats 1000000
set_option pp.maxSteps 300
namespace K86
open PySem PySem.Spec PyProof.Rows L2 Vf
section
variable {P : Program} {w : World} {K : PySem.W.Frag} {mg : Str → Option Value} {base : Heap} {C : Addr}
abbrev s_counted_by : Stmt := topS 60
abbrev N_counted_by : List Str := ["numbers", "most", "places", "odd", "even", "terms", "at"]
theorem sc_counted_by : FnScope N_counted_by ["numbers", "most"] (defScope s_counted_by) := ⟨rfl, rfl, rfl, by decide +kernel, rfl, by decide +kernel, by decide +kernel⟩
theorem ok_counted_by {f : Addr} {fd : FuncData} (F : Fun K "counted_by" "counted_by" s_counted_by f fd)
    (C_added_up : Cal P w K mg base "added_up" 1 ["terms", "factors"] [] sp_addZ)
    (C_multiplied : Cal P w K mg base "multiplied" 1 ["polynomial", "other"] [] (sp_mulZ K))
    (C_powers_up_to : Cal P w K mg base "powers_up_to" 2 ["ways", "many", "most"] [] sp_pows)
    (C_square_ways : Cal P w K mg base "square_ways" 1 ["first", "most"] [] sp_sqways)
    (m_len : mg "len" = none)
    (m_range : mg "range" = none) :
    FnOk P w K mg base CX0 3 f fd ["numbers", "most"] sp_ctdF := by
  refine fn_svf F sc_counted_by (fun _ _ => rfl) fun W i hP cdv A outer s H E hr => ⟨_, (pss_cons (ps_set (i := 2) sc_counted_by.nd rfl (Or.inr rfl) (pe_op op_subN (pe_callB call_len_seq (by rfl) m_len (by decide +kernel) (pa_cons (pv 0) pa_nil)) pe_int))
    (pss_cons (ps_set (i := 3) sc_counted_by.nd rfl (Or.inr rfl) (pe_cal C_powers_up_to (hr.mono (by decide)) (by rfl) (pa_cons (pe_cal C_square_ways (hr.mono (by decide)) (by rfl) (pa_cons pe_int (pa_cons (pv 1) pa_nil))) (pa_cons (pv 2) (pa_cons (pv 1) pa_nil)))))
    (pss_cons (ps_set (i := 4) sc_counted_by.nd rfl (Or.inr rfl) (pe_cal C_powers_up_to (hr.mono (by decide)) (by rfl) (pa_cons (pe_cal C_square_ways (hr.mono (by decide)) (by rfl) (pa_cons pe_int (pa_cons (pv 1) pa_nil))) (pa_cons (pv 2) (pa_cons (pv 1) pa_nil)))))
    (pss_cons (ps_setLc (i := 5) (own := [("at", 6)]) (g := gName 6) (by rfl) sc_counted_by.nd rfl rfl (sw_true rfl rfl rfl (by decide +kernel)) (pi_range1 (by rfl) m_range (pa_cons (pe_op op_addN (pv 2) pe_int) pa_nil)) (blkOk_by (own := [("at", 6)]) (N := N_counted_by) (sc := defScope s_counted_by) (by decide +kernel)) (fun _ _ _ _ _ => pg_name (i := 6) sc_counted_by.nd rfl (Or.inl rfl)) (fun _ _ _ _ _ => pts_nil) (fun _ _ _ _ _ => (pe_slice (sl_listS K) (pe_cal C_multiplied (hr.mono (by decide)) (by rfl) (pa_cons (pe_ix (ix_listS K) (pv 3) (pv 6) (fun _ _ => rfl)) (pa_cons (pe_ix (ix_listS K) (pv 4) (pe_op op_subN (pv 2) (pv 6)) (fun _ _ => rfl)) pa_nil))) po_none (po_some (pe_op op_addN (pv 1) pe_int)))))
    (pss_one (ps_ret (pe_cal C_added_up (hr.mono (by decide)) (by rfl) (pa_cons (pv 5) (pa_cons (pv 0) pa_nil))))))))), ?_⟩
  obtain ⟨L, m⟩ := i
  have l2 : 2 ≤ L.length := hP.l2
  have l25 : L.length ≤ 25 := hP.l25
  have hm : m < 25 := hP.most
  try dsimp only
  have hn : L.length = L.length - 1 + 1 := by omega
  generalize L.length - 1 = n at hn
  have w1 := sqW_nn hm (f := 1) (by decide)
  have w0 := sqW_nn hm (f := 0) (by decide)
  refine svf_seqN (nv_set (d := dN n) (ev_eqD (ev_op (od_subN (by omega)) (ev_cb cd_lenI (av_cons (ev_var rfl) av_nil)) (ev_cn 1)) (congrArg dN (by omega)))) ?_
  refine svf_seqN (nv_set (ev_call (sd_pows (many := n) (m := m) ⟨sqW_len 1 m, w1, by show n ≤ 24; omega, hm⟩) (av_cons (ev_call (sd_sqways (by decide) hm) (av_cons (ev_cn 1) (av_cons (ev_var rfl) av_nil))) (av_cons (ev_var rfl) (av_cons (ev_var rfl) av_nil))))) ?_
  refine svf_seqN (nv_set (ev_call (sd_pows (many := n) (m := m) ⟨sqW_len 0 m, w0, by show n ≤ 24; omega, hm⟩) (av_cons (ev_call (sd_sqways (by decide) hm) (av_cons (ev_cn 0) (av_cons (ev_var rfl) av_nil))) (av_cons (ev_var rfl) (av_cons (ev_var rfl) av_nil))))) ?_
  refine svf_seqN (nv_set (d := dLD (tD (trms n m) W)) (ev_eqD (ev_lcRU (N := 7) (n := n + 1) [(4, uLD (((List.range (n + 1)).map (pwT (sqW 0 m) m)).map uIs)), (3, uLD (((List.range (n + 1)).map (pwT (sqW 1 m) m)).map uIs)), (2, uN n), (1, uN m), (0, uIs L)] (fun a => uIs (trm n m a)) (av_cons (ev_op od_addN (ev_var rfl) (ev_cn 1)) av_nil) (fun σ H h => h.sub rfl ⟨rfl, rfl, rfl, rfl, rfl, trivial⟩) (by omega) fun W' a ha => ?_) (by unfold tD trms; rw [List.map_map]; rfl))) ?_
  · have gt : ∀ f k, k < n + 1 → (uDs (((List.range (n + 1)).map (pwT (sqW f m) m)).map uIs) W')[k]? = some (dIs (pwT (sqW f m) m k)) := fun f k hk => by
      unfold uDs
      rw [List.getElem?_map, List.getElem?_map, List.getElem?_map, List.getElem?_range hk]
      rfl
    have l1 := pwT_len (sqW_len 1 m) a
    have l0 := pwT_len (sqW_len 0 m) (n - a)
    exact ev_slTI (l := mulZ (pwT (sqW 1 m) m a) (pwT (sqW 0 m) m (n - a))) (ev_call (sd_mulZ ⟨by show 1 ≤ (pwT (sqW 1 m) m a).length; omega, by show (pwT (sqW 1 m) m a).length ≤ 200; omega, by show 1 ≤ (pwT (sqW 0 m) m (n - a)).length; omega, by show (pwT (sqW 0 m) m (n - a)).length ≤ 200; omega, pwT_sm hm (by decide) (by omega)⟩) (av_cons (ev_op (od_ixLD (gt 1 a ha)) (ev_var rfl) (ev_var rfl)) (av_cons (ev_Q (ev_op (od_ixLD (gt 0 (n - a) (by omega))) (ev_var rfl) (ev_op (od_subN (by omega)) (ev_var rfl) (ev_var rfl))) qs_L) av_nil))) (ev_op od_addN (ev_var rfl) (ev_cn 1))
  · have tl : (trms n m).length = n + 1 := by unfold trms; rw [List.length_map, List.length_range]
    exact svf_ret (fl_addZ ⟨by show 1 ≤ (trms n m).length; omega, by show (trms n m).length ≤ 100; omega, by show (trms n m).length = L.length; omega, fun t ht => by rw [trms_head]; exact trms_len t ht, by show ((trms n m).headD []).length ≤ 200; rw [trms_head]; omega, fun t ht => by
      obtain ⟨a, ha, rfl⟩ := List.mem_map.mp ht
      exact trm_sm hm (by have := List.mem_range.mp ha; omega) (by omega)⟩ (av_cons (ev_var rfl) (av_cons (ev_var rfl) av_nil)))
abbrev s_vector_row : Stmt := topS 61
abbrev N_vector_row : List Str := ["room", "most"]
theorem sc_vector_row : FnScope N_vector_row ["room", "most"] (defScope s_vector_row) := ⟨rfl, rfl, rfl, by decide +kernel, rfl, by decide +kernel, by decide +kernel⟩
theorem ok_vector_row {f : Addr} {fd : FuncData} (F : Fun K "vector_row" "vector_row" s_vector_row f fd)
    (C_check_room : Cal P w K mg base "check_room" 1 ["room"] [] (sp_check_room C))
    (C_check_size : Cal P w K mg base "check_size" 3 ["size"] [] sp_chksize)
    (C_counted_by : Cal P w K mg base "counted_by" 3 ["numbers", "most"] [] sp_ctdF)
    (C_row : Cal P w K mg base "row" 9 ["room"] [] (sp_row C)) :
    FnOk P w K mg base CX0 10 f fd ["room", "most"] (sp_vrowF C) := by
  refine fn_svf F sc_vector_row (fun _ _ => rfl) fun W i hP cdv A outer s H E hr => ⟨_, (pss_cons (ps_expr (pe_cal C_check_room (hr.mono (by decide)) (by rfl) (pa_cons (pv 0) pa_nil)))
    (pss_cons (ps_expr (pe_cal C_check_size (hr.mono (by decide)) (by rfl) (pa_cons (pv 1) pa_nil)))
    (pss_one (ps_ret (pe_cal C_counted_by (hr.mono (by decide)) (by rfl) (pa_cons (pe_cal C_row (hr.mono (by decide)) (by rfl) (pa_cons (pv 0) pa_nil)) (pa_cons (pv 1) pa_nil))))))), ?_⟩
  obtain ⟨n, R, m⟩ := i
  have n1 : 1 ≤ n := hP.n1
  have n24 : n ≤ 24 := hP.n24
  have hm : m ≤ 24 := hP.most
  have lr : (iz (rowB n R)).length = n + 1 := by rw [iz_len]; exact rowP_len ..
  have row : ∀ {Es : EnvT W} {t : TA}, AV Es t [dRoom C n R] → EV Es (tCall (sp_row C) [] E0 t) (dIs (iz (rowB n R))) := fun h => ev_eqD (ev_call sd_row h) (dVs_iz _)
  have cp : CtdP (iz (rowB n R), m) := ⟨by show 2 ≤ (iz (rowB n R)).length; omega, by show (iz (rowB n R)).length ≤ 25; omega, by show m < 25; omega⟩
  have ec : (dIs (ctd ((iz (rowB n R)).length - 1) m (iz (rowB n R))) : Dn W) = dIs (ctd n m (iz (rowB n R))) := by rw [lr]; rfl
  try dsimp only
  refine svf_seqN (nv_drop (ev_call sd_check_room (av_cons (ev_var rfl) av_nil))) ?_
  refine svf_seqN (nv_drop (ev_call (sd_chksize hm) (av_cons (ev_var rfl) av_nil))) ?_
  exact svf_eq (svf_ret (fl_ctdF cp (av_cons (row (av_cons (ev_var rfl) av_nil)) (av_cons (ev_var rfl) av_nil)))) (by rw [lr]; rfl)
abbrev s_vectors : Stmt := topS 62
abbrev N_vectors : List Str := ["room", "size"]
theorem sc_vectors : FnScope N_vectors ["room", "size"] (defScope s_vectors) := ⟨rfl, rfl, rfl, by decide +kernel, rfl, by decide +kernel, by decide +kernel⟩
theorem ok_vectors {f : Addr} {fd : FuncData} (F : Fun K "vectors" "vectors" s_vectors f fd)
    (C_check_room : Cal P w K mg base "check_room" 1 ["room"] [] (sp_check_room C))
    (C_check_size : Cal P w K mg base "check_size" 3 ["size"] [] sp_chksize)
    (C_counted_by : Cal P w K mg base "counted_by" 3 ["numbers", "most"] [] sp_ctdF)
    (C_row : Cal P w K mg base "row" 9 ["room"] [] (sp_row C)) :
    FnOk P w K mg base CX0 10 f fd ["room", "size"] (sp_vecs C) := by
  refine fn_sv F sc_vectors (fun _ _ => rfl) fun W i hP cdv A outer s H E hr => ⟨_, (pss_cons (ps_expr (pe_cal C_check_room (hr.mono (by decide)) (by rfl) (pa_cons (pv 0) pa_nil)))
    (pss_cons (ps_expr (pe_cal C_check_size (hr.mono (by decide)) (by rfl) (pa_cons (pv 1) pa_nil)))
    (pss_one (ps_ret (pe_ix ix_list (pe_cal C_counted_by (hr.mono (by decide)) (by rfl) (pa_cons (pe_cal C_row (hr.mono (by decide)) (by rfl) (pa_cons (pv 0) pa_nil)) (pa_cons (pv 1) pa_nil))) (pv 1) (fun _ _ => rfl)))))), ?_⟩
  obtain ⟨n, R, m⟩ := i
  have n1 : 1 ≤ n := hP.n1
  have n24 : n ≤ 24 := hP.n24
  have hm : m ≤ 24 := hP.most
  have lr : (iz (rowB n R)).length = n + 1 := by rw [iz_len]; exact rowP_len ..
  have row : ∀ {Es : EnvT W} {t : TA}, AV Es t [dRoom C n R] → EV Es (tCall (sp_row C) [] E0 t) (dIs (iz (rowB n R))) := fun h => ev_eqD (ev_call sd_row h) (dVs_iz _)
  have cp : CtdP (iz (rowB n R), m) := ⟨by show 2 ≤ (iz (rowB n R)).length; omega, by show (iz (rowB n R)).length ≤ 25; omega, by show m < 25; omega⟩
  have ec : (dIs (ctd ((iz (rowB n R)).length - 1) m (iz (rowB n R))) : Dn W) = dIs (ctd n m (iz (rowB n R))) := by rw [lr]; rfl
  try dsimp only
  refine sv_seq (nv_drop (ev_call sd_check_room (av_cons (ev_var rfl) av_nil))) ?_
  refine sv_seq (nv_drop (ev_call (sd_chksize hm) (av_cons (ev_var rfl) av_nil))) ?_
  exact sv_ret (ev_op (od_ixI (getD_some (l := ctd n m (iz (rowB n R))) (d := 0) (by rw [ctd_len]; omega))) (ev_eqD (ev_call (sd_ctdF cp) (av_cons (row (av_cons (ev_var rfl) av_nil)) (av_cons (ev_var rfl) av_nil))) ec) (ev_var rfl))
abbrev s_is_vector : Stmt := topS 63
abbrev N_is_vector : List Str := ["room", "value", "place", "number"]
theorem sc_is_vector : FnScope N_is_vector ["room", "value"] (defScope s_is_vector) := ⟨rfl, rfl, rfl, by decide +kernel, rfl, by decide +kernel, by decide +kernel⟩
theorem ok_is_vector {f : Addr} {fd : FuncData} (F : Fun K "is_vector" "is_vector" s_is_vector f fd)
    (C_are_integers : Cal P w K mg base "are_integers" 2 ["value"] [] sp_are_integers)
    (C_check_room : Cal P w K mg base "check_room" 1 ["room"] [] (sp_check_room C))
    (C_word_of : Cal P w K mg base "word_of" 4 ["spots"] [] sp_word_of)
    (M_has : MthC P w K mg base C "has" 6 ["self", "word"] (sp_has C))
    (P_places : PrpC P w K mg base C "places" 1 (sp_places C))
    (m_enumerate : mg "enumerate" = none)
    (m_len : mg "len" = none)
    (n_has : ∀ n b, (rf n b).lookup ("has" : Str) = none) :
    FnOk P w K mg base CX0 7 f fd ["room", "value"] (sp_isvec C) := by
  refine fn_sv F sc_is_vector (fun _ _ => rfl) fun W i hP cdv A outer s H E hr => ⟨_, (pss_cons (ps_expr (pe_cal C_check_room (hr.mono (by decide)) (by rfl) (pa_cons (pv 0) pa_nil)))
    (pss_cons (ps_if (PW.pt (pw_or (pt_not (pt_val (pe_cal C_are_integers (hr.mono (by decide)) (by rfl) (pa_cons (pv 1) pa_nil)))) (pw_or1 (pt_cmpR op_neN (pe_callB call_len_seq (by rfl) m_len (by decide +kernel) (pa_cons (pv 1) pa_nil)) (pe_propC P_places (hr.mono (by decide)) (pv 0) rfl) (nomark _))))) (pss_one (ps_ret pe_bl)) pss_nil)
    (pss_one (ps_ret (pe_methC M_has (hr.mono (by decide)) (pv 0) (pa_cons (pe_cal C_word_of (hr.mono (by decide)) (by rfl) (pa_cons (pe_lc (own := [("place", 2), ("number", 3)]) (g := gTup K 2 (gCons (gName 2) (gCons (gName 3) gNil))) (by rfl) sc_is_vector.nd (pi_enumLT (by rfl) m_enumerate (pa_cons (pv 1) pa_nil)) (blkOk_by (own := [("place", 2), ("number", 3)]) (N := N_is_vector) (sc := defScope s_is_vector) (by decide +kernel)) (fun _ _ _ _ _ => (pg_tup rfl (pgs_cons (pg_name (i := 2) sc_is_vector.nd rfl (Or.inl rfl)) (pgs_cons (pg_name (i := 3) sc_is_vector.nd rfl (Or.inl rfl)) pgs_nil)))) (fun _ _ _ _ _ => (pts_one (pt_cmpR op_eq (pe_op op_mod (pv 3) pe_int) pe_int (nomark _)))) (fun _ _ _ _ _ => (pv 2))) pa_nil)) pa_nil)))))), ?_⟩
  obtain ⟨n, B, l⟩ := i
  have n1 : 1 ≤ n := hP.n1
  have n24 : n ≤ 24 := hP.n24
  have ln : l.length = n := hP.ln
  try dsimp only
  refine sv_seq (nv_drop (ev_call sd_check_room (av_cons (ev_var rfl) av_nil))) ?_
  refine sv_seq (nv_ifF (tv_orF (tv_nf (tv_B (ev_call (sd_are_integers (by omega)) (av_cons (ev_LTL (ev_var rfl)) av_nil)))) (tv_f (tv_test (ev_op od_neN (ev_cb cd_lenI (av_cons (ev_var rfl) av_nil)) (ev_prop sd_places (ev_var rfl)))) (nd_t ln)))) ?_
  have bl : oddW l < 2 ^ n := by
    refine Nat.lt_pow_two_of_testBit _ fun j hj => ?_
    unfold oddW
    rw [sumPow_bit (List.nodup_range.filter _)]
    exact decide_eq_false fun z => by
      have := List.mem_range.mp (List.mem_filter.mp z).1
      omega
  have fl : ∀ k ∈ (List.range l.length).filter fun k => decide (l.getD k 0 % 2 = 1), k < 24 := fun k hk => by
    have := List.mem_range.mp (List.mem_filter.mp hk).1
    omega
  have gx : ∀ k x, (l.map V.int)[k]? = some x → x = V.int (l.getD k 0) := fun k x hx => by
    obtain ⟨a, ha, e⟩ := get_is hx
    have := getD_some (l := l) (d := 0) (List.getElem?_eq_some_iff.mp ha).1
    rw [ha] at this
    rw [e, Option.some.inj this]
  refine sv_ret (ev_meth n_has (sd_has bl) (ev_var rfl) (av_cons (ev_eqD (ev_call (sd_word_of (l := (List.range l.length).filter fun k => decide (l.getD k 0 % 2 = 1)) (List.nodup_range.filter _) fl (by have := List.length_filter_le (fun k => decide (l.getD k 0 % 2 = 1)) (List.range l.length); rw [List.length_range] at this; omega)) (av_cons (lt_of_L (ev_eqD (ev_lcEV (xs := l.map V.int) (p := fun k => decide (l.getD k 0 % 2 = 1)) (G := fun k => V.int (k : Int)) rfl qs_L (by rw [len_is]; omega) (by decide) (fun k x hx => ?_) fun k x hx _ => (ev_var rfl)) (show dLst _ = dVs _ by rw [len_is]; rfl))) av_nil)) rfl) av_nil))
  have e := gx k x hx
  subst e
  exact (tv_test (ev_op od_eqI (ev_op (od_modI (by decide)) (ev_var rfl) (ev_cn 2)) (ev_cn 1)))
abbrev s_law_pick : Stmt := topS 67
abbrev N_law_pick : List Str := ["_law_pot_here", "_law_some"]
theorem sc_law_pick : FnScope N_law_pick ["_law_pot_here", "_law_some"] (defScope s_law_pick) := ⟨rfl, rfl, rfl, by decide +kernel, rfl, by decide +kernel, by decide +kernel⟩
theorem ok_law_pick {f : Addr} {fd : FuncData} (F : Fun K "_law_pick" "_law_pick" s_law_pick f fd)
    (C_law_draw : Cal P w K mg base "_law_draw" 1 ["_law_pot_here", "_law_size"] [] sp_draw)
    (m_len : mg "len" = none) :
    FnOk P w K mg base CX0 2 f fd ["_law_pot_here", "_law_some"] sp_pick86 := by
  refine fn_sv F sc_law_pick (fun _ _ => rfl) fun W i hP cdv A outer s H E hr => ⟨_, (pss_one (ps_ret (pe_ix ix_list (pv 1) (pe_cal C_law_draw (hr.mono (by decide)) (by rfl) (pa_cons (pv 0) (pa_cons (pe_callB call_len_seq (by rfl) m_len (by decide +kernel) (pa_cons (pv 1) pa_nil)) pa_nil))) (fun _ _ => rfl)))), ?_⟩
  obtain ⟨p, ls⟩ := i
  have hp : IsPot W p := hP.hp
  have n0 : 0 < ls.length := hP.n0
  have sm : ls.length ≤ 10000 := hP.sm
  try dsimp only
  exact sv_ret (ev_wk (ev_opR (P' := fun k => k < ls.length) (f' := fun k => dN k) (g := fun k => dTup ((ls.getD k []).map V.int)) (fun k hk => od_ixLD (ts_get (getD_some hk))) (ev_var (d := dLD (uDs (ls.map uT) W)) rfl) (ev_eqD (ev_call (sd_draw hp (by rw [ts_len]; exact n0) (by rw [ts_len]; omega)) (av_cons (ev_var rfl) (av_cons (ev_cb cd_lenLD (av_cons (ev_var (d := dLD (uDs (ls.map uT) W)) rfl) av_nil)) av_nil))) (by rw [ts_len]))) fun v H ⟨k, hk, o⟩ => ⟨ls.getD k [], List.mem_of_getElem? (getD_some hk), o⟩)
abbrev s_law_lists : Stmt := topS 70
abbrev N_law_lists : List Str := ["_law_places", "_law_found", "_law_place", "_law_longer", "_law_row", "_law_number"]
theorem sc_law_lists : FnScope N_law_lists ["_law_places"] (defScope s_law_lists) := ⟨rfl, rfl, rfl, by decide +kernel, rfl, by decide +kernel, by decide +kernel⟩
theorem ok_law_lists {f : Addr} {fd : FuncData} (F : Fun K "_law_lists" "_law_lists" s_law_lists f fd)
    (m_range : mg "range" = none)
    (m_sum : mg "sum" = none) :
    FnOk P w K mg base CX0 1 f fd ["_law_places"] sp_llists86 := by
  refine fn_sv F sc_law_lists (fun _ _ => rfl) fun W i hP cdv A outer s H E hr => ⟨_, (pss_cons (ps_set (i := 1) sc_law_lists.nd rfl (Or.inl rfl) (pe_lst (pa_cons (pe_tup pa_nil) pa_nil)))
    (pss_cons (ps_for PassesOwn.never rfl (pi_range1 (by rfl) m_range (pa_cons (pv 0) pa_nil)) (pg_name (i := 2) sc_law_lists.nd rfl (Or.inl rfl))
      (pss_cons (ps_set (i := 3) sc_law_lists.nd rfl (Or.inl rfl) (pe_lst pa_nil))
    (pss_cons (ps_for PassesOwn.never rfl (pi_list (pv 1)) (pg_name (i := 4) sc_law_lists.nd rfl (Or.inr rfl))
      (pss_one (ps_if (pt_cmpR op_lt (pe_callB (cr_sum rfl) (by rfl) m_sum (by decide +kernel) (pa_cons (pe_lc (own := [("_law_number", 5)]) (g := gName 5) (by rfl) sc_law_lists.nd (pi_tup (pv 4)) (blkOk_by (own := [("_law_number", 5)]) (N := N_law_lists) (sc := defScope s_law_lists) (by decide +kernel)) (fun _ _ _ _ _ => pg_name (i := 5) sc_law_lists.nd rfl (Or.inl rfl)) (fun _ _ _ _ _ => pts_nil) (fun _ _ _ _ _ => (pe_op op_mul (pv 5) (pv 5)))) pa_nil)) pe_int (nomark _)) (pss_one (ps_expr (pe_bm PySem.F.plainAttrs_list PySem.F.slot_list_extend PySem.F.type_list_extend mt_extend (pv 3) (pa_cons (pe_lc (own := [("_law_number", 5)]) (g := gName 5) (by rfl) sc_law_lists.nd (pi_range2 (by rfl) m_range (pa_cons (pe_un un_neg pe_int) (pa_cons pe_int pa_nil))) (blkOk_by (own := [("_law_number", 5)]) (N := N_law_lists) (sc := defScope s_law_lists) (by decide +kernel)) (fun _ _ _ _ _ => pg_name (i := 5) sc_law_lists.nd rfl (Or.inl rfl)) (fun _ _ _ _ _ => pts_nil) (fun _ _ _ _ _ => (pe_op (op_catAS K) (pv 4) (pe_tup (pa_cons (pv 5) pa_nil))))) pa_nil)))) pss_nil)))
    (pss_one (ps_set (i := 1) sc_law_lists.nd rfl (Or.inl rfl) (pv 3))))))
    (pss_one (ps_ret (pe_lc (own := [("_law_row", 4)]) (g := gName 4) (by rfl) sc_law_lists.nd (pi_list (pv 1)) (blkOk_by (own := [("_law_row", 4)]) (N := N_law_lists) (sc := defScope s_law_lists) (by decide +kernel)) (fun _ _ _ _ _ => pg_name (i := 4) sc_law_lists.nd rfl (Or.inl rfl)) (fun _ _ _ _ _ => (pts_one (pt_cmpR op_lt (pe_callB (cr_sumS K rfl) (by rfl) m_sum (by decide +kernel) (pa_cons (pe_lc (own := [("_law_number", 5)]) (g := gName 5) (by rfl) sc_law_lists.nd ((pi_tupS K) (pv 4)) (blkOk_by (own := [("_law_number", 5)]) (N := N_law_lists) (sc := _) (by rfl)) (fun _ _ _ _ _ => pg_name (i := 5) sc_law_lists.nd rfl (Or.inl rfl)) (fun _ _ _ _ _ => pts_nil) (fun _ _ _ _ _ => (pe_op op_mul (pv 5) (pv 5)))) pa_nil)) pe_int (nomark _)))) (fun _ _ _ _ _ => (pv 4))))))), ?_⟩
  generalize hi : i = n at hP ⊢
  have n4 : n ≤ 4 := hP
  try dsimp only
  refine sv_seq (nv_set (d := dTs (LLs 0)) (ev_eqD (ev_lst (av_cons (ev_tupI [] av_nil (by decide)) av_nil)) rfl)) ?_
  refine sv_seq (nv_forK (n := n) (fun k => (envOf [dN n] 5).set 1 (some (dTs (LLs k)))) (av_cons (ev_var rfl) av_nil) (by omega) (fun σ H h => h) fun k hk => ?_) ?_
  · have k4 : k ≤ 4 := by omega
    have lk := LLs_le k4
    refine nv_sub (nv_assoc (nv_seq (nv_newG (N := 6) (i := 3) (ue := [(1, uLD ((LLs k).map uT)), (0, uN n)]) (Es := (uEnv 6 [(1, uLD ((LLs k).map uT)), (0, uN n)] W).set 3 (some (dTs (LLs (k + 1))))) (fun σ H h => h.sub rfl ⟨rfl, rfl, trivial⟩) (ng_forD (ws := (LLs k).map uT) (offu_T _) (fun _ (_ : Unit) => [(1, uLD ((LLs k).map uT)), (0, uN n)]) (fun j _ => ((((LLs k).take j).filter fun l => decide (sqs l < 10)).flatMap fun l => (List.range 7).map (oneM l)).map uT) (fun _ _ => True) () (fun W' _ => ev_var rfl) trivial rfl (fun W' σ H h => h) fun j w hw x _ => ?_) (ho := fun x _ σ H h => ?_)) (nv_set (ev_var rfl)))) rfl ⟨rfl, rfl, trivial⟩
    · obtain ⟨l, hl, rfl⟩ : ∃ l, (LLs k)[j]? = some l ∧ w = uT l := by
        rw [List.getElem?_map] at hw
        cases e : (LLs k)[j]? with
        | none => rw [e] at hw; cases hw
        | some l => rw [e] at hw; exact ⟨l, rfl, (Option.some.inj hw).symm⟩
      obtain ⟨ll, lb⟩ := LLs_mem (List.mem_of_getElem? hl)
      have st : (LLs k).take (j + 1) = (LLs k).take j ++ [l] := take_snocZ hl
      have tl : ((((LLs k).take j).filter fun l => decide (sqs l < 10)).flatMap fun l => (List.range 7).map (oneM l)).length ≤ 7 * 2401 := by
        rw [flat7_len]
        have := List.length_filter_le (fun l => decide (sqs l < 10)) ((LLs k).take j)
        rw [List.length_take] at this
        omega
      refine ng_if (b := decide (sqs l < 10)) (fun W' _ => (tv_test (ev_op od_ltI (ev_cb cd_sumI (av_cons (ev_lcTI (l := l) (ev_var rfl) (by omega) fun x hx => ev_op (od_mulI (.inl (by have := lb x hx; omega))) (ev_var rfl) (ev_var rfl)) av_nil)) (ev_cn 10)))) (fun t_ => ?_) (fun t_ => ?_)
      · refine ng_imp (ng_extend (vs := (List.range 7).map fun x => uT (oneM l x)) (fun W' _ => ev_lcR2U (N := 6) (lo := -3) (n := 7) [(4, uT l)] (fun x => uT (oneM l x)) (av_cons (ev_neg (ev_cn 3)) (av_cons (ev_eqD (ev_cn 4) (congrArg dI (by decide))) av_nil)) (fun σ H h => h.sub rfl ⟨rfl, trivial⟩) (by decide) (by decide) fun W2 x hx => ev_eqD (ev_op (od_catA (by rw [List.length_map, ll]; show k + 1 ≤ 100000; omega)) (ev_var (d := dTup (l.map V.int)) rfl) (ev_tupI [(-3 + (x : Nat) : Int)] (av_cons (ev_var rfl) av_nil) (by show 1 ≤ 1000; omega))) (congrArg dTup List.map_append.symm)) (by rw [List.length_map, List.length_map, List.length_range]; omega)) (fun _ => ()) fun _ _ => ⟨trivial, ?_, fun W' σ H h => h.sub rfl ⟨rfl, rfl, trivial⟩⟩
        rw [st, List.filter_append, List.filter_cons_of_pos (p := fun l => decide (sqs l < 10)) t_, List.flatMap_append, List.map_append, List.filter_nil, List.flatMap_cons, List.flatMap_nil, List.append_nil, List.map_map]
        rfl
      · refine ng_imp ng_next (fun _ => ()) fun _ _ => ⟨trivial, ?_, fun W' σ H h => h.sub rfl ⟨rfl, rfl, trivial⟩⟩
        rw [st, List.filter_append, List.filter_cons_of_neg (p := fun l => decide (sqs l < 10)) (by rw [t_]; exact Bool.false_ne_true), List.filter_nil, List.append_nil]
    · rw [List.length_map, List.take_length] at h
      exact h
  · have ln := LLs_le n4
    exact sv_ret (ev_lcUF (N := 6) [] (LLs n) uT uT (fun l => decide (sqs l < 10)) (ev_var rfl) (fun σ H h => h.sub rfl trivial) (by omega) (fun W' u hu => by
      obtain ⟨ll, lb⟩ := LLs_mem hu
      exact (tv_test (ev_op od_ltI (ev_cb cd_sumI (av_cons (ev_lcTI (l := u) (ev_var rfl) (by omega) fun x hx => ev_op (od_mulI (.inl (by have := lb x hx; omega))) (ev_var rfl) (ev_var rfl)) av_nil)) (ev_cn 10)))) fun W' u hu _ => ev_var rfl)
abbrev s_law_odd_word : Stmt := topS 71
abbrev N_law_odd_word : List Str := ["_law_row", "_law_word", "_law_number"]
theorem sc_law_odd_word : FnScope N_law_odd_word ["_law_row"] (defScope s_law_odd_word) := ⟨rfl, rfl, rfl, by decide +kernel, rfl, by decide +kernel, by decide +kernel⟩
theorem ok_law_odd_word {f : Addr} {fd : FuncData} (F : Fun K "_law_odd_word" "_law_odd_word" s_law_odd_word f fd) :
    FnOk P w K mg base CX0 1 f fd ["_law_row"] sp_loddw := by
  refine fn_sv F sc_law_odd_word (fun _ _ => rfl) fun W i hP cdv A outer s H E hr => ⟨_, (pss_cons (ps_set (i := 1) sc_law_odd_word.nd rfl (Or.inl rfl) pe_int)
    (pss_cons (ps_for PassesOwn.never rfl (pi_tup (pe_revT (pv 0))) (pg_name (i := 2) sc_law_odd_word.nd rfl (Or.inl rfl))
      (pss_one (ps_set (i := 1) sc_law_odd_word.nd rfl (Or.inl rfl) (pe_op op_add (pe_op op_mulN pe_int (pv 1)) (pe_op op_mod (pv 2) pe_int)))))
    (pss_one (ps_ret (pv 1))))), ?_⟩
  generalize hi : i = l at hP ⊢
  have l24 : l.length ≤ 24 := hP
  try dsimp only
  refine sv_seq (nv_set (ev_cn 0)) ?_
  refine sv_seq (nv_forT (xs := l.reverse.map V.int) (fun k => (envOf [dTup (l.map V.int)] 2).set 1 (some (dN (odW ((l.reverse.take k).reverse))))) (ev_revTI (ev_var rfl)) (fun σ H h => h) fun k x hx => ?_) ?_
  · obtain ⟨a, ha, rfl⟩ := get_is hx
    have st : (l.reverse.take (k + 1)).reverse = a :: (l.reverse.take k).reverse := by rw [take_snocZ ha, List.reverse_append]; rfl
    rw [st]
    generalize (l.reverse.take k).reverse = m
    refine nv_sub (nv_set (ev_eqD (ev_op od_addI (ev_op (od_mulN (by omega)) (ev_cn 2) (ev_var rfl)) (ev_op (od_modI (by decide)) (ev_var rfl) (ev_cn 2))) (congrArg dI ?_))) rfl ⟨rfl, rfl, trivial⟩
    show ((2 * odW m : Nat) : Int) + a % 2 = ((2 * odW m + (a % 2).toNat : Nat) : Int)
    have := m2 a
    omega
  · rw [len_is, List.take_length, List.reverse_reverse]
    exact sv_ret (ev_var rfl)
abbrev s_law_right : Stmt := topS 72
abbrev N_law_right : List Str := ["_law_pot_here", "_law_places", "_law_words", "_law_turn", "_law_room", "_law_own", "_law_due", "_law_rows", "_law_row", "_law_size", "_law_number", "_law_told"]
theorem sc_law_right : FnScope N_law_right ["_law_pot_here"] (defScope s_law_right) := ⟨rfl, rfl, rfl, by decide +kernel, rfl, by decide +kernel, by decide +kernel⟩
theorem ok_law_right {f : Addr} {fd : FuncData} {fR : Addr} {fdR : FuncData} (F : Fun K "_law_right" "_law_right" s_law_right f fd)
    (C_is_vector : Cal P w K mg base "is_vector" 7 ["room", "value"] [] (sp_isvec C))
    (C_law_draw : Cal P w K mg base "_law_draw" 1 ["_law_pot_here", "_law_size"] [] sp_draw)
    (C_law_lists : Cal P w K mg base "_law_lists" 1 ["_law_places"] [] sp_llists86)
    (C_law_odd_word : Cal P w K mg base "_law_odd_word" 1 ["_law_row"] [] sp_loddw)
    (C_law_pick : Cal P w K mg base "_law_pick" 2 ["_law_pot_here", "_law_some"] [] sp_pick86)
    (C_law_span : Cal P w K mg base "_law_span" 1 ["_law_words"] [] sp_lspan87)
    (C_vector_row : Cal P w K mg base "vector_row" 10 ["room", "most"] [] (sp_vrowF C))
    (C_vectors : Cal P w K mg base "vectors" 10 ["room", "size"] [] (sp_vecs C))
    (GR : GgOk P w K mg base 1 fR fdR ["self"] (sp_repr C))
    (K_vector_row_most_room : CalK P w K mg base "vector_row" 10 ["room", "most"] ["most", "room"] kw2 (sp_vrowF C))
    (K_vectors_size_room : CalK P w K mg base "vectors" 10 ["room", "size"] ["size", "room"] kw2 (sp_vecs C))
    (MK_Room : MakC P w K mg base C "Room" 6 ["self", "places", "words"] (sp_init C))
    (R : RKn K C)
    (bR : Binds K fdR ["self"] [])
    (iR : PySem.W.isFn K (.ref fR) = true)
    (m_list : mg "list" = none)
    (m_range : mg "range" = none)
    (m_repr : mg "repr" = none)
    (m_sum : mg "sum" = none)
    (sR : PySem.W.findIn K (.ref C) "__repr__" = some (some (.ref fR))) :
    GnOk P w K mg base 11 f fd ["_law_pot_here"] sp_right := by
  refine gn_sv F sc_law_right (fun _ _ => rfl) fun W i hP cdv A outer s H E hg hr => ⟨_, (pss_cons (ps_set (i := 1) sc_law_right.nd rfl (Or.inl rfl) (pe_op op_addN pe_int (pe_cal C_law_draw (hr.mono (by decide)) (by rfl) (pa_cons (pv 0) (pa_cons pe_int pa_nil)))))
    (pss_cons (ps_set (i := 2) sc_law_right.nd rfl (Or.inl rfl) (pe_lst pa_nil))
    (pss_cons (ps_for PassesOwn.never rfl (pi_range1 (by rfl) m_range (pa_cons (pe_cal C_law_draw (hr.mono (by decide)) (by rfl) (pa_cons (pv 0) (pa_cons (pe_op op_addN (pv 1) pe_int) pa_nil))) pa_nil)) (pg_name (i := 3) sc_law_right.nd rfl (Or.inl rfl))
      (pss_one (ps_expr (pe_bm PySem.F.plainAttrs_list PySem.F.slot_list_append PySem.F.type_list_append mt_append (pv 2) (pa_cons (pe_op op_modNN (pe_cal C_law_draw (hr.mono (by decide)) (by rfl) (pa_cons (pv 0) (pa_cons (pe_op op_pow pe_int pe_int) pa_nil))) (pe_op op_pow2 pe_int (pv 1))) pa_nil)))))
    (pss_cons (ps_asg (pe_tup (pa_cons (pe_mkC MK_Room (hr.mono (by decide)) (by rfl) (pa_cons (pv 1) (pa_cons (pv 2) pa_nil))) (pa_cons (pe_cal C_law_span (hr.mono (by decide)) (by rfl) (pa_cons (pv 2) pa_nil)) (pa_cons (pe_op op_rep (pe_lst (pa_cons pe_int pa_nil)) pe_int) pa_nil)))) (pg_tup rfl (pgs_cons (pg_name (i := 4) sc_law_right.nd rfl (Or.inr rfl)) (pgs_cons (pg_name (i := 5) sc_law_right.nd rfl (Or.inl rfl)) (pgs_cons (pg_name (i := 6) sc_law_right.nd rfl (Or.inl rfl)) pgs_nil)))))
    (pss_cons (ps_set (i := 7) sc_law_right.nd rfl (Or.inl rfl) (pe_cal C_law_lists (hr.mono (by decide)) (by rfl) (pa_cons (pv 1) pa_nil)))
    (pss_cons (ps_for PassesOwn.never rfl (pi_list (pv 7)) (pg_name (i := 8) sc_law_right.nd rfl (Or.inl rfl))
      (pss_one (ps_if (pt_cmpR op_in_seq (pe_cal C_law_odd_word (hr.mono (by decide)) (by rfl) (pa_cons (pv 8) pa_nil)) (pv 5) (by with_unfolding_all rfl)) (pss_cons (ps_set (i := 9) sc_law_right.nd rfl (Or.inl rfl) (pe_callB (cr_sum rfl) (by rfl) m_sum (by decide +kernel) (pa_cons (pe_lc (own := [("_law_number", 10)]) (g := gName 10) (by rfl) sc_law_right.nd (pi_tup (pv 8)) (blkOk_by (own := [("_law_number", 10)]) (N := N_law_right) (sc := defScope s_law_right) (by decide +kernel)) (fun _ _ _ _ _ => pg_name (i := 10) sc_law_right.nd rfl (Or.inl rfl)) (fun _ _ _ _ _ => pts_nil) (fun _ _ _ _ _ => (pe_op op_mul (pv 10) (pv 10)))) pa_nil)))
    (pss_one (ps_asg (pe_op op_add (pe_ix ix_list (pv 6) (pv 9) (fun _ _ => rfl)) pe_int) (pg_sub (pv 6) (pv 9) set_list)))) pss_nil)))
    (pss_cons (ps_if (PW.pt (pw_or (pt_cmpR op_ne (pe_callB (call_reprA GR hg (hr.mono (by decide)) sR iR bR) (by rfl) m_repr (by decide +kernel) (pa_cons (pe_cal C_vector_row (hr.mono (by decide)) (by rfl) (pa_cons (pv 4) (pa_cons pe_int pa_nil))) pa_nil)) (pe_callB (call_reprA GR hg (hr.mono (by decide)) sR iR bR) (by rfl) m_repr (by decide +kernel) (pa_cons (pv 6) pa_nil)) (nomark _)) (pw_or1 (pt_cmpR op_ne (pe_callB (call_reprA GR hg (hr.mono (by decide)) sR iR bR) (by rfl) m_repr (by decide +kernel) (pa_cons (pe_lc (own := [("_law_size", 9)]) (g := gName 9) (by rfl) sc_law_right.nd (pi_range1 (by rfl) m_range (pa_cons pe_int pa_nil)) (blkOk_by (own := [("_law_size", 9)]) (N := N_law_right) (sc := defScope s_law_right) (by decide +kernel)) (fun _ _ _ _ _ => pg_name (i := 9) sc_law_right.nd rfl (Or.inl rfl)) (fun _ _ _ _ _ => pts_nil) (fun _ _ _ _ _ => (pe_cal C_vectors (hr.mono (by decide)) (by rfl) (pa_cons (pv 4) (pa_cons (pv 9) pa_nil))))) pa_nil)) (pe_callB (call_reprA GR hg (hr.mono (by decide)) sR iR bR) (by rfl) m_repr (by decide +kernel) (pa_cons (pv 6) pa_nil)) (nomark _))))) (pss_one (ps_ret pe_bl)) pss_nil)
    (pss_cons (ps_set (i := 9) sc_law_right.nd rfl (Or.inl rfl) (pe_cal C_law_draw (hr.mono (by decide)) (by rfl) (pa_cons (pv 0) (pa_cons pe_int pa_nil))))
    (pss_cons (ps_if (PW.pt (pw_or (pt_cmpR op_ne (pe_calKw K_vectors_size_room (hr.mono (by decide)) (by rfl) (pk_cons (pv 9) (pk_cons (pv 4) pk_nil))) (pe_ix ix_list (pv 6) (pv 9) (fun _ _ => rfl)) (nomark _)) (pw_or1 (pt_cmpR (op_neD hr.units) (pe_calKw K_vector_row_most_room (hr.mono (by decide)) (by rfl) (pk_cons (pv 9) (pk_cons (pv 4) pk_nil))) (pe_slice sl_list (pv 6) po_none (po_some (pe_op op_addN (pv 9) pe_int))) (nomark _))))) (pss_one (ps_ret pe_bl)) pss_nil)
    (pss_cons (ps_for PassesOwn.never rfl (pi_range1 (by rfl) m_range (pa_cons pe_int pa_nil)) (pg_name (i := 3) sc_law_right.nd rfl (Or.inl rfl))
      (pss_cons (ps_set (i := 8) sc_law_right.nd rfl (Or.inl rfl) (pe_cal C_law_pick (hr.mono (by decide)) (by rfl) (pa_cons (pv 0) (pa_cons (pv 7) pa_nil))))
    (pss_one (ps_if (pt_cmpR op_ne (pe_callB (call_reprA GR hg (hr.mono (by decide)) sR iR bR) (by rfl) m_repr (by decide +kernel) (pa_cons (pe_cal C_is_vector (hr.mono (by decide)) (by rfl) (pa_cons (pv 4) (pa_cons (pe_callTy call_list_of (by rfl) m_list (by decide +kernel) (pa_cons (pv 8) pa_nil)) pa_nil))) pa_nil)) (pe_callB (call_reprA GR hg (hr.mono (by decide)) sR iR bR) (by rfl) m_repr (by decide +kernel) (pa_cons (pe_cmpR op_in_seq (pe_cal C_law_odd_word (hr.mono (by decide)) (by rfl) (pa_cons (pv 8) pa_nil)) (pv 5) (by with_unfolding_all rfl)) pa_nil)) (nomark _)) (pss_one (ps_ret pe_bl)) pss_nil))))
    (pss_cons (ps_set (i := 11) sc_law_right.nd rfl (Or.inl rfl) (pe_cal C_vector_row (hr.mono (by decide)) (by rfl) (pa_cons (pv 4) (pa_cons pe_int pa_nil))))
    (pss_cons (ps_expr (pe_bm PySem.F.plainAttrs_list PySem.F.slot_list_append PySem.F.type_list_append mt_append (pv 11) (pa_cons pe_non pa_nil)))
    (pss_one (ps_ret (pe_cmpR (op_eqD hr.units) (pe_cal C_vector_row (hr.mono (by decide)) (by rfl) (pa_cons (pv 4) (pa_cons pe_int pa_nil))) (pv 6) (nomark _)))))))))))))))), ?_⟩
  have hp : IsPot W i := hP
  refine sv_setx (ev_opR (fun _ _ => od_addN) (ev_cn 1) (ev_call (sd_draw hp (by omega) (by omega)) (av_cons (ev_var rfl) (av_cons (ev_cn 4) av_nil)))) fun d hd => ?_
  have hd : d < 4 := hd
  try dsimp only
  generalize hn : 1 + d = n
  have n1 : 1 ≤ n := by omega
  have n4 : n ≤ 4 := by omega
  have pw := Nat.two_pow_pos n
  refine sv_cell fl_nil ?_
  refine svx_forR (Pn := fun x => x < n + 1) (f := fun x => x) (fun k c => ∃ l : List Nat, c = [(2, vs l)] ∧ l.length = k ∧ ∀ v ∈ l, v < 2 ^ n) [] (ax_consL (ev_call (sd_draw hp (by omega) (by omega)) (av_cons (ev_var rfl) (av_cons (ev_op od_addN (ev_var rfl) (ev_cn 1)) av_nil))) av_nil) (fun x hx => by have hx : x < n + 1 := hx; omega) ⟨[], rfl, rfl, fun _ k => (List.not_mem_nil k).elim⟩ rfl (fun k c ⟨l, e, _⟩ => by rw [e]; rfl) (fun x k c hx hk ⟨l, e, ll, sl⟩ => ?_) (fun x c hx ⟨ws, e, lw, lt⟩ => ?_)
  · subst e
    have hx : x < n + 1 := hx
    refine nvx_wk [3] (nvx_imp (nvx_append (R := fun v : Nat => v < 2 ^ n) (f := fun v => .int (v : Int)) rfl (ev_exw (ev_opL (fun _ _ => od_modN pw) (ev_call (sd_draw hp (n := 16) (by omega) (by omega)) (av_cons (ev_var rfl) (av_cons (ev_eqD (ev_op od_pow24 (ev_cn 2) (ev_cn 4)) (congrArg dN (by decide))) av_nil))) (ev_op (od_pow2 (by omega)) (ev_cn 1) (ev_var rfl))) (fun v => v % 2 ^ n) fun v _ => ⟨Nat.mod_lt _ pw, rfl⟩) (by rw [len_vs]; omega)) fun c ⟨w, hw, ec⟩ => ⟨l ++ [w], ec.trans (by rw [← vs_snoc]; rfl), by rw [List.length_append, ll]; rfl, fun x hx => ?_⟩) rfl
    rcases List.mem_append.mp hx with h | h
    · exact sl x h
    · rw [List.mem_singleton.mp h]
      exact hw
  subst e
  have hx : x < n + 1 := hx
  have l6 : ws.length ≤ 6 := by omega
  refine svc_end ?_
  have f := room_any n1 (by omega) lt
  refine sv_unpDXC (R := fun L => SpanN ws L) (f := dVs) (d1 := dRoom C n (bas ws)) (ev_make (by omega) (by omega) lt (by omega) (av_cons (ev_var rfl) (av_cons (ev_var rfl) av_nil))) (ev_call (sd_lspan87 l6) (av_cons (ev_var rfl) av_nil)) (fl_rep (n := 10) (y := V.int 0) (ev_lstI [0] (av_cons (ev_cn 0) av_nil)) (ev_cn 10) (by omega)) fun L hL => ?_
  have hL : SpanN ws L := hL
  refine svc_setT (N := 12) (ue := [(1, uN n)]) (ls := LLf n) (fun σ H h => h.sub rfl ⟨rfl, trivial⟩) (fun W' _ => ev_call (sd_llists86 n4) (av_cons (ev_var rfl) av_nil)) ?_
  have lf := LLf_le n4
  refine svc_seq (nvc_forD (j := 7) (ds := uDs ((LLf n).map uT) W) (fun _ => ((((((envOf [dV (.ref i)] 11).set 1 (some (dN n))).set 2 (some (dVs ws))).set 4 (some (dRoom C n (bas ws)))).set 5 (some (dVs L))).set 7 (some (dTs (LLf n))))) (fun k => [(6, (duS L (List.replicate 10 0) ((LLf n).take k)).map V.int)]) rfl rfl (fun σ H h => h.sub rfl ⟨rfl, rfl, rfl, rfl, rfl, rfl, trivial⟩) ?_ (fun _ => rfl) fun k d hd => ?_) ?_
  · show [(6, List.replicate 10 (V.int 0))] = [(6, (List.replicate 10 (0 : Int)).map V.int)]
    rw [List.map_replicate]
  · obtain ⟨l, hl, rfl⟩ := ts_back hd
    obtain ⟨ll, lb, s10⟩ := LLf_mem (List.mem_of_getElem? hl)
    have st := duS_snoc (L := L) (l := l) (ls := (LLf n).take k) (T := List.replicate 10 0)
    rw [← take_snocZ hl] at st
    have lT : (duS L (List.replicate 10 0) ((LLf n).take k)).length = 10 := by rw [duS_len, List.length_replicate]
    rw [st]
    generalize duS L (List.replicate 10 0) ((LLf n).take k) = T at lT
    refine nvc_sub' (nvc_if (Es := ((((((envOf [dV (.ref i)] 11).set 1 (some (dN n))).set 2 (some (dVs ws))).set 4 (some (dRoom C n (bas ws)))).set 5 (some (dVs L))).set 7 (some (dTs (LLf n)))).set 8 (some (dTup (l.map V.int)))) (tv_test (ev_op od_inL (ev_call (sd_loddw (l := l) (by omega)) (av_cons (ev_var rfl) av_nil)) (ev_var rfl))) (fun t_ => ?_) (fun t_ => ?_)) rfl ⟨rfl, rfl, rfl, rfl, rfl, rfl, trivial⟩
    · have t_ : odW l ∈ L := of_decide_eq_true t_
      rw [if_pos t_]
      have s0 := sqs_nn l
      have eq : (dI (sqs l) : Dn W) = dN (sqs l).toNat := congrArg dI (by omega)
      generalize (sqs l).toNat = q at s10 eq
      have gx : T[q]? = some (T.getD q 0) := getD_some (by omega)
      refine nvc_sub' (nvc_seq (nvc_set (d := dN q) (ev_eqD (ev_cb cd_sumI (av_cons (ev_lcTI (l := l) (ev_var rfl) (by omega) fun x hx => ev_op (od_mulI (.inl (by have := lb x hx; omega))) (ev_var rfl) (ev_var rfl)) av_nil)) eq) (pu_V _)) (nvc_cs (nvc_sub (xs := T.map V.int) (y := V.int (T.getD q 0 + 1)) (k := q) rfl (ev_op od_addI (ev_op (od_ixI gx) (ev_var rfl) (ev_var rfl)) (ev_cn 1)) (ev_var rfl) (by rw [len_is]; omega)) ?_)) rfl ⟨rfl, rfl, rfl, rfl, rfl, rfl, rfl, trivial⟩
      show [(6, (T.map V.int).set q (V.int (T.getD q 0 + 1)))] = [(6, _)]
      rw [List.map_set]
    · have t_ : ¬ odW l ∈ L := of_decide_eq_false t_
      rw [if_neg t_]
      exact nvc_next
  have e1 : duS L (List.replicate 10 0) ((LLf n).take (uDs ((LLf n).map uT) W).length) = ctd n 9 (iz (rowB n (bas ws))) := by rw [ts_len, List.take_length, due_is n4 lt hL]
  try dsimp only
  rw [e1]
  refine svc_end ?_
  have lr : (iz (rowB n (bas ws))).length = n + 1 := by rw [iz_len]; exact rowP_len ..
  have T10 : (ctd n 9 (iz (rowB n (bas ws)))).length = 10 := ctd_len
  have bd : ∀ x ∈ ctd n 9 (iz (rowB n (bas ws))), x.natAbs < 2 ^ 64 := fun x hx => by
    have := ctd_bd (F := 64) (by decide) (by omega) lr (rowB_bd (by omega) lt l6) x hx
    omega
  have vA : ∀ m ≤ 9, VecP (n, bas ws, m) := fun m hm => ⟨n1, by show n ≤ 24; omega, by show m ≤ 24; omega⟩
  have lis : ((List.range 10).map fun s => (ctd n s (iz (rowB n (bas ws)))).getD s 0) = ctd n 9 (iz (rowB n (bas ws))) := by
    rw [List.map_congr_left fun s hs => ctd_same lr (List.mem_range.mp hs)]
    exact rng_getD T10
  refine sv_seq (nv_ifF (tv_orF (tv_f (tv_test (ev_op od_neS (ev_cb (cd_repr (rt_Is bd (by omega))) (av_cons (ev_call (sd_vrowF (vA 9 (by omega))) (av_cons (ev_var rfl) (av_cons (ev_cn 9) av_nil))) av_nil)) (ev_cb (cd_repr (rt_Is bd (by omega))) (av_cons (ev_var rfl) av_nil)))) (nd_t rfl)) (tv_f (tv_test (ev_op od_neS (ev_cb (cd_repr (rt_Is bd (by omega))) (av_cons (ev_eqD (ev_lcRI (n := 10) (av_cons (ev_cn 10) av_nil) (by omega) fun size hsize => (ev_call (sd_vecs (vA size (by omega))) (av_cons (ev_var rfl) (av_cons (ev_var rfl) av_nil)))) (dIs_inj lis)) av_nil)) (ev_cb (cd_repr (rt_Is bd (by omega))) (av_cons (ev_var rfl) av_nil)))) (nd_t rfl)))) ?_
  refine sv_setx (ev_call (sd_draw hp (by omega) (by omega)) (av_cons (ev_var rfl) (av_cons (ev_cn 10) av_nil))) fun s hs => ?_
  have hs : s < 10 := hs
  have vs9 := vA s (by omega)
  refine sv_seq (nv_ifF (tv_orF (tv_f (tv_test (ev_op od_neI (ev_kw2 (sd_vecs vs9) (av_cons (ev_var rfl) (av_cons (ev_var rfl) av_nil))) (ev_op (od_ixI (getD_some (l := ctd n 9 (iz (rowB n (bas ws)))) (d := 0) (by omega))) (ev_var rfl) (ev_var rfl)))) (nd_t (ctd_same lr hs))) (tv_f (tv_test (ev_op od_neIL (ev_kw2 (sd_vrowF vs9) (av_cons (ev_var rfl) (av_cons (ev_var rfl) av_nil))) (ev_slTI (ev_var rfl) (ev_op od_addN (ev_var rfl) (ev_cn 1))))) (nd_t (ctd_take lr hs))))) ?_
  refine sv_seq (nv_forR [3, 8] (av_cons (ev_cn 4) av_nil) (by omega) rfl fun x hx => ?_) ?_
  · refine nv_wk [3, 8] (nv_setx (P := fun l => l ∈ LLf n) (f := fun l : List Int => dTup (l.map V.int)) (ev_call (sd_pick86 hp (LLf_pos n (by omega)) (by omega)) (av_cons (ev_var rfl) (av_cons (ev_var rfl) av_nil))) fun l hl => ?_) rfl
    obtain ⟨ll, lb, s10⟩ := LLf_mem hl
    have ev : decide (restOf (oddW l) (bas ws) = 0) = decide (odW l ∈ L) := by
      rw [odW_odd]
      have hs := has_span (ws := ws) (odW l)
      by_cases c : span ws (odW l)
      · rw [hs.mpr c, decide_eq_true ((hL.1 _).mpr c)]
      · rw [Bool.eq_false_iff.mpr fun z => c (hs.mp z), decide_eq_false fun z => c ((hL.1 _).mp z)]
    refine nv_wk [3, 8] (nv_ifF (tv_f (tv_test (ev_op od_neS (ev_cb (cd_repr (rt_B _)) (av_cons (ev_call (sd_isvec (l := l) ⟨n1, by show n ≤ 24; omega, ll⟩) (av_cons (ev_var rfl) (av_cons (ev_cb cd_listLT (av_cons (ev_LTT (ev_var rfl)) av_nil)) av_nil))) av_nil)) (ev_cb (cd_repr (rt_B _)) (av_cons (ev_op od_inL (ev_call (sd_loddw (l := l) (by omega)) (av_cons (ev_var rfl) av_nil)) (ev_var rfl)) av_nil)))) (nd_t (by rw [ev])))) rfl
  refine sv_cell (fl_vrowF (vA 9 (by omega)) (av_cons (ev_var rfl) (av_cons (ev_cn 9) av_nil))) ?_
  refine svc_seq (nvc_append rfl ev_c (by rw [len_is]; omega)) (svc_end ?_)
  exact sv_ret (ev_t (ev_op od_eqIL (ev_call (sd_vrowF (vA 9 (by omega))) (av_cons (ev_var rfl) (av_cons (ev_cn 9) av_nil))) (ev_var rfl)) (decide_eq_true rfl))
end
end K86
set_option Elab.async false
set_option linter.all false
set_option maxRecDepth 100000
set_option maxHeartbeats 1000000
set_option pp.maxSteps 300
namespace K86
open PySem PySem.Spec PyProof.Rows L2 Vf
section
variable {P : Program} {w : World} {K : PySem.W.Frag} {mg : Str → Option Value} {base : Heap} {C : Addr}
abbrev s_law : Stmt := topS 73
abbrev N_law : List Str := ["_law_script"]
theorem sc_law : FnScope N_law ["_law_script"] (defScope s_law) := ⟨rfl, rfl, rfl, by decide +kernel, rfl, by decide +kernel, by decide +kernel⟩
theorem ok_law {f : Addr} {fd : FuncData} (F : Fun K "law" "law" s_law f fd)
    (C_law_pot : Cal P w K mg base "_law_pot" 1 ["_law_script", "_law_k"] [] (sp_pot K))
    (C_law_right : CalG P w K mg base "_law_right" 11 ["_law_pot_here"] sp_right) :
    GnOk P w K mg base 12 f fd ["_law_script"] (sp_law K) := by
  refine gn_ok F sc_law (fun vs H Q E h => ?_) (fun cdv A outer s H vs Q E hg hr h => ?_)
  · obtain ⟨a, ns, rfl, _⟩ := h
    rfl
  · obtain ⟨a, ns, rfl, hS, q⟩ := h
    refine ⟨_, (pss_one (ps_ret (pe_calG C_law_right hg (hr.mono (by decide)) (by rfl) (pa_cons (pe_cal C_law_pot (hr.mono (by decide)) (by rfl) (pa_cons (pv 0) (pa_cons pe_int pa_nil))) pa_nil)))), ?_⟩
    refine ⟨.ref a, rfl, a, ns, 0, rfl, hS, by decide, fun H1 p s1 np hP => ?_⟩
    refine ⟨potW p, p, potW_is p, hP, ⟨rfl, trivial⟩, fun v H2 l2 ov => ?_⟩
    rw [show v = V.bl true from ov]
    exact q _
end
theorem all_mk {l : PySem.W.OpenLaw} {w : World} {K : PySem.W.Frag} {h : Heap} {mg : Str → Option Value} {fa T C f1 f2 f3 f4 f5 f6 f7 f8 f9 f10 f11 f12 f13 f14 f15 f16 f17 f18 f19 f20 f21 f22 f23 f24 f25 f26 f27 f28 f29 f30 f31 f32 f33 f34 f35 f36 f37 f38 f39 f40 f41 f42 f43 f44 f45 f46 fm1 fm2 fm3 fm4 fm5 fm6 fm7 fm8 prm2 prm3 : Addr} (X : K.In h) (G : h.Ns mainGlobals mg) (hfa : mg "law" = some (.ref fa))
    {od1 an1 od2 an2 od3 an3 od4 an4 od5 an5 od6 an6 od7 an7 od8 an8 od9 an9 od10 an10 od11 an11 od12 an12 od13 an13 od14 an14 od15 an15 od16 an16 od17 an17 od18 an18 od19 an19 od20 an20 od21 an21 od22 an22 od23 an23 od24 an24 od25 an25 od26 an26 od27 an27 od28 an28 od29 an29 od30 an30 od31 an31 od32 an32 od33 an33 od34 an34 od35 an35 od36 an36 od37 an37 od38 an38 od39 an39 od40 an40 od41 an41 od42 an42 od43 an43 od44 an44 od45 an45 od46 an46 odm1 anm1 odm2 anm2 odm3 anm3 odm4 anm4 odm5 anm5 odm6 anm6 odm7 anm7 odm8 anm8 dT : Option Addr} {sl1 sl2 sl3 sl4 sl5 sl6 sl7 sl8 sl9 sl10 sl11 sl12 sl13 sl14 sl15 sl16 sl17 sl18 sl19 sl20 sl21 sl22 sl23 sl24 sl25 sl26 sl27 sl28 sl29 sl30 sl31 sl32 sl33 sl34 sl35 sl36 sl37 sl38 sl39 sl40 sl41 sl42 sl43 sl44 sl45 sl46 slm1 slm2 slm3 slm4 slm5 slm6 slm7 slm8 sT : Array (Option Value)} {oc1 kV1 dc1 pm1 cd1 ct1 oc2 kV2 dc2 pm2 cd2 ct2 oc3 kV3 dc3 pm3 cd3 ct3 oc4 kV4 dc4 pm4 cd4 ct4 oc5 kV5 dc5 pm5 cd5 ct5 oc6 kV6 dc6 pm6 cd6 ct6 oc7 kV7 dc7 pm7 cd7 ct7 oc8 kV8 dc8 pm8 cd8 ct8 oc9 kV9 dc9 pm9 cd9 ct9 oc10 kV10 dc10 pm10 cd10 ct10 oc11 kV11 dc11 pm11 cd11 ct11 oc12 kV12 dc12 pm12 cd12 ct12 oc13 kV13 dc13 pm13 cd13 ct13 oc14 kV14 dc14 pm14 cd14 ct14 oc15 kV15 dc15 pm15 cd15 ct15 oc16 kV16 dc16 pm16 cd16 ct16 oc17 kV17 dc17 pm17 cd17 ct17 oc18 kV18 dc18 pm18 cd18 ct18 oc19 kV19 dc19 pm19 cd19 ct19 oc20 kV20 dc20 pm20 cd20 ct20 oc21 kV21 dc21 pm21 cd21 ct21 oc22 kV22 dc22 pm22 cd22 ct22 oc23 kV23 dc23 pm23 cd23 ct23 oc24 kV24 dc24 pm24 cd24 ct24 oc25 kV25 dc25 pm25 cd25 ct25 oc26 kV26 dc26 pm26 cd26 ct26 oc27 kV27 dc27 pm27 cd27 ct27 oc28 kV28 dc28 pm28 cd28 ct28 oc29 kV29 dc29 pm29 cd29 ct29 oc30 kV30 dc30 pm30 cd30 ct30 oc31 kV31 dc31 pm31 cd31 ct31 oc32 kV32 dc32 pm32 cd32 ct32 oc33 kV33 dc33 pm33 cd33 ct33 oc34 kV34 dc34 pm34 cd34 ct34 oc35 kV35 dc35 pm35 cd35 ct35 oc36 kV36 dc36 pm36 cd36 ct36 oc37 kV37 dc37 pm37 cd37 ct37 oc38 kV38 dc38 pm38 cd38 ct38 oc39 kV39 dc39 pm39 cd39 ct39 oc40 kV40 dc40 pm40 cd40 ct40 oc41 kV41 dc41 pm41 cd41 ct41 oc42 kV42 dc42 pm42 cd42 ct42 oc43 kV43 dc43 pm43 cd43 ct43 oc44 kV44 dc44 pm44 cd44 ct44 oc45 kV45 dc45 pm45 cd45 ct45 oc46 kV46 dc46 pm46 cd46 ct46 ocm1 kVm1 dcm1 pmm1 cdm1 ctm1 ocm2 kVm2 dcm2 pmm2 cdm2 ctm2 ocm3 kVm3 dcm3 pmm3 cdm3 ctm3 ocm4 kVm4 dcm4 pmm4 cdm4 ctm4 ocm5 kVm5 dcm5 pmm5 cdm5 ctm5 ocm6 kVm6 dcm6 pmm6 cdm6 ctm6 ocm7 kVm7 dcm7 pmm7 cdm7 ctm7 ocm8 kVm8 dcm8 pmm8 cdm8 ctm8 oT : Value} {nT : Nat} {tT : Tok} {t_MOST_DIMENSION t_MOST_PLACES t_MOST_SIZE t_MOST_WORDS : Tok} {rem2 rem3 : List Value}
    (aC : PySem.W.nsIn K mainGlobals "Room" = some (some (.ref C)))
    (a1 : PySem.W.nsIn K mainGlobals "is_integer" = some (some (.ref f1)))
    (l1 : K.lookup f1 = some ⟨oc1, od1, .func (PySem.W.fnOf "is_integer" "is_integer" (defArgs s_is_integer) (defBody s_is_integer) (defScope s_is_integer) .none kV1 dc1 pm1 an1 cd1 ct1), sl1⟩)
    (c1 : PySem.W.codeIn K cd1 "is_integer" = true)
    (k1 : PySem.W.keepIn K (.ref f1) = true)
    (a2 : PySem.W.nsIn K mainGlobals "is_count" = some (some (.ref f2)))
    (l2 : K.lookup f2 = some ⟨oc2, od2, .func (PySem.W.fnOf "is_count" "is_count" (defArgs s_is_count) (defBody s_is_count) (defScope s_is_count) .none kV2 dc2 pm2 an2 cd2 ct2), sl2⟩)
    (c2 : PySem.W.codeIn K cd2 "is_count" = true)
    (k2 : PySem.W.keepIn K (.ref f2) = true)
    (a3 : PySem.W.nsIn K mainGlobals "is_list" = some (some (.ref f3)))
    (l3 : K.lookup f3 = some ⟨oc3, od3, .func (PySem.W.fnOf "is_list" "is_list" (defArgs s_is_list) (defBody s_is_list) (defScope s_is_list) .none kV3 dc3 pm3 an3 cd3 ct3), sl3⟩)
    (c3 : PySem.W.codeIn K cd3 "is_list" = true)
    (k3 : PySem.W.keepIn K (.ref f3) = true)
    (a4 : PySem.W.nsIn K mainGlobals "are_integers" = some (some (.ref f4)))
    (l4 : K.lookup f4 = some ⟨oc4, od4, .func (PySem.W.fnOf "are_integers" "are_integers" (defArgs s_are_integers) (defBody s_are_integers) (defScope s_are_integers) .none kV4 dc4 pm4 an4 cd4 ct4), sl4⟩)
    (c4 : PySem.W.codeIn K cd4 "are_integers" = true)
    (k4 : PySem.W.keepIn K (.ref f4) = true)
    (a5 : PySem.W.nsIn K mainGlobals "is_places" = some (some (.ref f5)))
    (l5 : K.lookup f5 = some ⟨oc5, od5, .func (PySem.W.fnOf "is_places" "is_places" (defArgs s_is_places) (defBody s_is_places) (defScope s_is_places) .none kV5 dc5 pm5 an5 cd5 ct5), sl5⟩)
    (c5 : PySem.W.codeIn K cd5 "is_places" = true)
    (k5 : PySem.W.keepIn K (.ref f5) = true)
    (a6 : PySem.W.nsIn K mainGlobals "check_places" = some (some (.ref f6)))
    (l6 : K.lookup f6 = some ⟨oc6, od6, .func (PySem.W.fnOf "check_places" "check_places" (defArgs s_check_places) (defBody s_check_places) (defScope s_check_places) .none kV6 dc6 pm6 an6 cd6 ct6), sl6⟩)
    (c6 : PySem.W.codeIn K cd6 "check_places" = true)
    (k6 : PySem.W.keepIn K (.ref f6) = true)
    (a7 : PySem.W.nsIn K mainGlobals "is_word" = some (some (.ref f7)))
    (l7 : K.lookup f7 = some ⟨oc7, od7, .func (PySem.W.fnOf "is_word" "is_word" (defArgs s_is_word) (defBody s_is_word) (defScope s_is_word) .none kV7 dc7 pm7 an7 cd7 ct7), sl7⟩)
    (c7 : PySem.W.codeIn K cd7 "is_word" = true)
    (k7 : PySem.W.keepIn K (.ref f7) = true)
    (a8 : PySem.W.nsIn K mainGlobals "check_word" = some (some (.ref f8)))
    (l8 : K.lookup f8 = some ⟨oc8, od8, .func (PySem.W.fnOf "check_word" "check_word" (defArgs s_check_word) (defBody s_check_word) (defScope s_check_word) (.ref T) kV8 dc8 pm8 an8 cd8 ct8), sl8⟩)
    (c8 : PySem.W.codeIn K cd8 "check_word" = true)
    (k8 : PySem.W.keepIn K (.ref f8) = true)
    (a9 : PySem.W.nsIn K mainGlobals "weight" = some (some (.ref f9)))
    (l9 : K.lookup f9 = some ⟨oc9, od9, .func (PySem.W.fnOf "weight" "weight" (defArgs s_weight) (defBody s_weight) (defScope s_weight) .none kV9 dc9 pm9 an9 cd9 ct9), sl9⟩)
    (c9 : PySem.W.codeIn K cd9 "weight" = true)
    (k9 : PySem.W.keepIn K (.ref f9) = true)
    (a10 : PySem.W.nsIn K mainGlobals "are_spots" = some (some (.ref f10)))
    (l10 : K.lookup f10 = some ⟨oc10, od10, .func (PySem.W.fnOf "are_spots" "are_spots" (defArgs s_are_spots) (defBody s_are_spots) (defScope s_are_spots) .none kV10 dc10 pm10 an10 cd10 ct10), sl10⟩)
    (c10 : PySem.W.codeIn K cd10 "are_spots" = true)
    (k10 : PySem.W.keepIn K (.ref f10) = true)
    (a11 : PySem.W.nsIn K mainGlobals "word_of" = some (some (.ref f11)))
    (l11 : K.lookup f11 = some ⟨oc11, od11, .func (PySem.W.fnOf "word_of" "word_of" (defArgs s_word_of) (defBody s_word_of) (defScope s_word_of) .none kV11 dc11 pm11 an11 cd11 ct11), sl11⟩)
    (c11 : PySem.W.codeIn K cd11 "word_of" = true)
    (k11 : PySem.W.keepIn K (.ref f11) = true)
    (a12 : PySem.W.nsIn K mainGlobals "highest" = some (some (.ref f12)))
    (l12 : K.lookup f12 = some ⟨oc12, od12, .func (PySem.W.fnOf "highest" "highest" (defArgs s_highest) (defBody s_highest) (defScope s_highest) .none kV12 dc12 pm12 an12 cd12 ct12), sl12⟩)
    (c12 : PySem.W.codeIn K cd12 "highest" = true)
    (k12 : PySem.W.keepIn K (.ref f12) = true)
    (a13 : PySem.W.nsIn K mainGlobals "rest_of" = some (some (.ref f13)))
    (l13 : K.lookup f13 = some ⟨oc13, od13, .func (PySem.W.fnOf "rest_of" "rest_of" (defArgs s_rest_of) (defBody s_rest_of) (defScope s_rest_of) .none kV13 dc13 pm13 an13 cd13 ct13), sl13⟩)
    (c13 : PySem.W.codeIn K cd13 "rest_of" = true)
    (k13 : PySem.W.keepIn K (.ref f13) = true)
    (a14 : PySem.W.nsIn K mainGlobals "put_in" = some (some (.ref f14)))
    (l14 : K.lookup f14 = some ⟨oc14, od14, .func (PySem.W.fnOf "put_in" "put_in" (defArgs s_put_in) (defBody s_put_in) (defScope s_put_in) .none kV14 dc14 pm14 an14 cd14 ct14), sl14⟩)
    (c14 : PySem.W.codeIn K cd14 "put_in" = true)
    (k14 : PySem.W.keepIn K (.ref f14) = true)
    (a15 : PySem.W.nsIn K mainGlobals "plain_basis" = some (some (.ref f15)))
    (l15 : K.lookup f15 = some ⟨oc15, od15, .func (PySem.W.fnOf "plain_basis" "plain_basis" (defArgs s_plain_basis) (defBody s_plain_basis) (defScope s_plain_basis) .none kV15 dc15 pm15 an15 cd15 ct15), sl15⟩)
    (c15 : PySem.W.codeIn K cd15 "plain_basis" = true)
    (k15 : PySem.W.keepIn K (.ref f15) = true)
    (a16 : PySem.W.nsIn K mainGlobals "sums_of" = some (some (.ref f16)))
    (l16 : K.lookup f16 = some ⟨oc16, od16, .func (PySem.W.fnOf "sums_of" "sums_of" (defArgs s_sums_of) (defBody s_sums_of) (defScope s_sums_of) .none kV16 dc16 pm16 an16 cd16 ct16), sl16⟩)
    (c16 : PySem.W.codeIn K cd16 "sums_of" = true)
    (k16 : PySem.W.keepIn K (.ref f16) = true)
    (a17 : PySem.W.nsIn K mainGlobals "check_words" = some (some (.ref f17)))
    (l17 : K.lookup f17 = some ⟨oc17, od17, .func (PySem.W.fnOf "check_words" "check_words" (defArgs s_check_words) (defBody s_check_words) (defScope s_check_words) .none kV17 dc17 pm17 an17 cd17 ct17), sl17⟩)
    (c17 : PySem.W.codeIn K cd17 "check_words" = true)
    (k17 : PySem.W.keepIn K (.ref f17) = true)
    (a18 : PySem.W.nsIn K mainGlobals "check_room" = some (some (.ref f18)))
    (l18 : K.lookup f18 = some ⟨oc18, od18, .func (PySem.W.fnOf "check_room" "check_room" (defArgs s_check_room) (defBody s_check_room) (defScope s_check_room) .none kV18 dc18 pm18 an18 cd18 ct18), sl18⟩)
    (c18 : PySem.W.codeIn K cd18 "check_room" = true)
    (k18 : PySem.W.keepIn K (.ref f18) = true)
    (a19 : PySem.W.nsIn K mainGlobals "multiplied" = some (some (.ref f19)))
    (l19 : K.lookup f19 = some ⟨oc19, od19, .func (PySem.W.fnOf "multiplied" "multiplied" (defArgs s_multiplied) (defBody s_multiplied) (defScope s_multiplied) .none kV19 dc19 pm19 an19 cd19 ct19), sl19⟩)
    (c19 : PySem.W.codeIn K cd19 "multiplied" = true)
    (k19 : PySem.W.keepIn K (.ref f19) = true)
    (a20 : PySem.W.nsIn K mainGlobals "added_up" = some (some (.ref f20)))
    (l20 : K.lookup f20 = some ⟨oc20, od20, .func (PySem.W.fnOf "added_up" "added_up" (defArgs s_added_up) (defBody s_added_up) (defScope s_added_up) .none kV20 dc20 pm20 an20 cd20 ct20), sl20⟩)
    (c20 : PySem.W.codeIn K cd20 "added_up" = true)
    (k20 : PySem.W.keepIn K (.ref f20) = true)
    (a21 : PySem.W.nsIn K mainGlobals "even_word" = some (some (.ref f21)))
    (l21 : K.lookup f21 = some ⟨oc21, od21, .func (PySem.W.fnOf "even_word" "even_word" (defArgs s_even_word) (defBody s_even_word) (defScope s_even_word) .none kV21 dc21 pm21 an21 cd21 ct21), sl21⟩)
    (c21 : PySem.W.codeIn K cd21 "even_word" = true)
    (k21 : PySem.W.keepIn K (.ref f21) = true)
    (a22 : PySem.W.nsIn K mainGlobals "contrary" = some (some (.ref f22)))
    (l22 : K.lookup f22 = some ⟨oc22, od22, .func (PySem.W.fnOf "contrary" "contrary" (defArgs s_contrary) (defBody s_contrary) (defScope s_contrary) .none kV22 dc22 pm22 an22 cd22 ct22), sl22⟩)
    (c22 : PySem.W.codeIn K cd22 "contrary" = true)
    (k22 : PySem.W.keepIn K (.ref f22) = true)
    (a23 : PySem.W.nsIn K mainGlobals "is_power_of_2" = some (some (.ref f23)))
    (l23 : K.lookup f23 = some ⟨oc23, od23, .func (PySem.W.fnOf "is_power_of_2" "is_power_of_2" (defArgs s_is_power_of_2) (defBody s_is_power_of_2) (defScope s_is_power_of_2) .none kV23 dc23 pm23 an23 cd23 ct23), sl23⟩)
    (c23 : PySem.W.codeIn K cd23 "is_power_of_2" = true)
    (k23 : PySem.W.keepIn K (.ref f23) = true)
    (a24 : PySem.W.nsIn K mainGlobals "is_row" = some (some (.ref f24)))
    (l24 : K.lookup f24 = some ⟨oc24, od24, .func (PySem.W.fnOf "is_row" "is_row" (defArgs s_is_row) (defBody s_is_row) (defScope s_is_row) .none kV24 dc24 pm24 an24 cd24 ct24), sl24⟩)
    (c24 : PySem.W.codeIn K cd24 "is_row" = true)
    (k24 : PySem.W.keepIn K (.ref f24) = true)
    (a25 : PySem.W.nsIn K mainGlobals "check_row" = some (some (.ref f25)))
    (l25 : K.lookup f25 = some ⟨oc25, od25, .func (PySem.W.fnOf "check_row" "check_row" (defArgs s_check_row) (defBody s_check_row) (defScope s_check_row) .none kV25 dc25 pm25 an25 cd25 ct25), sl25⟩)
    (c25 : PySem.W.codeIn K cd25 "check_row" = true)
    (k25 : PySem.W.keepIn K (.ref f25) = true)
    (a26 : PySem.W.nsIn K mainGlobals "entries" = some (some (.ref f26)))
    (l26 : K.lookup f26 = some ⟨oc26, od26, .func (PySem.W.fnOf "entries" "entries" (defArgs s_entries) (defBody s_entries) (defScope s_entries) .none kV26 dc26 pm26 an26 cd26 ct26), sl26⟩)
    (c26 : PySem.W.codeIn K cd26 "entries" = true)
    (k26 : PySem.W.keepIn K (.ref f26) = true)
    (a27 : PySem.W.nsIn K mainGlobals "changed_sums" = some (some (.ref f27)))
    (l27 : K.lookup f27 = some ⟨oc27, od27, .func (PySem.W.fnOf "changed_sums" "changed_sums" (defArgs s_changed_sums) (defBody s_changed_sums) (defScope s_changed_sums) .none kV27 dc27 pm27 an27 cd27 ct27), sl27⟩)
    (c27 : PySem.W.codeIn K cd27 "changed_sums" = true)
    (k27 : PySem.W.keepIn K (.ref f27) = true)
    (a28 : PySem.W.nsIn K mainGlobals "changed" = some (some (.ref f28)))
    (l28 : K.lookup f28 = some ⟨oc28, od28, .func (PySem.W.fnOf "changed" "changed" (defArgs s_changed) (defBody s_changed) (defScope s_changed) .none kV28 dc28 pm28 an28 cd28 ct28), sl28⟩)
    (c28 : PySem.W.codeIn K cd28 "changed" = true)
    (k28 : PySem.W.keepIn K (.ref f28) = true)
    (a29 : PySem.W.nsIn K mainGlobals "counted_weights" = some (some (.ref f29)))
    (l29 : K.lookup f29 = some ⟨oc29, od29, .func (PySem.W.fnOf "counted_weights" "counted_weights" (defArgs s_counted_weights) (defBody s_counted_weights) (defScope s_counted_weights) .none kV29 dc29 pm29 an29 cd29 ct29), sl29⟩)
    (c29 : PySem.W.codeIn K cd29 "counted_weights" = true)
    (k29 : PySem.W.keepIn K (.ref f29) = true)
    (a30 : PySem.W.nsIn K mainGlobals "counted" = some (some (.ref f30)))
    (l30 : K.lookup f30 = some ⟨oc30, od30, .func (PySem.W.fnOf "counted" "counted" (defArgs s_counted) (defBody s_counted) (defScope s_counted) .none kV30 dc30 pm30 an30 cd30 ct30), sl30⟩)
    (c30 : PySem.W.codeIn K cd30 "counted" = true)
    (k30 : PySem.W.keepIn K (.ref f30) = true)
    (a31 : PySem.W.nsIn K mainGlobals "row" = some (some (.ref f31)))
    (l31 : K.lookup f31 = some ⟨oc31, od31, .func (PySem.W.fnOf "row" "row" (defArgs s_row) (defBody s_row) (defScope s_row) .none kV31 dc31 pm31 an31 cd31 ct31), sl31⟩)
    (c31 : PySem.W.codeIn K cd31 "row" = true)
    (k31 : PySem.W.keepIn K (.ref f31) = true)
    (a32 : PySem.W.nsIn K mainGlobals "check_size" = some (some (.ref f32)))
    (l32 : K.lookup f32 = some ⟨oc32, od32, .func (PySem.W.fnOf "check_size" "check_size" (defArgs s_check_size) (defBody s_check_size) (defScope s_check_size) .none kV32 dc32 pm32 an32 cd32 ct32), sl32⟩)
    (c32 : PySem.W.codeIn K cd32 "check_size" = true)
    (k32 : PySem.W.keepIn K (.ref f32) = true)
    (a33 : PySem.W.nsIn K mainGlobals "square_ways" = some (some (.ref f33)))
    (l33 : K.lookup f33 = some ⟨oc33, od33, .func (PySem.W.fnOf "square_ways" "square_ways" (defArgs s_square_ways) (defBody s_square_ways) (defScope s_square_ways) .none kV33 dc33 pm33 an33 cd33 ct33), sl33⟩)
    (c33 : PySem.W.codeIn K cd33 "square_ways" = true)
    (k33 : PySem.W.keepIn K (.ref f33) = true)
    (a34 : PySem.W.nsIn K mainGlobals "powers_up_to" = some (some (.ref f34)))
    (l34 : K.lookup f34 = some ⟨oc34, od34, .func (PySem.W.fnOf "powers_up_to" "powers_up_to" (defArgs s_powers_up_to) (defBody s_powers_up_to) (defScope s_powers_up_to) .none kV34 dc34 pm34 an34 cd34 ct34), sl34⟩)
    (c34 : PySem.W.codeIn K cd34 "powers_up_to" = true)
    (k34 : PySem.W.keepIn K (.ref f34) = true)
    (a35 : PySem.W.nsIn K mainGlobals "counted_by" = some (some (.ref f35)))
    (l35 : K.lookup f35 = some ⟨oc35, od35, .func (PySem.W.fnOf "counted_by" "counted_by" (defArgs s_counted_by) (defBody s_counted_by) (defScope s_counted_by) .none kV35 dc35 pm35 an35 cd35 ct35), sl35⟩)
    (c35 : PySem.W.codeIn K cd35 "counted_by" = true)
    (k35 : PySem.W.keepIn K (.ref f35) = true)
    (a36 : PySem.W.nsIn K mainGlobals "vector_row" = some (some (.ref f36)))
    (l36 : K.lookup f36 = some ⟨oc36, od36, .func (PySem.W.fnOf "vector_row" "vector_row" (defArgs s_vector_row) (defBody s_vector_row) (defScope s_vector_row) .none kV36 dc36 pm36 an36 cd36 ct36), sl36⟩)
    (c36 : PySem.W.codeIn K cd36 "vector_row" = true)
    (k36 : PySem.W.keepIn K (.ref f36) = true)
    (a37 : PySem.W.nsIn K mainGlobals "vectors" = some (some (.ref f37)))
    (l37 : K.lookup f37 = some ⟨oc37, od37, .func (PySem.W.fnOf "vectors" "vectors" (defArgs s_vectors) (defBody s_vectors) (defScope s_vectors) .none kV37 dc37 pm37 an37 cd37 ct37), sl37⟩)
    (c37 : PySem.W.codeIn K cd37 "vectors" = true)
    (k37 : PySem.W.keepIn K (.ref f37) = true)
    (a38 : PySem.W.nsIn K mainGlobals "is_vector" = some (some (.ref f38)))
    (l38 : K.lookup f38 = some ⟨oc38, od38, .func (PySem.W.fnOf "is_vector" "is_vector" (defArgs s_is_vector) (defBody s_is_vector) (defScope s_is_vector) .none kV38 dc38 pm38 an38 cd38 ct38), sl38⟩)
    (c38 : PySem.W.codeIn K cd38 "is_vector" = true)
    (k38 : PySem.W.keepIn K (.ref f38) = true)
    (a39 : PySem.W.nsIn K mainGlobals "_law_pot" = some (some (.ref f39)))
    (l39 : K.lookup f39 = some ⟨oc39, od39, .func (PySem.W.fnOf "_law_pot" "_law_pot" (defArgs s_law_pot) (defBody s_law_pot) (defScope s_law_pot) .none kV39 dc39 pm39 an39 cd39 ct39), sl39⟩)
    (c39 : PySem.W.codeIn K cd39 "_law_pot" = true)
    (k39 : PySem.W.keepIn K (.ref f39) = true)
    (a40 : PySem.W.nsIn K mainGlobals "_law_draw" = some (some (.ref f40)))
    (l40 : K.lookup f40 = some ⟨oc40, od40, .func (PySem.W.fnOf "_law_draw" "_law_draw" (defArgs s_law_draw) (defBody s_law_draw) (defScope s_law_draw) .none kV40 dc40 pm40 an40 cd40 ct40), sl40⟩)
    (c40 : PySem.W.codeIn K cd40 "_law_draw" = true)
    (k40 : PySem.W.keepIn K (.ref f40) = true)
    (a41 : PySem.W.nsIn K mainGlobals "_law_pick" = some (some (.ref f41)))
    (l41 : K.lookup f41 = some ⟨oc41, od41, .func (PySem.W.fnOf "_law_pick" "_law_pick" (defArgs s_law_pick) (defBody s_law_pick) (defScope s_law_pick) .none kV41 dc41 pm41 an41 cd41 ct41), sl41⟩)
    (c41 : PySem.W.codeIn K cd41 "_law_pick" = true)
    (k41 : PySem.W.keepIn K (.ref f41) = true)
    (a42 : PySem.W.nsIn K mainGlobals "_law_span" = some (some (.ref f42)))
    (l42 : K.lookup f42 = some ⟨oc42, od42, .func (PySem.W.fnOf "_law_span" "_law_span" (defArgs s_law_span) (defBody s_law_span) (defScope s_law_span) .none kV42 dc42 pm42 an42 cd42 ct42), sl42⟩)
    (c42 : PySem.W.codeIn K cd42 "_law_span" = true)
    (k42 : PySem.W.keepIn K (.ref f42) = true)
    (a43 : PySem.W.nsIn K mainGlobals "_law_lists" = some (some (.ref f43)))
    (l43 : K.lookup f43 = some ⟨oc43, od43, .func (PySem.W.fnOf "_law_lists" "_law_lists" (defArgs s_law_lists) (defBody s_law_lists) (defScope s_law_lists) .none kV43 dc43 pm43 an43 cd43 ct43), sl43⟩)
    (c43 : PySem.W.codeIn K cd43 "_law_lists" = true)
    (k43 : PySem.W.keepIn K (.ref f43) = true)
    (a44 : PySem.W.nsIn K mainGlobals "_law_odd_word" = some (some (.ref f44)))
    (l44 : K.lookup f44 = some ⟨oc44, od44, .func (PySem.W.fnOf "_law_odd_word" "_law_odd_word" (defArgs s_law_odd_word) (defBody s_law_odd_word) (defScope s_law_odd_word) .none kV44 dc44 pm44 an44 cd44 ct44), sl44⟩)
    (c44 : PySem.W.codeIn K cd44 "_law_odd_word" = true)
    (k44 : PySem.W.keepIn K (.ref f44) = true)
    (a45 : PySem.W.nsIn K mainGlobals "_law_right" = some (some (.ref f45)))
    (l45 : K.lookup f45 = some ⟨oc45, od45, .func (PySem.W.fnOf "_law_right" "_law_right" (defArgs s_law_right) (defBody s_law_right) (defScope s_law_right) .none kV45 dc45 pm45 an45 cd45 ct45), sl45⟩)
    (c45 : PySem.W.codeIn K cd45 "_law_right" = true)
    (k45 : PySem.W.keepIn K (.ref f45) = true)
    (a46 : PySem.W.nsIn K mainGlobals "law" = some (some (.ref f46)))
    (l46 : K.lookup f46 = some ⟨oc46, od46, .func (PySem.W.fnOf "law" "law" (defArgs s_law) (defBody s_law) (defScope s_law) .none kV46 dc46 pm46 an46 cd46 ct46), sl46⟩)
    (c46 : PySem.W.codeIn K cd46 "law" = true)
    (k46 : PySem.W.keepIn K (.ref f46) = true)
    (am1 : PySem.W.findIn K (.ref C) "__init__" = some (some (.ref fm1)))
    (im1 : PySem.W.isFn K (.ref fm1) = true)
    (lm1 : K.lookup fm1 = some ⟨ocm1, odm1, .func (PySem.W.fnOf "__init__" "Room.__init__" (defArgs s_Room___init__) (defBody s_Room___init__) (defScope s_Room___init__) .none kVm1 dcm1 pmm1 anm1 cdm1 ctm1), slm1⟩)
    (cm1 : PySem.W.codeIn K cdm1 "Room.__init__" = true)
    (km1 : PySem.W.keepIn K (.ref fm1) = true)
    (am2 : PySem.W.findIn K (.ref C) "places" = some (some (.ref prm2)))
    (gm2 : PySem.W.specialIn K (.ref prm2) "__get__" = some (some (.builtin "property.__get__")))
    (um2 : PySem.W.takesIn K (.ref prm2) = some true)
    (rm2 : PySem.W.recIn K prm2 "property" = some (.ref fm2 :: rem2))
    (lm2 : K.lookup fm2 = some ⟨ocm2, odm2, .func (PySem.W.fnOf "places" "Room.places" (defArgs s_Room_places) (defBody s_Room_places) (defScope s_Room_places) .none kVm2 dcm2 pmm2 anm2 cdm2 ctm2), slm2⟩)
    (cm2 : PySem.W.codeIn K cdm2 "Room.places" = true)
    (km2 : PySem.W.keepIn K (.ref fm2) = true)
    (am3 : PySem.W.findIn K (.ref C) "dimension" = some (some (.ref prm3)))
    (gm3 : PySem.W.specialIn K (.ref prm3) "__get__" = some (some (.builtin "property.__get__")))
    (um3 : PySem.W.takesIn K (.ref prm3) = some true)
    (rm3 : PySem.W.recIn K prm3 "property" = some (.ref fm3 :: rem3))
    (lm3 : K.lookup fm3 = some ⟨ocm3, odm3, .func (PySem.W.fnOf "dimension" "Room.dimension" (defArgs s_Room_dimension) (defBody s_Room_dimension) (defScope s_Room_dimension) .none kVm3 dcm3 pmm3 anm3 cdm3 ctm3), slm3⟩)
    (cm3 : PySem.W.codeIn K cdm3 "Room.dimension" = true)
    (km3 : PySem.W.keepIn K (.ref fm3) = true)
    (am4 : PySem.W.findIn K (.ref C) "basis" = some (some (.ref fm4)))
    (im4 : PySem.W.isFn K (.ref fm4) = true)
    (lm4 : K.lookup fm4 = some ⟨ocm4, odm4, .func (PySem.W.fnOf "basis" "Room.basis" (defArgs s_Room_basis) (defBody s_Room_basis) (defScope s_Room_basis) .none kVm4 dcm4 pmm4 anm4 cdm4 ctm4), slm4⟩)
    (cm4 : PySem.W.codeIn K cdm4 "Room.basis" = true)
    (km4 : PySem.W.keepIn K (.ref fm4) = true)
    (am5 : PySem.W.findIn K (.ref C) "has" = some (some (.ref fm5)))
    (im5 : PySem.W.isFn K (.ref fm5) = true)
    (lm5 : K.lookup fm5 = some ⟨ocm5, odm5, .func (PySem.W.fnOf "has" "Room.has" (defArgs s_Room_has) (defBody s_Room_has) (defScope s_Room_has) .none kVm5 dcm5 pmm5 anm5 cdm5 ctm5), slm5⟩)
    (cm5 : PySem.W.codeIn K cdm5 "Room.has" = true)
    (km5 : PySem.W.keepIn K (.ref fm5) = true)
    (am6 : PySem.W.findIn K (.ref C) "words" = some (some (.ref fm6)))
    (im6 : PySem.W.isFn K (.ref fm6) = true)
    (lm6 : K.lookup fm6 = some ⟨ocm6, odm6, .func (PySem.W.fnOf "words" "Room.words" (defArgs s_Room_words) (defBody s_Room_words) (defScope s_Room_words) .none kVm6 dcm6 pmm6 anm6 cdm6 ctm6), slm6⟩)
    (cm6 : PySem.W.codeIn K cdm6 "Room.words" = true)
    (km6 : PySem.W.keepIn K (.ref fm6) = true)
    (am7 : PySem.W.findIn K (.ref C) "__eq__" = some (some (.ref fm7)))
    (im7 : PySem.W.isFn K (.ref fm7) = true)
    (lm7 : K.lookup fm7 = some ⟨ocm7, odm7, .func (PySem.W.fnOf "__eq__" "Room.__eq__" (defArgs s_Room___eq__) (defBody s_Room___eq__) (defScope s_Room___eq__) .none kVm7 dcm7 pmm7 anm7 cdm7 ctm7), slm7⟩)
    (cm7 : PySem.W.codeIn K cdm7 "Room.__eq__" = true)
    (km7 : PySem.W.keepIn K (.ref fm7) = true)
    (am8 : PySem.W.findIn K (.ref C) "__repr__" = some (some (.ref fm8)))
    (im8 : PySem.W.isFn K (.ref fm8) = true)
    (lm8 : K.lookup fm8 = some ⟨ocm8, odm8, .func (PySem.W.fnOf "__repr__" "Room.__repr__" (defArgs s_Room___repr__) (defBody s_Room___repr__) (defScope s_Room___repr__) .none kVm8 dcm8 pmm8 anm8 cdm8 ctm8), slm8⟩)
    (cm8 : PySem.W.codeIn K cdm8 "Room.__repr__" = true)
    (km8 : PySem.W.keepIn K (.ref fm8) = true)
    (lT : K.lookup T = some ⟨oT, dT, .seq [Value.int 24 tT].toArray nT, sT⟩)
    (v_MOST_DIMENSION : PySem.W.nsIn K mainGlobals "MOST_DIMENSION" = some (some (.int 8 t_MOST_DIMENSION)))
    (v_MOST_PLACES : PySem.W.nsIn K mainGlobals "MOST_PLACES" = some (some (.int 24 t_MOST_PLACES)))
    (v_MOST_SIZE : PySem.W.nsIn K mainGlobals "MOST_SIZE" = some (some (.int 24 t_MOST_SIZE)))
    (v_MOST_WORDS : PySem.W.nsIn K mainGlobals "MOST_WORDS" = some (some (.int 48 t_MOST_WORDS)))
    (z_abs : PySem.W.nsIn K mainGlobals "abs" = some none)
    (z_all : PySem.W.nsIn K mainGlobals "all" = some none)
    (z_bool : PySem.W.nsIn K mainGlobals "bool" = some none)
    (z_divmod : PySem.W.nsIn K mainGlobals "divmod" = some none)
    (z_enumerate : PySem.W.nsIn K mainGlobals "enumerate" = some none)
    (z_int : PySem.W.nsIn K mainGlobals "int" = some none)
    (z_isinstance : PySem.W.nsIn K mainGlobals "isinstance" = some none)
    (z_len : PySem.W.nsIn K mainGlobals "len" = some none)
    (z_list : PySem.W.nsIn K mainGlobals "list" = some none)
    (z_max : PySem.W.nsIn K mainGlobals "max" = some none)
    (z_range : PySem.W.nsIn K mainGlobals "range" = some none)
    (z_repr : PySem.W.nsIn K mainGlobals "repr" = some none)
    (z_set : PySem.W.nsIn K mainGlobals "set" = some none)
    (z_sorted : PySem.W.nsIn K mainGlobals "sorted" = some none)
    (z_sum : PySem.W.nsIn K mainGlobals "sum" = some none)
    (z_tuple : PySem.W.nsIn K mainGlobals "tuple" = some none)
    (z_zip : PySem.W.nsIn K mainGlobals "zip" = some none)
    (pg : PySem.W.plainGet K C Str.empty = true)
    (hd : PySem.W.hasDictIn K C = true)
    (po : PySem.W.plainOver K C = true)
    (sa : PySem.W.findIn K (.ref C) "__setattr__" = some (some (.builtin "object.__setattr__")))
    (mk : PySem.W.makesIn K C = true)
    (kc : PySem.W.keepIn K (.ref C) = true)
    (nP : PySem.W.findIn K (.ref C) "_places" = some none)
    (nB : PySem.W.findIn K (.ref C) "_basis" = some none)
    (ca : PySem.W.findIn K (.ref C) "__class__" = some (some (.builtin "object.__class__")))
    (cn : PySem.W.specialIn K (.builtin "object.__class__") "__get__" = some (some (.builtin "getset_descriptor.__get__")))
    (ct : PySem.W.takesIn K (.builtin "object.__class__") = some true)
    (cm : PySem.W.mroIn K C (.type "object") = some true)
    (ne : PySem.W.findIn K (.ref C) "__ne__" = some (some (.builtin "object.__ne__")))
    : ∃ fd : FuncData, (∀ (s : Shared) (v : Value), BindsTo s fd ⟨[v], []⟩ [("_law_script", v)]) ∧ ∀ base : Heap, K.In base → base.Ns mainGlobals mg → GnOk l.prog w K mg base 12 fa fd ["_law_script"] (sp_law K) := by
  have e := hfa.symm.trans (PySem.W.mg_of X G a46)
  cases e
  have F1 := fun_mk (st := s_is_integer) l1 c1 k1
  have b1 := F1.binds (ps := ["value"]) fun _ _ _ _ _ _ us hl => match us, hl with | [_], _ => rfl
  have g1 := PySem.W.mg_of X G a1
  have F2 := fun_mk (st := s_is_count) l2 c2 k2
  have b2 := F2.binds (ps := ["value"]) fun _ _ _ _ _ _ us hl => match us, hl with | [_], _ => rfl
  have g2 := PySem.W.mg_of X G a2
  have F3 := fun_mk (st := s_is_list) l3 c3 k3
  have b3 := F3.binds (ps := ["value"]) fun _ _ _ _ _ _ us hl => match us, hl with | [_], _ => rfl
  have g3 := PySem.W.mg_of X G a3
  have F4 := fun_mk (st := s_are_integers) l4 c4 k4
  have b4 := F4.binds (ps := ["value"]) fun _ _ _ _ _ _ us hl => match us, hl with | [_], _ => rfl
  have g4 := PySem.W.mg_of X G a4
  have F5 := fun_mk (st := s_is_places) l5 c5 k5
  have b5 := F5.binds (ps := ["value"]) fun _ _ _ _ _ _ us hl => match us, hl with | [_], _ => rfl
  have g5 := PySem.W.mg_of X G a5
  have F6 := fun_mk (st := s_check_places) l6 c6 k6
  have b6 := F6.binds (ps := ["places"]) fun _ _ _ _ _ _ us hl => match us, hl with | [_], _ => rfl
  have g6 := PySem.W.mg_of X G a6
  have F7 := fun_mk (st := s_is_word) l7 c7 k7
  have b7 := F7.binds (ps := ["places", "value"]) fun _ _ _ _ _ _ us hl => match us, hl with | [_, _], _ => rfl
  have g7 := PySem.W.mg_of X G a7
  have F8 : FunD K "check_word" "check_word" (defArgs s_check_word) (defBody s_check_word) (defScope s_check_word) [.int 24] [] f8 _ := ⟨⟨_, _, _, _, _, _, _, _, _, _, rfl, l8, c8, .inr ⟨by simp, T, _, _, _, rfl, lT, rfl, .cons ⟨_, rfl⟩ .nil⟩, .inl rfl⟩, k8⟩
  obtain ⟨ds8, hv8, b8⟩ := F8.binds1 (ps := ["word", "places"]) 2 1 (by simp) rfl fun _ _ _ _ _ _ _ us its h1 h2 => match us, its, h1, h2 with | [_, _], [_], _, _ => ⟨_, rfl, rfl⟩
  obtain ⟨es8, hw8, c1b8⟩ := F8.binds1 (ps := ["word", "places"]) 1 0 (by simp) rfl fun _ _ _ _ _ _ _ us its h1 h2 => match us, its, h1, h2 with | [_], [_], _, _ => ⟨_, rfl, rfl⟩
  have g8 := PySem.W.mg_of X G a8
  have F9 := fun_mk (st := s_weight) l9 c9 k9
  have b9 := F9.binds (ps := ["word"]) fun _ _ _ _ _ _ us hl => match us, hl with | [_], _ => rfl
  have g9 := PySem.W.mg_of X G a9
  have F10 := fun_mk (st := s_are_spots) l10 c10 k10
  have b10 := F10.binds (ps := ["places", "value"]) fun _ _ _ _ _ _ us hl => match us, hl with | [_, _], _ => rfl
  have g10 := PySem.W.mg_of X G a10
  have F11 := fun_mk (st := s_word_of) l11 c11 k11
  have b11 := F11.binds (ps := ["spots"]) fun _ _ _ _ _ _ us hl => match us, hl with | [_], _ => rfl
  have g11 := PySem.W.mg_of X G a11
  have F12 := fun_mk (st := s_highest) l12 c12 k12
  have b12 := F12.binds (ps := ["word"]) fun _ _ _ _ _ _ us hl => match us, hl with | [_], _ => rfl
  have g12 := PySem.W.mg_of X G a12
  have F13 := fun_mk (st := s_rest_of) l13 c13 k13
  have b13 := F13.binds (ps := ["word", "basis"]) fun _ _ _ _ _ _ us hl => match us, hl with | [_, _], _ => rfl
  have g13 := PySem.W.mg_of X G a13
  have F14 := fun_mk (st := s_put_in) l14 c14 k14
  have b14 := F14.binds (ps := ["rest", "basis"]) fun _ _ _ _ _ _ us hl => match us, hl with | [_, _], _ => rfl
  have g14 := PySem.W.mg_of X G a14
  have F15 := fun_mk (st := s_plain_basis) l15 c15 k15
  have b15 := F15.binds (ps := ["words"]) fun _ _ _ _ _ _ us hl => match us, hl with | [_], _ => rfl
  have g15 := PySem.W.mg_of X G a15
  have F16 := fun_mk (st := s_sums_of) l16 c16 k16
  have b16 := F16.binds (ps := ["basis"]) fun _ _ _ _ _ _ us hl => match us, hl with | [_], _ => rfl
  have g16 := PySem.W.mg_of X G a16
  have F17 := fun_mk (st := s_check_words) l17 c17 k17
  have b17 := F17.binds (ps := ["places", "words"]) fun _ _ _ _ _ _ us hl => match us, hl with | [_, _], _ => rfl
  have g17 := PySem.W.mg_of X G a17
  have F18 := fun_mk (st := s_check_room) l18 c18 k18
  have b18 := F18.binds (ps := ["room"]) fun _ _ _ _ _ _ us hl => match us, hl with | [_], _ => rfl
  have g18 := PySem.W.mg_of X G a18
  have F19 := fun_mk (st := s_multiplied) l19 c19 k19
  have b19 := F19.binds (ps := ["polynomial", "other"]) fun _ _ _ _ _ _ us hl => match us, hl with | [_, _], _ => rfl
  have g19 := PySem.W.mg_of X G a19
  have F20 := fun_mk (st := s_added_up) l20 c20 k20
  have b20 := F20.binds (ps := ["terms", "factors"]) fun _ _ _ _ _ _ us hl => match us, hl with | [_, _], _ => rfl
  have g20 := PySem.W.mg_of X G a20
  have F21 := fun_mk (st := s_even_word) l21 c21 k21
  have b21 := F21.binds (ps := ["unit", "basis"]) fun _ _ _ _ _ _ us hl => match us, hl with | [_, _], _ => rfl
  have g21 := PySem.W.mg_of X G a21
  have F22 := fun_mk (st := s_contrary) l22 c22 k22
  have b22 := F22.binds (ps := ["room"]) fun _ _ _ _ _ _ us hl => match us, hl with | [_], _ => rfl
  have g22 := PySem.W.mg_of X G a22
  have F23 := fun_mk (st := s_is_power_of_2) l23 c23 k23
  have b23 := F23.binds (ps := ["number"]) fun _ _ _ _ _ _ us hl => match us, hl with | [_], _ => rfl
  have g23 := PySem.W.mg_of X G a23
  have F24 := fun_mk (st := s_is_row) l24 c24 k24
  have b24 := F24.binds (ps := ["value"]) fun _ _ _ _ _ _ us hl => match us, hl with | [_], _ => rfl
  have g24 := PySem.W.mg_of X G a24
  have F25 := fun_mk (st := s_check_row) l25 c25 k25
  have b25 := F25.binds (ps := ["row"]) fun _ _ _ _ _ _ us hl => match us, hl with | [_], _ => rfl
  have g25 := PySem.W.mg_of X G a25
  have F26 := fun_mk (st := s_entries) l26 c26 k26
  have b26 := F26.binds (ps := ["places", "second"]) fun _ _ _ _ _ _ us hl => match us, hl with | [_, _], _ => rfl
  have g26 := PySem.W.mg_of X G a26
  have F27 := fun_mk (st := s_changed_sums) l27 c27 k27
  have b27 := F27.binds (ps := ["row"]) fun _ _ _ _ _ _ us hl => match us, hl with | [_], _ => rfl
  have g27 := PySem.W.mg_of X G a27
  have F28 := fun_mk (st := s_changed) l28 c28 k28
  have b28 := F28.binds (ps := ["row"]) fun _ _ _ _ _ _ us hl => match us, hl with | [_], _ => rfl
  have g28 := PySem.W.mg_of X G a28
  have F29 := fun_mk (st := s_counted_weights) l29 c29 k29
  have b29 := F29.binds (ps := ["places", "words"]) fun _ _ _ _ _ _ us hl => match us, hl with | [_, _], _ => rfl
  have g29 := PySem.W.mg_of X G a29
  have F30 := fun_mk (st := s_counted) l30 c30 k30
  have b30 := F30.binds (ps := ["room"]) fun _ _ _ _ _ _ us hl => match us, hl with | [_], _ => rfl
  have g30 := PySem.W.mg_of X G a30
  have F31 := fun_mk (st := s_row) l31 c31 k31
  have b31 := F31.binds (ps := ["room"]) fun _ _ _ _ _ _ us hl => match us, hl with | [_], _ => rfl
  have g31 := PySem.W.mg_of X G a31
  have F32 := fun_mk (st := s_check_size) l32 c32 k32
  have b32 := F32.binds (ps := ["size"]) fun _ _ _ _ _ _ us hl => match us, hl with | [_], _ => rfl
  have g32 := PySem.W.mg_of X G a32
  have F33 := fun_mk (st := s_square_ways) l33 c33 k33
  have b33 := F33.binds (ps := ["first", "most"]) fun _ _ _ _ _ _ us hl => match us, hl with | [_, _], _ => rfl
  have g33 := PySem.W.mg_of X G a33
  have F34 := fun_mk (st := s_powers_up_to) l34 c34 k34
  have b34 := F34.binds (ps := ["ways", "many", "most"]) fun _ _ _ _ _ _ us hl => match us, hl with | [_, _, _], _ => rfl
  have g34 := PySem.W.mg_of X G a34
  have F35 := fun_mk (st := s_counted_by) l35 c35 k35
  have b35 := F35.binds (ps := ["numbers", "most"]) fun _ _ _ _ _ _ us hl => match us, hl with | [_, _], _ => rfl
  have g35 := PySem.W.mg_of X G a35
  have F36 := fun_mk (st := s_vector_row) l36 c36 k36
  have b36 := F36.binds (ps := ["room", "most"]) fun _ _ _ _ _ _ us hl => match us, hl with | [_, _], _ => rfl
  have g36 := PySem.W.mg_of X G a36
  have F37 := fun_mk (st := s_vectors) l37 c37 k37
  have b37 := F37.binds (ps := ["room", "size"]) fun _ _ _ _ _ _ us hl => match us, hl with | [_, _], _ => rfl
  have g37 := PySem.W.mg_of X G a37
  have F38 := fun_mk (st := s_is_vector) l38 c38 k38
  have b38 := F38.binds (ps := ["room", "value"]) fun _ _ _ _ _ _ us hl => match us, hl with | [_, _], _ => rfl
  have g38 := PySem.W.mg_of X G a38
  have F39 := fun_mk (st := s_law_pot) l39 c39 k39
  have b39 := F39.binds (ps := ["_law_script", "_law_k"]) fun _ _ _ _ _ _ us hl => match us, hl with | [_, _], _ => rfl
  have g39 := PySem.W.mg_of X G a39
  have F40 := fun_mk (st := s_law_draw) l40 c40 k40
  have b40 := F40.binds (ps := ["_law_pot_here", "_law_size"]) fun _ _ _ _ _ _ us hl => match us, hl with | [_, _], _ => rfl
  have g40 := PySem.W.mg_of X G a40
  have F41 := fun_mk (st := s_law_pick) l41 c41 k41
  have b41 := F41.binds (ps := ["_law_pot_here", "_law_some"]) fun _ _ _ _ _ _ us hl => match us, hl with | [_, _], _ => rfl
  have g41 := PySem.W.mg_of X G a41
  have F42 := fun_mk (st := s_law_span) l42 c42 k42
  have b42 := F42.binds (ps := ["_law_words"]) fun _ _ _ _ _ _ us hl => match us, hl with | [_], _ => rfl
  have g42 := PySem.W.mg_of X G a42
  have F43 := fun_mk (st := s_law_lists) l43 c43 k43
  have b43 := F43.binds (ps := ["_law_places"]) fun _ _ _ _ _ _ us hl => match us, hl with | [_], _ => rfl
  have g43 := PySem.W.mg_of X G a43
  have F44 := fun_mk (st := s_law_odd_word) l44 c44 k44
  have b44 := F44.binds (ps := ["_law_row"]) fun _ _ _ _ _ _ us hl => match us, hl with | [_], _ => rfl
  have g44 := PySem.W.mg_of X G a44
  have F45 := fun_mk (st := s_law_right) l45 c45 k45
  have b45 := F45.binds (ps := ["_law_pot_here"]) fun _ _ _ _ _ _ us hl => match us, hl with | [_], _ => rfl
  have g45 := PySem.W.mg_of X G a45
  have F46 := fun_mk (st := s_law) l46 c46 k46
  have b46 := F46.binds (ps := ["_law_script"]) fun _ _ _ _ _ _ us hl => match us, hl with | [_], _ => rfl
  have g46 := PySem.W.mg_of X G a46
  have Fm1 := fun_mk (st := s_Room___init__) lm1 cm1 km1
  have bm1 := Fm1.binds (ps := ["self", "places", "words"]) fun _ _ _ _ _ _ us hl => match us, hl with | [_, _, _], _ => rfl
  have Fm2 := fun_mk (st := s_Room_places) lm2 cm2 km2
  have bm2 := Fm2.binds (ps := ["self"]) fun _ _ _ _ _ _ us hl => match us, hl with | [_], _ => rfl
  have Fm3 := fun_mk (st := s_Room_dimension) lm3 cm3 km3
  have bm3 := Fm3.binds (ps := ["self"]) fun _ _ _ _ _ _ us hl => match us, hl with | [_], _ => rfl
  have Fm4 := fun_mk (st := s_Room_basis) lm4 cm4 km4
  have bm4 := Fm4.binds (ps := ["self"]) fun _ _ _ _ _ _ us hl => match us, hl with | [_], _ => rfl
  have Fm5 := fun_mk (st := s_Room_has) lm5 cm5 km5
  have bm5 := Fm5.binds (ps := ["self", "word"]) fun _ _ _ _ _ _ us hl => match us, hl with | [_, _], _ => rfl
  have Fm6 := fun_mk (st := s_Room_words) lm6 cm6 km6
  have bm6 := Fm6.binds (ps := ["self"]) fun _ _ _ _ _ _ us hl => match us, hl with | [_], _ => rfl
  have Fm7 := fun_mk (st := s_Room___eq__) lm7 cm7 km7
  have bm7 := Fm7.binds (ps := ["self", "other"]) fun _ _ _ _ _ _ us hl => match us, hl with | [_, _], _ => rfl
  have Fm8 := fun_mk (st := s_Room___repr__) lm8 cm8 km8
  have bm8 := Fm8.binds (ps := ["self"]) fun _ _ _ _ _ _ us hl => match us, hl with | [_], _ => rfl
  have m_abs := PySem.W.mg_none_of X G z_abs
  have m_all := PySem.W.mg_none_of X G z_all
  have m_bool := PySem.W.mg_none_of X G z_bool
  have m_divmod := PySem.W.mg_none_of X G z_divmod
  have m_enumerate := PySem.W.mg_none_of X G z_enumerate
  have m_int := PySem.W.mg_none_of X G z_int
  have m_isinstance := PySem.W.mg_none_of X G z_isinstance
  have m_len := PySem.W.mg_none_of X G z_len
  have m_list := PySem.W.mg_none_of X G z_list
  have m_max := PySem.W.mg_none_of X G z_max
  have m_range := PySem.W.mg_none_of X G z_range
  have m_repr := PySem.W.mg_none_of X G z_repr
  have m_set := PySem.W.mg_none_of X G z_set
  have m_sorted := PySem.W.mg_none_of X G z_sorted
  have m_sum := PySem.W.mg_none_of X G z_sum
  have m_tuple := PySem.W.mg_none_of X G z_tuple
  have m_zip := PySem.W.mg_none_of X G z_zip
  have g_MOST_DIMENSION := PySem.W.mg_of X G v_MOST_DIMENSION
  have g_MOST_PLACES := PySem.W.mg_of X G v_MOST_PLACES
  have g_MOST_SIZE := PySem.W.mg_of X G v_MOST_SIZE
  have g_MOST_WORDS := PySem.W.mg_of X G v_MOST_WORDS
  have g_Room := PySem.W.mg_of X G aC
  have RK : RKn K C := ⟨⟨pg, hd, po, sa⟩, nP, nB, ca, cn, ct, cm⟩
  have n_basis : ∀ n b, (rf n b).lookup ("basis" : Str) = none := fun n b => rf_no n b (by decide +kernel) (by decide +kernel)
  have n_words : ∀ n b, (rf n b).lookup ("words" : Str) = none := fun n b => rf_no n b (by decide +kernel) (by decide +kernel)
  have n_has : ∀ n b, (rf n b).lookup ("has" : Str) = none := fun n b => rf_no n b (by decide +kernel) (by decide +kernel)
  refine ⟨PySem.W.fnOf "law" "law" (defArgs s_law) (defBody s_law) (defScope s_law) .none kV46 dc46 pm46 an46 cd46 ct46, fun s v => .of_eq rfl, fun base _ _ => ?_⟩
  have O_is_integer := ok_is_integer (P := l.prog) (w := w) (mg := mg) (base := base) F1 m_isinstance m_int m_bool
  have C_is_integer : Cal l.prog w K mg base "is_integer" 1 ["value"] [] sp_is_integer := ⟨f1, _, [], O_is_integer, g1, k1, b1, .nil⟩
  have O_is_count := ok_is_count (P := l.prog) (w := w) (mg := mg) (base := base) F2 C_is_integer
  have C_is_count : Cal l.prog w K mg base "is_count" 2 ["value"] [] sp_is_count := ⟨f2, _, [], O_is_count, g2, k2, b2, .nil⟩
  have O_is_list := ok_is_list (P := l.prog) (w := w) (mg := mg) (base := base) F3 m_isinstance m_list m_tuple
  have C_is_list : Cal l.prog w K mg base "is_list" 1 ["value"] [] sp_is_list := ⟨f3, _, [], O_is_list, g3, k3, b3, .nil⟩
  have O_are_integers := ok_are_integers (P := l.prog) (w := w) (mg := mg) (base := base) F4 C_is_integer C_is_list m_all
  have C_are_integers : Cal l.prog w K mg base "are_integers" 2 ["value"] [] sp_are_integers := ⟨f4, _, [], O_are_integers, g4, k4, b4, .nil⟩
  have O_is_places := ok_is_places (P := l.prog) (w := w) (mg := mg) (base := base) F5 C_is_integer g_MOST_PLACES
  have C_is_places : Cal l.prog w K mg base "is_places" 2 ["value"] [] sp_is_places := ⟨f5, _, [], O_is_places, g5, k5, b5, .nil⟩
  have O_check_places := ok_check_places (P := l.prog) (w := w) (mg := mg) (base := base) F6 C_is_places
  have C_check_places : Cal l.prog w K mg base "check_places" 3 ["places"] [] sp_check_places := ⟨f6, _, [], O_check_places, g6, k6, b6, .nil⟩
  have O_is_word := ok_is_word (P := l.prog) (w := w) (mg := mg) (base := base) F7 C_check_places C_is_count
  have C_is_word : Cal l.prog w K mg base "is_word" 4 ["places", "value"] [] sp_is_word := ⟨f7, _, [], O_is_word, g7, k7, b7, .nil⟩
  have O_check_word := ok_check_word (P := l.prog) (w := w) (mg := mg) (base := base) F8 C_is_word
  have C_check_word : Cal l.prog w K mg base "check_word" 5 ["word", "places"] [] sp_check_word := ⟨f8, _, ds8, O_check_word, g8, k8, b8, hv8⟩
  have C1_check_word : Cal l.prog w K mg base "check_word" 5 ["word", "places"] [.int 24] sp_check_word := ⟨f8, _, es8, O_check_word, g8, k8, c1b8, hw8⟩
  have O_weight := ok_weight (P := l.prog) (w := w) (mg := mg) (base := base) F9 C1_check_word
  have C_weight : Cal l.prog w K mg base "weight" 6 ["word"] [] sp_weight := ⟨f9, _, [], O_weight, g9, k9, b9, .nil⟩
  have O_are_spots := ok_are_spots (P := l.prog) (w := w) (mg := mg) (base := base) F10 C_is_list C_is_count m_all m_len m_set
  have C_are_spots : Cal l.prog w K mg base "are_spots" 3 ["places", "value"] [] sp_are_spots := ⟨f10, _, [], O_are_spots, g10, k10, b10, .nil⟩
  have O_word_of := ok_word_of (P := l.prog) (w := w) (mg := mg) (base := base) F11 C_are_spots g_MOST_PLACES m_sum
  have C_word_of : Cal l.prog w K mg base "word_of" 4 ["spots"] [] sp_word_of := ⟨f11, _, [], O_word_of, g11, k11, b11, .nil⟩
  have O_highest := ok_highest (P := l.prog) (w := w) (mg := mg) (base := base) F12
  have C_highest : Cal l.prog w K mg base "highest" 1 ["word"] [] sp_highest := ⟨f12, _, [], O_highest, g12, k12, b12, .nil⟩
  have O_rest_of := ok_rest_of (P := l.prog) (w := w) (mg := mg) (base := base) F13 C_highest
  have C_rest_of : Cal l.prog w K mg base "rest_of" 2 ["word", "basis"] [] sp_rest_of := ⟨f13, _, [], O_rest_of, g13, k13, b13, .nil⟩
  have O_put_in := ok_put_in (P := l.prog) (w := w) (mg := mg) (base := base) F14 C_highest m_sorted
  have C_put_in : Cal l.prog w K mg base "put_in" 2 ["rest", "basis"] [] sp_put_in := ⟨f14, _, [], O_put_in, g14, k14, b14, .nil⟩
  have O_plain_basis := ok_plain_basis (P := l.prog) (w := w) (mg := mg) (base := base) F15 C_rest_of C_put_in
  have C_plain_basis : Cal l.prog w K mg base "plain_basis" 3 ["words"] [] sp_plain_basis := ⟨f15, _, [], O_plain_basis, g15, k15, b15, .nil⟩
  have O_sums_of := ok_sums_of (P := l.prog) (w := w) (mg := mg) (base := base) F16 m_sorted
  have C_sums_of : Cal l.prog w K mg base "sums_of" 1 ["basis"] [] sp_sums_of := ⟨f16, _, [], O_sums_of, g16, k16, b16, .nil⟩
  have O_check_words := ok_check_words (P := l.prog) (w := w) (mg := mg) (base := base) F17 C_is_list C_is_word g_MOST_WORDS m_len m_enumerate
  have C_check_words : Cal l.prog w K mg base "check_words" 5 ["places", "words"] [] sp_check_words := ⟨f17, _, [], O_check_words, g17, k17, b17, .nil⟩
  have O_init := ok_init (P := l.prog) (w := w) (mg := mg) (base := base) Fm1 RK C_check_places C_check_words C_plain_basis
  have MM : Mk K C fm1 := ⟨mk, am1, im1, kc⟩
  have MK_Room : MakC l.prog w K mg base C "Room" 6 ["self", "places", "words"] (sp_init C) := ⟨fm1, _, O_init, MM, g_Room, bm1⟩
  have O_places := ok_places (P := l.prog) (w := w) (mg := mg) (base := base) Fm2 RK
  have P_places : PrpC l.prog w K mg base C "places" 1 (sp_places C) := ⟨prm2, fm2, _, O_places, ⟨am2, gm2, um2, ⟨_, rm2⟩⟩, bm2, RK.cl⟩
  have O_dimension := ok_dimension (P := l.prog) (w := w) (mg := mg) (base := base) Fm3 RK m_len
  have P_dimension : PrpC l.prog w K mg base C "dimension" 1 (sp_dimension C) := ⟨prm3, fm3, _, O_dimension, ⟨am3, gm3, um3, ⟨_, rm3⟩⟩, bm3, RK.cl⟩
  have O_basis := ok_basis (P := l.prog) (w := w) (mg := mg) (base := base) Fm4 RK m_list
  have M_basis : MthC l.prog w K mg base C "basis" 1 ["self"] (sp_basis C) := ⟨fm4, _, O_basis, ⟨am4, im4, km4⟩, bm4, RK.cl⟩
  have O_has := ok_has (P := l.prog) (w := w) (mg := mg) (base := base) Fm5 RK C_check_word C_rest_of
  have M_has : MthC l.prog w K mg base C "has" 6 ["self", "word"] (sp_has C) := ⟨fm5, _, O_has, ⟨am5, im5, km5⟩, bm5, RK.cl⟩
  have O_words := ok_words (P := l.prog) (w := w) (mg := mg) (base := base) Fm6 RK C_sums_of g_MOST_DIMENSION m_len
  have M_words : MthC l.prog w K mg base C "words" 2 ["self"] (sp_words C) := ⟨fm6, _, O_words, ⟨am6, im6, km6⟩, bm6, RK.cl⟩
  have O_eq := ok_eq (P := l.prog) (w := w) (mg := mg) (base := base) Fm7 RK g_Room m_isinstance
  have EC_Room : EqC l.prog w K mg base C 1 (sp_eq K C) := ⟨fm7, _, O_eq, am7, im7, bm7, ne, cm⟩
  have O_repr := ok_repr (P := l.prog) (w := w) (mg := mg) (base := base) Fm8 RK
  have O_check_room := ok_check_room (P := l.prog) (w := w) (mg := mg) (base := base) F18 RK g_Room m_isinstance
  have C_check_room : Cal l.prog w K mg base "check_room" 1 ["room"] [] (sp_check_room C) := ⟨f18, _, [], O_check_room, g18, k18, b18, .nil⟩
  have O_multiplied := ok_multiplied (P := l.prog) (w := w) (mg := mg) (base := base) F19 m_enumerate m_len
  have C_multiplied : Cal l.prog w K mg base "multiplied" 1 ["polynomial", "other"] [] (sp_mulZ K) := ⟨f19, _, [], O_multiplied, g19, k19, b19, .nil⟩
  have O_added_up := ok_added_up (P := l.prog) (w := w) (mg := mg) (base := base) F20 m_len m_zip
  have C_added_up : Cal l.prog w K mg base "added_up" 1 ["terms", "factors"] [] sp_addZ := ⟨f20, _, [], O_added_up, g20, k20, b20, .nil⟩
  have O_even_word := ok_even_word (P := l.prog) (w := w) (mg := mg) (base := base) F21 C_highest
  have C_even_word : Cal l.prog w K mg base "even_word" 2 ["unit", "basis"] [] sp_even_word := ⟨f21, _, [], O_even_word, g21, k21, b21, .nil⟩
  have O_contrary := ok_contrary (P := l.prog) (w := w) (mg := mg) (base := base) F22 C_check_room C_even_word MK_Room M_basis P_places m_range n_basis
  have C_contrary : Cal l.prog w K mg base "contrary" 8 ["room"] [] (sp_contrary C) := ⟨f22, _, [], O_contrary, g22, k22, b22, .nil⟩
  have O_is_power_of_2 := ok_is_power_of_2 (P := l.prog) (w := w) (mg := mg) (base := base) F23
  have C_is_power_of_2 : Cal l.prog w K mg base "is_power_of_2" 1 ["number"] [] sp_pow2 := ⟨f23, _, [], O_is_power_of_2, g23, k23, b23, .nil⟩
  have O_is_row := ok_is_row (P := l.prog) (w := w) (mg := mg) (base := base) F24 C_is_count C_is_list C_is_power_of_2 g_MOST_PLACES m_all m_len m_sum
  have C_is_row : Cal l.prog w K mg base "is_row" 3 ["value"] [] sp_is_row := ⟨f24, _, [], O_is_row, g24, k24, b24, .nil⟩
  have O_check_row := ok_check_row (P := l.prog) (w := w) (mg := mg) (base := base) F25 C_is_row
  have C_check_row : Cal l.prog w K mg base "check_row" 4 ["row"] [] sp_check_row := ⟨f25, _, [], O_check_row, g25, k25, b25, .nil⟩
  have O_entries := ok_entries (P := l.prog) (w := w) (mg := mg) (base := base) F26 m_range m_zip
  have C_entries : Cal l.prog w K mg base "entries" 1 ["places", "second"] [] sp_entries := ⟨f26, _, [], O_entries, g26, k26, b26, .nil⟩
  have O_changed_sums := ok_changed_sums (P := l.prog) (w := w) (mg := mg) (base := base) F27 C_entries m_enumerate m_len m_zip
  have C_changed_sums : Cal l.prog w K mg base "changed_sums" 2 ["row"] [] sp_changed_sums := ⟨f27, _, [], O_changed_sums, g27, k27, b27, .nil⟩
  have O_changed := ok_changed (P := l.prog) (w := w) (mg := mg) (base := base) F28 C_changed_sums C_check_row m_enumerate m_sum
  have C_changed : Cal l.prog w K mg base "changed" 5 ["row"] [] sp_changed := ⟨f28, _, [], O_changed, g28, k28, b28, .nil⟩
  have O_counted_weights := ok_counted_weights (P := l.prog) (w := w) (mg := mg) (base := base) F29 C_weight
  have C_counted_weights : Cal l.prog w K mg base "counted_weights" 7 ["places", "words"] [] sp_counted_weights := ⟨f29, _, [], O_counted_weights, g29, k29, b29, .nil⟩
  have O_counted := ok_counted (P := l.prog) (w := w) (mg := mg) (base := base) F30 C_counted_weights C_sums_of M_basis P_places n_basis
  have C_counted : Cal l.prog w K mg base "counted" 8 ["room"] [] (sp_counted C) := ⟨f30, _, [], O_counted, g30, k30, b30, .nil⟩
  have O_row := ok_row (P := l.prog) (w := w) (mg := mg) (base := base) F31 C_changed C_check_room C_contrary C_counted P_dimension P_places
  have C_row : Cal l.prog w K mg base "row" 9 ["room"] [] (sp_row C) := ⟨f31, _, [], O_row, g31, k31, b31, .nil⟩
  have O_check_size := ok_check_size (P := l.prog) (w := w) (mg := mg) (base := base) F32 C_is_count g_MOST_SIZE
  have C_check_size : Cal l.prog w K mg base "check_size" 3 ["size"] [] sp_chksize := ⟨f32, _, [], O_check_size, g32, k32, b32, .nil⟩
  have O_square_ways := ok_square_ways (P := l.prog) (w := w) (mg := mg) (base := base) F33 m_range
  have C_square_ways : Cal l.prog w K mg base "square_ways" 1 ["first", "most"] [] sp_sqways := ⟨f33, _, [], O_square_ways, g33, k33, b33, .nil⟩
  have O_powers_up_to := ok_powers_up_to (P := l.prog) (w := w) (mg := mg) (base := base) F34 C_multiplied m_range
  have C_powers_up_to : Cal l.prog w K mg base "powers_up_to" 2 ["ways", "many", "most"] [] sp_pows := ⟨f34, _, [], O_powers_up_to, g34, k34, b34, .nil⟩
  have O_counted_by := ok_counted_by (P := l.prog) (w := w) (mg := mg) (base := base) F35 C_added_up C_multiplied C_powers_up_to C_square_ways m_len m_range
  have C_counted_by : Cal l.prog w K mg base "counted_by" 3 ["numbers", "most"] [] sp_ctdF := ⟨f35, _, [], O_counted_by, g35, k35, b35, .nil⟩
  have O_vector_row := ok_vector_row (P := l.prog) (w := w) (mg := mg) (base := base) F36 C_check_room C_check_size C_counted_by C_row
  have C_vector_row : Cal l.prog w K mg base "vector_row" 10 ["room", "most"] [] (sp_vrowF C) := ⟨f36, _, [], O_vector_row, g36, k36, b36, .nil⟩
  have K_vector_row_most_room : CalK l.prog w K mg base "vector_row" 10 ["room", "most"] ["most", "room"] kw2 (sp_vrowF C) := by
    exact ⟨f36, _, fun us ws => ws.reverse, O_vector_row, g36, k36, ⟨fun s us ws X h1 h2 => match us, ws, h1, h2 with | [], [_, _], _, _ => .of_eq rfl, fun r1 r2 => vals_rev r2⟩⟩
  have O_vectors := ok_vectors (P := l.prog) (w := w) (mg := mg) (base := base) F37 C_check_room C_check_size C_counted_by C_row
  have C_vectors : Cal l.prog w K mg base "vectors" 10 ["room", "size"] [] (sp_vecs C) := ⟨f37, _, [], O_vectors, g37, k37, b37, .nil⟩
  have K_vectors_size_room : CalK l.prog w K mg base "vectors" 10 ["room", "size"] ["size", "room"] kw2 (sp_vecs C) := by
    exact ⟨f37, _, fun us ws => ws.reverse, O_vectors, g37, k37, ⟨fun s us ws X h1 h2 => match us, ws, h1, h2 with | [], [_, _], _, _ => .of_eq rfl, fun r1 r2 => vals_rev r2⟩⟩
  have O_is_vector := ok_is_vector (P := l.prog) (w := w) (mg := mg) (base := base) F38 C_are_integers C_check_room C_word_of M_has P_places m_enumerate m_len n_has
  have C_is_vector : Cal l.prog w K mg base "is_vector" 7 ["room", "value"] [] (sp_isvec C) := ⟨f38, _, [], O_is_vector, g38, k38, b38, .nil⟩
  have O_law_pot := ok_law_pot (P := l.prog) (w := w) (mg := mg) (base := base) F39 m_len m_abs m_max m_int
  have C_law_pot : Cal l.prog w K mg base "_law_pot" 1 ["_law_script", "_law_k"] [] (sp_pot K) := ⟨f39, _, [], O_law_pot, g39, k39, b39, .nil⟩
  have O_law_draw := ok_law_draw (P := l.prog) (w := w) (mg := mg) (base := base) F40 m_divmod m_int
  have C_law_draw : Cal l.prog w K mg base "_law_draw" 1 ["_law_pot_here", "_law_size"] [] sp_draw := ⟨f40, _, [], O_law_draw, g40, k40, b40, .nil⟩
  have O_law_pick := ok_law_pick (P := l.prog) (w := w) (mg := mg) (base := base) F41 C_law_draw m_len
  have C_law_pick : Cal l.prog w K mg base "_law_pick" 2 ["_law_pot_here", "_law_some"] [] sp_pick86 := ⟨f41, _, [], O_law_pick, g41, k41, b41, .nil⟩
  have O_law_span := ok_law_span (P := l.prog) (w := w) (mg := mg) (base := base) F42 m_sorted
  have C_law_span : Cal l.prog w K mg base "_law_span" 1 ["_law_words"] [] sp_lspan87 := ⟨f42, _, [], O_law_span, g42, k42, b42, .nil⟩
  have O_law_lists := ok_law_lists (P := l.prog) (w := w) (mg := mg) (base := base) F43 m_range m_sum
  have C_law_lists : Cal l.prog w K mg base "_law_lists" 1 ["_law_places"] [] sp_llists86 := ⟨f43, _, [], O_law_lists, g43, k43, b43, .nil⟩
  have O_law_odd_word := ok_law_odd_word (P := l.prog) (w := w) (mg := mg) (base := base) F44
  have C_law_odd_word : Cal l.prog w K mg base "_law_odd_word" 1 ["_law_row"] [] sp_loddw := ⟨f44, _, [], O_law_odd_word, g44, k44, b44, .nil⟩
  have O_law_right := ok_law_right (P := l.prog) (w := w) (mg := mg) (base := base) F45 C_is_vector C_law_draw C_law_lists C_law_odd_word C_law_pick C_law_span C_vector_row C_vectors O_repr K_vector_row_most_room K_vectors_size_room MK_Room RK bm8 im8 m_list m_range m_repr m_sum am8
  have C_law_right : CalG l.prog w K mg base "_law_right" 11 ["_law_pot_here"] sp_right := ⟨f45, _, O_law_right, g45, k45, b45⟩
  exact ok_law F46 C_law_pot C_law_right
section
end
end K86
open PySem PySem.W PyProof.Rows
set_option Elab.async false
set_option maxRecDepth 100000 in
set_option maxHeartbeats 0 in
theorem PySem.Challenge.cw_owncontraries_k86_whole_vectors_listed_holds : PySem.Challenge.rw_owncontraries_k86_whole_vectors_listed.Holds := by
  w_on; o_law; k_head; (case hw => w_witness2)
  k_fill
  refine Vf.walk_gn (l := PySem.Challenge.rw_owncontraries_k86_whole_vectors_listed) (n := 63) (k := 12) (x := "_law_script") (sp := fun w => (Vf.sp_law _)) rfl (by decide) rfl ⟨rfl, by decide, by decide⟩ (fun w h Y => PySem.W.kIn_of Y) ?F (fun _ _ a ns _ _ _ hS => ⟨a, ns, rfl, hS, fun _ => rfl⟩)
  case F =>
    intro w mg fa h KX G hmg
    refine' K86.all_mk KX G hmg ?aC ?a1 ?l1 ?c1 ?k1 ?a2 ?l2 ?c2 ?k2 ?a3 ?l3 ?c3 ?k3 ?a4 ?l4 ?c4 ?k4 ?a5 ?l5 ?c5 ?k5 ?a6 ?l6 ?c6 ?k6 ?a7 ?l7 ?c7 ?k7 ?a8 ?l8 ?c8 ?k8 ?a9 ?l9 ?c9 ?k9 ?a10 ?l10 ?c10 ?k10 ?a11 ?l11 ?c11 ?k11 ?a12 ?l12 ?c12 ?k12 ?a13 ?l13 ?c13 ?k13 ?a14 ?l14 ?c14 ?k14 ?a15 ?l15 ?c15 ?k15 ?a16 ?l16 ?c16 ?k16 ?a17 ?l17 ?c17 ?k17 ?a18 ?l18 ?c18 ?k18 ?a19 ?l19 ?c19 ?k19 ?a20 ?l20 ?c20 ?k20 ?a21 ?l21 ?c21 ?k21 ?a22 ?l22 ?c22 ?k22 ?a23 ?l23 ?c23 ?k23 ?a24 ?l24 ?c24 ?k24 ?a25 ?l25 ?c25 ?k25 ?a26 ?l26 ?c26 ?k26 ?a27 ?l27 ?c27 ?k27 ?a28 ?l28 ?c28 ?k28 ?a29 ?l29 ?c29 ?k29 ?a30 ?l30 ?c30 ?k30 ?a31 ?l31 ?c31 ?k31 ?a32 ?l32 ?c32 ?k32 ?a33 ?l33 ?c33 ?k33 ?a34 ?l34 ?c34 ?k34 ?a35 ?l35 ?c35 ?k35 ?a36 ?l36 ?c36 ?k36 ?a37 ?l37 ?c37 ?k37 ?a38 ?l38 ?c38 ?k38 ?a39 ?l39 ?c39 ?k39 ?a40 ?l40 ?c40 ?k40 ?a41 ?l41 ?c41 ?k41 ?a42 ?l42 ?c42 ?k42 ?a43 ?l43 ?c43 ?k43 ?a44 ?l44 ?c44 ?k44 ?a45 ?l45 ?c45 ?k45 ?a46 ?l46 ?c46 ?k46 ?am1 ?im1 ?lm1 ?cm1 ?km1 ?am2 ?gm2 ?um2 ?rm2 ?lm2 ?cm2 ?km2 ?am3 ?gm3 ?um3 ?rm3 ?lm3 ?cm3 ?km3 ?am4 ?im4 ?lm4 ?cm4 ?km4 ?am5 ?im5 ?lm5 ?cm5 ?km5 ?am6 ?im6 ?lm6 ?cm6 ?km6 ?am7 ?im7 ?lm7 ?cm7 ?km7 ?am8 ?im8 ?lm8 ?cm8 ?km8 ?lT ?v_MOST_DIMENSION ?v_MOST_PLACES ?v_MOST_SIZE ?v_MOST_WORDS ?z_abs ?z_all ?z_bool ?z_divmod ?z_enumerate ?z_int ?z_isinstance ?z_len ?z_list ?z_max ?z_range ?z_repr ?z_set ?z_sorted ?z_sum ?z_tuple ?z_zip ?pg ?hd ?po ?sa ?mk ?kc ?nP ?nB ?ca ?cn ?ct ?cm ?ne
    (case aC => k_is)
    (case a1 => k_is)
    (case l1 => k_is)
    (case c1 => k_is)
    (case k1 => k_is)
    (case a2 => k_is)
    (case l2 => k_is)
    (case c2 => k_is)
    (case k2 => k_is)
    (case a3 => k_is)
    (case l3 => k_is)
    (case c3 => k_is)
    (case k3 => k_is)
    (case a4 => k_is)
    (case l4 => k_is)
    (case c4 => k_is)
    (case k4 => k_is)
    (case a5 => k_is)
    (case l5 => k_is)
    (case c5 => k_is)
    (case k5 => k_is)
    (case a6 => k_is)
    (case l6 => k_is)
    (case c6 => k_is)
    (case k6 => k_is)
    (case a7 => k_is)
    (case l7 => k_is)
    (case c7 => k_is)
    (case k7 => k_is)
    (case a8 => k_is)
    (case l8 => k_is)
    (case c8 => k_is)
    (case k8 => k_is)
    (case a9 => k_is)
    (case l9 => k_is)
    (case c9 => k_is)
    (case k9 => k_is)
    (case a10 => k_is)
    (case l10 => k_is)
    (case c10 => k_is)
    (case k10 => k_is)
    (case a11 => k_is)
    (case l11 => k_is)
    (case c11 => k_is)
    (case k11 => k_is)
    (case a12 => k_is)
    (case l12 => k_is)
    (case c12 => k_is)
    (case k12 => k_is)
    (case a13 => k_is)
    (case l13 => k_is)
    (case c13 => k_is)
    (case k13 => k_is)
    (case a14 => k_is)
    (case l14 => k_is)
    (case c14 => k_is)
    (case k14 => k_is)
    (case a15 => k_is)
    (case l15 => k_is)
    (case c15 => k_is)
    (case k15 => k_is)
    (case a16 => k_is)
    (case l16 => k_is)
    (case c16 => k_is)
    (case k16 => k_is)
    (case a17 => k_is)
    (case l17 => k_is)
    (case c17 => k_is)
    (case k17 => k_is)
    (case a18 => k_is)
    (case l18 => k_is)
    (case c18 => k_is)
    (case k18 => k_is)
    (case a19 => k_is)
    (case l19 => k_is)
    (case c19 => k_is)
    (case k19 => k_is)
    (case a20 => k_is)
    (case l20 => k_is)
    (case c20 => k_is)
    (case k20 => k_is)
    (case a21 => k_is)
    (case l21 => k_is)
    (case c21 => k_is)
    (case k21 => k_is)
    (case a22 => k_is)
    (case l22 => k_is)
    (case c22 => k_is)
    (case k22 => k_is)
    (case a23 => k_is)
    (case l23 => k_is)
    (case c23 => k_is)
    (case k23 => k_is)
    (case a24 => k_is)
    (case l24 => k_is)
    (case c24 => k_is)
    (case k24 => k_is)
    (case a25 => k_is)
    (case l25 => k_is)
    (case c25 => k_is)
    (case k25 => k_is)
    (case a26 => k_is)
    (case l26 => k_is)
    (case c26 => k_is)
    (case k26 => k_is)
    (case a27 => k_is)
    (case l27 => k_is)
    (case c27 => k_is)
    (case k27 => k_is)
    (case a28 => k_is)
    (case l28 => k_is)
    (case c28 => k_is)
    (case k28 => k_is)
    (case a29 => k_is)
    (case l29 => k_is)
    (case c29 => k_is)
    (case k29 => k_is)
    (case a30 => k_is)
    (case l30 => k_is)
    (case c30 => k_is)
    (case k30 => k_is)
    (case a31 => k_is)
    (case l31 => k_is)
    (case c31 => k_is)
    (case k31 => k_is)
    (case a32 => k_is)
    (case l32 => k_is)
    (case c32 => k_is)
    (case k32 => k_is)
    (case a33 => k_is)
    (case l33 => k_is)
    (case c33 => k_is)
    (case k33 => k_is)
    (case a34 => k_is)
    (case l34 => k_is)
    (case c34 => k_is)
    (case k34 => k_is)
    (case a35 => k_is)
    (case l35 => k_is)
    (case c35 => k_is)
    (case k35 => k_is)
    (case a36 => k_is)
    (case l36 => k_is)
    (case c36 => k_is)
    (case k36 => k_is)
    (case a37 => k_is)
    (case l37 => k_is)
    (case c37 => k_is)
    (case k37 => k_is)
    (case a38 => k_is)
    (case l38 => k_is)
    (case c38 => k_is)
    (case k38 => k_is)
    (case a39 => k_is)
    (case l39 => k_is)
    (case c39 => k_is)
    (case k39 => k_is)
    (case a40 => k_is)
    (case l40 => k_is)
    (case c40 => k_is)
    (case k40 => k_is)
    (case a41 => k_is)
    (case l41 => k_is)
    (case c41 => k_is)
    (case k41 => k_is)
    (case a42 => k_is)
    (case l42 => k_is)
    (case c42 => k_is)
    (case k42 => k_is)
    (case a43 => k_is)
    (case l43 => k_is)
    (case c43 => k_is)
    (case k43 => k_is)
    (case a44 => k_is)
    (case l44 => k_is)
    (case c44 => k_is)
    (case k44 => k_is)
    (case a45 => k_is)
    (case l45 => k_is)
    (case c45 => k_is)
    (case k45 => k_is)
    (case a46 => k_is)
    (case l46 => k_is)
    (case c46 => k_is)
    (case k46 => k_is)
    (case am1 => k_is)
    (case im1 => k_is)
    (case lm1 => k_is)
    (case cm1 => k_is)
    (case km1 => k_is)
    (case am2 => k_is)
    (case gm2 => k_is)
    (case um2 => k_is)
    (case rm2 => k_is)
    (case lm2 => k_is)
    (case cm2 => k_is)
    (case km2 => k_is)
    (case am3 => k_is)
    (case gm3 => k_is)
    (case um3 => k_is)
    (case rm3 => k_is)
    (case lm3 => k_is)
    (case cm3 => k_is)
    (case km3 => k_is)
    (case am4 => k_is)
    (case im4 => k_is)
    (case lm4 => k_is)
    (case cm4 => k_is)
    (case km4 => k_is)
    (case am5 => k_is)
    (case im5 => k_is)
    (case lm5 => k_is)
    (case cm5 => k_is)
    (case km5 => k_is)
    (case am6 => k_is)
    (case im6 => k_is)
    (case lm6 => k_is)
    (case cm6 => k_is)
    (case km6 => k_is)
    (case am7 => k_is)
    (case im7 => k_is)
    (case lm7 => k_is)
    (case cm7 => k_is)
    (case km7 => k_is)
    (case am8 => k_is)
    (case im8 => k_is)
    (case lm8 => k_is)
    (case cm8 => k_is)
    (case km8 => k_is)
    (case lT => k_is)
    (case v_MOST_DIMENSION => k_is)
    (case v_MOST_PLACES => k_is)
    (case v_MOST_SIZE => k_is)
    (case v_MOST_WORDS => k_is)
    (case z_abs => k_is)
    (case z_all => k_is)
    (case z_bool => k_is)
    (case z_divmod => k_is)
    (case z_enumerate => k_is)
    (case z_int => k_is)
    (case z_isinstance => k_is)
    (case z_len => k_is)
    (case z_list => k_is)
    (case z_max => k_is)
    (case z_range => k_is)
    (case z_repr => k_is)
    (case z_set => k_is)
    (case z_sorted => k_is)
    (case z_sum => k_is)
    (case z_tuple => k_is)
    (case z_zip => k_is)
    (case pg => k_is)
    (case hd => k_is)
    (case po => k_is)
    (case sa => k_is)
    (case mk => k_is)
    (case kc => k_is)
    (case nP => k_is)
    (case nB => k_is)
    (case ca => k_is)
    (case cn => k_is)
    (case ct => k_is)
    (case cm => k_is)
    (case ne => k_is)
