import PyProof.Rows.All
import Wide.All
import OpenK.AllK
import Wide.FinOn
import HandS.ForMost
import HandS.IsInst
import HandS.Defaults
import HandS.Zip
import HandS.Strs
import HandS.Style
import HandS.Flow
import HandS.WideBits
import HandS.EndBits
import HandS.SetFor
import HandS.SortKw
import HandS.SortInts
import HandS.Property
import HandS.OwnEq
import HandS.FStr
import PyProof.ReprRoads
import PyProof.InstNe
import KE.GoesEnum
import HandS.MakeKwOnly
import HandS.ClsMeth
import HandS.Conv
import PySem.Challenge.RW_owncontraries_k39_whole_rows_beside_and
set_option Elab.async false
set_option linter.all false
set_option maxRecDepth 100000
set_option maxHeartbeats 4000000

namespace Vf
open PySem PySem.Spec PyProof.Rows L2
/-! ### defs that ask that no repr is under way -/
/-- a def's promise, kept where no guard is up -/
structure GnOk (P : Program) (w : World) (K : PySem.W.Frag) (mg : Str → Option Value) (base : Heap)
    (k : Nat) (f : Addr) (fd : FuncData) (ps : List Str) (sp : Sp) : Prop where
  len : ∀ vs H Q E, sp vs H Q E → vs.length = ps.length
  go : ∀ (A : Around) (outer : List Env) (s : Shared) (H : Hp) (args : Args) (us : List Value) (vs : List V) (Q : VK) (E : XK),
    A.guards = some [] → Room k A → Env0 P w K mg base A outer s H → BindsTo s fd args (ps.zip us) → Vals vs us →
    sp vs H Q E → codeAny (model P w) A (.call (.ref f) args) (CR CX0 outer P w H s Q E) s
theorem GnOk.of {P : Program} {w : World} {K : PySem.W.Frag} {mg : Str → Option Value} {base : Heap} {k : Nat} {f : Addr} {fd : FuncData} {ps : List Str} {sp : Sp}
    (F : FnOk P w K mg base CX0 k f fd ps sp) : GnOk P w K mg base k f fd ps sp :=
  ⟨F.len, fun A outer s H args us vs Q E _ => F.run A outer s H args us vs Q E⟩
theorem deeper_guards {A : Around} {env : Env} (h : A.guards = some []) : (A.deeper env).guards = some [] := by
  first | exact h | simpa [Around.deeper] using h
section
variable {P : Program} {w : World} {K : PySem.W.Frag} {mg : Str → Option Value} {base : Heap}
/-- a def of the text by its body, its guards told -/
theorem gn_ok {x qual : Str} {st : Stmt} {f : Addr} {fd : FuncData} {N ps : List Str} {k : Nat} {sp : Sp}
    (F : Fun K x qual st f fd) (S : FnScope N ps (defScope st)) (len : ∀ vs H Q E, sp vs H Q E → vs.length = ps.length)
    (hb : ∀ (cdv : Value) (A : Around) (outer : List Env) (s : Shared) (H : Hp) (vs : List V) (Q : VK) (E : XK),
      (A.deeper (envOfC qual (defScope st) s.heap.objs.size f cdv)).guards = some [] →
      Room k (A.deeper (envOfC qual (defScope st) s.heap.objs.size f cdv)) → sp vs H Q E →
      ∃ t, PSs (cxOf CX0 P w K mg base N qual (defScope st) f cdv A outer s H E).nox (defBody st) t ∧
        t { nx := fun _ H' => Q .non H', rt := Q } (start N vs) H) : GnOk P w K mg base (k + 1) f fd ps sp := by
  refine ⟨len, fun A outer s H args us vs Q E hg hr e0 hbd rv hs => ?_⟩
  -- the body is walked at this around alone
  obtain ⟨oc, od, kV, doc, pm, an, cdv, ct, osl, rfl, lk, hcd⟩ := F.ex
  let sp1 : Sp := fun vs' H' Q' E' => sp vs' H' Q' E'
  have lenU : vs.length = ps.length := len _ _ _ _ hs
  have kin : K.In s.heap := e0.mod.kin.keeps fun b o e => (e0.bs b o e).1
  have nolim : s.heap.NoLimit := e0.mod.nolimit.keeps fun b o e => (e0.bs b o e).1
  have kinds : ∀ y ∈ ps.zip us, (defScope st).names.lookup y.1 = some .local ∨
      ((defScope st).names.lookup y.1 = some .cell ∧
        ((cellsFrom (s.heap.objs.size + 1) (defScope st).names []).lookup y.1).isSome = true) := by
    rintro ⟨n, v⟩ hy
    cases S.par n (List.of_mem_zip hy).1 with
    | inl q => exact .inl q
    | inr q => exact .inr ⟨q, PySem.W.cellsFrom_some _ _ _ (.inl q)⟩
  refine codeAny_call_function hr.depth (kin _ _ lk) rfl S.co S.gen rfl
    (PySem.W.codeRec_of kin hcd) (hbd _ _ _ _ ?_)
  refine wpAny_newFunctionEnv_cells S.kind kinds fun env he s1 y => ?_
  subst he
  refine ⟨nolim.keeps y.toInCall.keep, codeAny_func ?_⟩
  obtain ⟨t, ht, hq⟩ := hb cdv A outer s H vs Q E (deeper_guards hg) (hr.deeper _) hs
  have I0 := inv_start (CX := CX0) (P := P) (w := w) (K := K) (mg := mg) (base := base) (N := N) (qual := qual)
    (f := f) (cd := cdv) (A := A) (outer := outer) (s := s) (H := H) (E := E) S hr.hd e0 lenU rv y
  refine wpAny_mono (ht.nox.run [] s1 (start N vs) H _ I0 hq) (fun fl s' hh => ?_) fun e s' hh => hh
  cases fl with
  | next =>
    obtain ⟨σ', H', J, q⟩ := hh
    exact ⟨V.non, H', J.os, J.bare, J.base, J.hok, rfl, q⟩
  | ret u =>
    obtain ⟨v, σ', H', J, r2, q⟩ := hh
    exact ⟨v, H', J.os, J.bare, J.base, J.hok, r2, q⟩
  | brk => obtain ⟨_, _, _, q⟩ := hh; exact q.elim
  | cont => obtain ⟨_, _, _, q⟩ := hh; exact q.elim
end
section
variable {X : Cx} {k : Nat} {f : Addr} {fd : FuncData} {ps ks : List Str} {sp : Sp} {E : XK} {x : Str} {p pos : Pos}
  {e : Expr} {es : List Expr} {kws : List Keyword} {t tk : TA} {g : List Value → List Value → List Value} {gV : List V → List V → List V}
theorem run_gn {pins : List (Addr × Obj)} {σ : L2.St} {H : Hp} {s : Shared} {Q : VK} {us : List Value} {vs : List V}
    (F : GnOk X.prog X.w X.K X.mg X.base k f fd ps sp) (hg : X.A.guards = some []) (hr : Room k X.A) (hb : Binds X.K fd ps [])
    (I : Inv X pins σ H s) (r : Vals vs us) (h : sp vs H Q E0) :
    wpAny (model X.prog X.w) X.A (call (.ref f) us) (EP X pins σ Q) X.xe s := by
  have ln : (us ++ ([] : List Value)).length = ps.length := by
    rw [List.append_nil, ← r.length]
    exact F.len _ _ _ _ h
  have bb := hb s us I.kIn ln
  rw [List.append_nil] at bb
  refine wpAny_call (codeAny_mono (F.go X.A X.stack s H ⟨us, []⟩ us vs Q E0 hg hr I.env0 bb r h) fun res s' hq => ?_)
  cases res with
  | error e => exact hq.elim
  | ok fl =>
    cases fl with
    | next => exact hq.elim
    | brk => exact hq.elim
    | cont => exact hq.elim
    | ret u => exact I.after hq
/-- f(e, ..) of such a def -/
theorem pe_gn (F : GnOk X.prog X.w X.K X.mg X.base k f fd ps sp) (gg : X.A.guards = some []) (hr : Room k X.A) (hg : Gl X x)
    (hm : X.mg x = some (.ref f)) (hk : PySem.W.keepIn X.K (.ref f) = true) (hb : Binds X.K fd ps [])
    (ha : PA X (e :: es) t) (hdb : (x == ("__debug__" : Str)) = false := by decide)
    (he : starEach (e :: es) X.env = (false, eval e X.env) :: starEach es X.env := by rfl)
    (hpl : (backTo pos (starEach es X.env)).any (·.1) = false := by rfl) :
    PE X (.Call (.Name x p) (e :: es) [] pos) (fun σ H Q => t σ H fun vs H1 => sp vs H1 Q E0) := by
  refine ⟨fun pins s σ H Q I h => wpAny_Call_Name_kw (ld_glob I hg hm ?_ hdb)⟩
  exact PySem.W.callWith_K (h₀ := X.base) I.ok.mod.kin hk
    (thn (ha.run pos pins s σ H _ I h) fun us s1 ⟨vs, H1, I1, r, q⟩ => ⟨I1.kIn, run_gn F gg hr hb I1 r q⟩) he hpl
/-- f(k = v, ..): keywords alone -/
theorem pe_callKw {CX : CXT} (F : FnOk X.prog X.w X.K X.mg X.base CX k f fd ps sp) (hr : Room k X.A) (hg : Gl X x)
    (hm : X.mg x = some (.ref f)) (hk : PySem.W.keepIn X.K (.ref f) = true) (hb : KBn X.K fd ps 0 ks g gV) (hx : Passes CX X E)
    (hkw : PK X kws tk) (hall : (backToKw pos (keywordEach kws X.env)).all (·.1.isSome) = true := by rfl)
    (hks : (backToKw pos (keywordEach kws X.env)).filterMap (·.1) = ks := by rfl)
    (hdb : (x == ("__debug__" : Str)) = false := by decide)
    (hpl : ((backTo pos (starEach [] X.env)).any (·.1) || (backToKw pos (keywordEach kws X.env)).any (·.1.isNone)) = false := by rfl) :
    PE X (.Call (.Name x p) [] kws pos) (fun σ H Q => tk σ H fun zs H1 => zs.length = ks.length ∧ sp (gV [] zs) H1 Q E) := by
  refine ⟨fun pins s σ H Q I h => wpAny_Call_Name_kw (ld_glob I hg hm ?_ hdb)⟩
  refine PySem.W.callWith_KW0 (h₀ := X.base) I.ok.mod.kin hk hall ?_ hpl
  refine thn (hkw.run pos pins s σ H _ I h) fun ws s2 ⟨zs, H2, I2, rz, l2, q2⟩ => ⟨I2.kIn, ?_⟩
  rw [hks]
  exact run_fnN (us := []) (vs := []) F hr hb hx I2 .nil rz rfl l2 q2
/-- repr of data -/
structure rRepr (K : PySem.W.Frag) (xs : List V) (H : Hp) (Q : VK) : Prop where
  ex : ∃ a d, xs = [.ref a] ∧ Dp K H (.ref a) d ∧ d.showable = true ∧ d.hasDict = false ∧ d.depth ≤ 60 ∧
    d.shown.length ≤ sizeLine ∧ Q (.str d.shown) H
theorem call_repr (hg : X.A.guards = some []) (hu : X.A.units + 64 < cLine) : CallR X (.builtin "repr") (rRepr X.K) := by
  intro pins s σ H xs us Q I r h
  obtain ⟨a, d, rfl, hD, hs, hn, hd, hz, q⟩ := h.ex
  obtain ⟨u1, rfl, r1⟩ := vals1 r
  cases (show u1 = Value.ref a from r1)
  obtain ⟨as, rd⟩ := Dp.reads I d _ _ hD rfl
  refine repr_of_reads' rd hs (fun z => ?_) hg (by omega) (fun _ _ e => e) (fun h' u tk hk => ?_) hz
  · rw [hn] at z
    cases z
  · exact ⟨.str d.shown, H, I.kept (fun b o e => hk b o e), ⟨u, rfl⟩, q⟩
end
end Vf

namespace Vf
open PySem PySem.Spec PyProof.Rows L2
/-! ### the end of a law whose promise wants the guards -/
theorem law_run {P : Program} {w : World} {K : PySem.W.Frag} {mg mb : Str → Option Value} {k : Nat} {fa a : Addr} {fd : FuncData}
    {x : Str} {sp : Sp} {s₁ : Shared} {vs : List Value} {ns : List Int} (kin : K.In s₁.heap)
    (hns : s₁.heap.Ns mainGlobals mg) (hb : s₁.heap.Ns builtinsNs mb) (hbb : ∀ x : Str, x ≠ "__name__" → mb x = bootBuiltins x)
    (hlim : s₁.heap.NoLimit) (hg : s₁.gens = #[]) (ha : s₁.heap.get? a = some { cls := .type "list", data := .seq vs.toArray })
    (hi : IntsAre vs ns) (hl : ns.length ≤ sizeLine) (hr : Room k callerA)
    (F : ∀ base : Heap, K.In base → base.Ns mainGlobals mg → GnOk P w K mg base k fa fd [x] sp)
    (hbind : ∀ (s : Shared) (u : Value), BindsTo s fd ⟨[u], []⟩ [(x, u)])
    (hsp : ∀ H : Hp, Only H → SqL K H a (ns.map V.int) → sp [.ref a] H (fun v _ => v = .bl true) E0) :
    codeAny (model P w) callerA (.call (.ref fa) ⟨[.ref a], []⟩)
      (fun r s' => r = .ok (.ret (.bool true)) ∧ OldK s₁.heap s'.heap ∧ s'.os = s₁.os ∧ AllBare s'.gens) s₁ := by
  have rv : Vals (ns.map V.int) vs := vals_ints hi
  have hlen : vs.length = ns.length := hi.length
  -- once the tracked heap is chosen
  have main : ∀ H : Hp, Only H → SqL K H a (ns.map V.int) → HOk P w H s₁.heap → (∀ b u, H b = some u → b = a) →
      (∀ u, H a = some u → K.lookup a = none) → codeAny (model P w) callerA (.call (.ref fa) ⟨[.ref a], []⟩)
      (fun r s' => r = .ok (.ret (.bool true)) ∧ OldK s₁.heap s'.heap ∧ s'.os = s₁.os ∧ AllBare s'.gens) s₁ := by
    intro H only seq ok onlyA notK
    have free : ∀ {b : Addr}, b ≠ a → H b = none := fun {b} nb => by
      cases q : H b with
      | none => rfl
      | some u => exact absurd (onlyA b u q) nb
    have seen : ∀ {b : Addr} {m : Str → Option Value}, s₁.heap.Ns b m → (hidT s₁.heap H).Ns b m := by
      rintro b m ⟨o, es, ep, e, d, r⟩
      refine ⟨o, es, ep, hidT_get e (free ?_), d, r⟩
      rintro rfl
      rw [ha] at e
      cases e
      exact absurd (show Data.seq vs.toArray _ = Data.dict es ep from d) (by intro z; cases z)
    have kinb : K.In (hidT s₁.heap H) := by
      intro b o e
      refine hidT_get (kin b o e) ?_
      cases q : H b with
      | none => rfl
      | some u =>
        obtain rfl := onlyA b u q
        rw [notK u q] at e
        cases e
    have md : Mod K mg (hidT s₁.heap H) := by
      obtain ⟨mc, h1, h2⟩ := hlim
      exact ⟨kinb, seen hns, ⟨mb, seen hb, hbb⟩, ⟨mc, seen h1, h2⟩⟩
    have e0 : Env0 P w K mg (hidT s₁.heap H) callerA [] s₁ H :=
      ⟨rfl, md, fun b o e => of_hidT e, Nat.le_of_eq (hidT_size _ _), trivial, fun b z => (List.not_mem_nil z).elim, ok, .of_eq hg⟩
    have run := (F _ kinb (seen hns)).go callerA [] s₁ H ⟨[.ref a], []⟩ [.ref a] [.ref a] _ _ rfl hr e0 (hbind s₁ (.ref a))
      (.cons rfl .nil) (hsp H only seq)
    refine codeAny_mono run fun r s' h => ?_
    cases r with
    | error e => exact h.elim
    | ok fl =>
      cases fl with
      | ret u =>
        obtain ⟨v, H', os, bare, un, ok', r', q⟩ := h
        obtain rfl : v = .bl true := q
        obtain rfl : u = Value.bool true := r'
        refine ⟨rfl, .of_keep fun b o e => ?_, os, bare⟩
        cases only b with
        | inl z => exact un.keep b o e z (fun z => (List.not_mem_nil z).elim) (fun z => (List.not_mem_nil z).elim)
        | inr z =>
          obtain ⟨ob, xs, z⟩ := z
          have f1 := (ok b _ z).1
          have f2 := (ok' b _ (un.frzs b ob _ z)).1
          rw [e] at f1
          cases f1
          exact f2
      | next => exact h.elim
      | brk => exact h.elim
      | cont => exact h.elim
  cases hk : K.lookup a with
  | none =>
    refine main (fun b => if b = a then some (.frz { cls := .type "list", data := .seq vs.toArray } (.lst (ns.map V.int))) else none)
      (fun b => ?_) (.inl (.inr ⟨_, if_pos rfl⟩)) (fun b u z => ?_) (fun b u z => ?_) fun _ _ => hk
    · by_cases hb : b = a
      · exact .inr ⟨_, _, if_pos hb⟩
      · exact .inl (if_neg hb)
    · by_cases hb : b = a
      · subst hb
        cases (if_pos rfl).symm.trans z
        refine ⟨ha, ?_, vs, _, rv, ha⟩
        rw [List.length_map]
        exact hl
      · cases (if_neg hb).symm.trans z
    · by_cases hb : b = a
      · exact hb
      · cases (if_neg hb).symm.trans z
  | some o =>
    have e := kin a o hk
    rw [ha] at e
    cases e
    refine main (fun _ => none) (fun _ => .inl rfl) (.inr ⟨_, vs.toArray, _, hk, rfl, rfl, rfl, ?_, by simpa using rv⟩)
      (fun b u z => ?_) (fun b u z => ?_) fun u z => ?_
    · rw [List.size_toArray, hlen]
      exact hl
    · cases (show (none : Option HO) = some u from z)
    · cases (show (none : Option HO) = some u from z)
    · cases (show (none : Option HO) = some u from z)
theorem walk_gn {l : PySem.W.OpenLaw} {n k : Nat} {q : Program} {loose : List Str} {XP : (Str → Option Value) → Heap → Prop}
    {YP : World → Heap → Prop} {d : DefRec} {K : Params → PySem.W.Frag} {sp : World → Sp} {x : Str}
    (hn : l.most = some n) (hn2 : n ≤ sizeLine) (hdf : d.params.defaults = []) (hr : Room k callerA)
    (hY : ∀ (w : World) (h : Heap), YP w h → (K w.params).In h)
    (F : ∀ (w : World) (mg : Str → Option Value) (fa : Addr) (h : Heap), (K w.params).In h → h.Ns mainGlobals mg → mg d.name = some (.ref fa) →
      ∃ fd : FuncData, (∀ (s : Shared) (u : Value), BindsTo s fd ⟨[u], []⟩ [(x, u)]) ∧
        ∀ base : Heap, (K w.params).In base → base.Ns mainGlobals mg → GnOk l.prog w (K w.params) mg base k fa fd [x] (sp w))
    (hsp : ∀ (w : World) (H : Hp) (a : Addr) (ns : List Int), ns.length ≤ n → (∀ k ∈ ns, Builtin.Int.intBits k ≤ 1048576) → Only H →
      SqL (K w.params) H a (ns.map V.int) → sp w [.ref a] H (fun v _ => v = .bl true) E0) :
    PySem.W.WalkO q loose XP YP l.row.toRowW d [] (fun f vs => PySem.call f vs) := by
  refine Att.attach_callB hn hdf fun w s₀ s₁ mg mb fa o pm cd doc a vs ns G Y ho hd hcd hmg hobj hints hlen hbits hg => ?_
  obtain ⟨fd, hb, hF⟩ := F w mg fa _ (hY w _ Y) G.T.g hmg
  exact law_run (hY w _ Y) G.T.g G.T.b G.T.builtins G.T.nolimit hg hobj hints (Nat.le_trans hlen hn2) hr hF hb
    fun H hO hS => hsp w H a ns hlen hbits hO hS
end Vf

namespace Vf
/-! ### how many places are on -/
def pcK : Nat → Nat → Nat
  | 0, _ => 0
  | k + 1, n => n % 2 + pcK k (n / 2)
def spotsK (k n : Nat) : List Nat := (List.range k).filter fun i => n.testBit i
theorem spotsK_succ (k n : Nat) : spotsK (k + 1) n = (if n % 2 = 1 then [0] else []) ++ (spotsK k (n / 2)).map (· + 1) := by
  unfold spotsK
  rw [List.range_succ_eq_map, List.filter_cons, List.filter_map]
  have e : ((fun i => n.testBit i) ∘ Nat.succ) = fun i => (n / 2).testBit i := by
    funext i
    show n.testBit (i + 1) = _
    rw [Nat.testBit_succ]
  rw [e]
  rw [Nat.testBit_zero]
  by_cases h : n % 2 = 1
  · simp [h]
  · simp [h]
theorem spotsK_len : ∀ k n, (spotsK k n).length = pcK k n
  | 0, _ => rfl
  | k + 1, n => by
    rw [spotsK_succ, List.length_append, List.length_map, spotsK_len k]
    show _ = n % 2 + pcK k (n / 2)
    by_cases h : n % 2 = 1
    · rw [if_pos h, h]; rfl
    · rw [if_neg h]
      have : n % 2 = 0 := by omega
      rw [this]; rfl
theorem sum_double : ∀ l : List Nat, ((l.map (· + 1)).map (2 ^ ·)).sum = 2 * (l.map (2 ^ ·)).sum
  | [] => rfl
  | x :: l => by
    rw [List.map_cons, List.map_cons, List.sum_cons, sum_double l, List.map_cons, List.sum_cons, Nat.pow_succ]
    omega
theorem spotsK_sum : ∀ k n, ((spotsK k n).map (2 ^ ·)).sum = n % 2 ^ k
  | 0, n => by
    show 0 = n % 1
    omega
  | k + 1, n => by
    rw [spotsK_succ, List.map_append, List.sum_append, sum_double, spotsK_sum k]
    have e := Nat.mod_mul (x := n) (a := 2) (b := 2 ^ k)
    rw [Nat.pow_succ, Nat.mul_comm (2 ^ k) 2, e]
    by_cases h : n % 2 = 1
    · rw [if_pos h, h]; rfl
    · rw [if_neg h]
      have : n % 2 = 0 := by omega
      rw [this]; rfl
theorem pcK_zero : ∀ k, pcK k 0 = 0
  | 0 => rfl
  | k + 1 => by
    show 0 % 2 + pcK k (0 / 2) = 0
    rw [show (0 : Nat) / 2 = 0 from rfl, pcK_zero k]
theorem pcK_more : ∀ k n, n < 2 ^ k → pcK (k + 1) n = pcK k n
  | 0, n, h => by
    have : n = 0 := by omega
    subst this; rfl
  | k + 1, n, h => by
    show n % 2 + pcK (k + 1) (n / 2) = n % 2 + pcK k (n / 2)
    rw [pcK_more k (n / 2) (by rw [Nat.pow_succ] at h; omega)]
theorem pcK_half (k n : Nat) (h : n < 2 ^ (k + 1)) : n % 2 + pcK (k + 1) (n / 2) = pcK (k + 1) n := by
  rw [pcK_more k (n / 2) (by rw [Nat.pow_succ] at h; omega)]
  rfl
theorem and_mod2 (a b : Nat) : (a &&& b) % 2 = (a % 2) * (b % 2) := by
  have h := Nat.testBit_and a b 0
  rw [Nat.testBit_zero, Nat.testBit_zero, Nat.testBit_zero] at h
  rcases Nat.mod_two_eq_zero_or_one (a &&& b) with hc | hc <;> rcases Nat.mod_two_eq_zero_or_one a with ha | ha <;>
    rcases Nat.mod_two_eq_zero_or_one b with hb | hb <;> rw [hc, ha, hb] at h <;> rw [hc, ha, hb] <;> first | rfl | exact absurd h (by decide)
theorem xor_mod2 (a b : Nat) : (a ^^^ b) % 2 = (a + b) % 2 := by
  have h := Nat.testBit_xor a b 0
  rw [Nat.testBit_zero, Nat.testBit_zero, Nat.testBit_zero] at h
  rcases Nat.mod_two_eq_zero_or_one (a ^^^ b) with hc | hc <;> rcases Nat.mod_two_eq_zero_or_one a with ha | ha <;>
    rcases Nat.mod_two_eq_zero_or_one b with hb | hb <;> rw [hc, ha, hb] at h <;> first | omega | exact absurd h (by decide)
theorem and_div2 (a b : Nat) : (a &&& b) / 2 = (a / 2) &&& (b / 2) := by
  apply Nat.eq_of_testBit_eq
  intro i
  rw [← Nat.testBit_succ, Nat.testBit_and, Nat.testBit_and, Nat.testBit_succ, Nat.testBit_succ]
theorem xor_div2 (a b : Nat) : (a ^^^ b) / 2 = (a / 2) ^^^ (b / 2) := by
  apply Nat.eq_of_testBit_eq
  intro i
  rw [← Nat.testBit_succ, Nat.testBit_xor, Nat.testBit_xor, Nat.testBit_succ, Nat.testBit_succ]
theorem pcK_two : ∀ k a b, pcK k a + pcK k b = pcK k (a ^^^ b) + 2 * pcK k (a &&& b)
  | 0, _, _ => rfl
  | k + 1, a, b => by
    have ih := pcK_two k (a / 2) (b / 2)
    show a % 2 + pcK k (a / 2) + (b % 2 + pcK k (b / 2)) = (a ^^^ b) % 2 + pcK k ((a ^^^ b) / 2) + 2 * ((a &&& b) % 2 + pcK k ((a &&& b) / 2))
    rw [and_mod2, xor_mod2, and_div2, xor_div2]
    rcases Nat.mod_two_eq_zero_or_one a with ha | ha <;> rcases Nat.mod_two_eq_zero_or_one b with hb | hb <;> rw [ha, hb] <;> omega
theorem pcK_off : ∀ k n, 0 < n → n < 2 ^ k → pcK k (n &&& (n - 1)) + 1 = pcK k n
  | 0, n, h0, h => by
    have : n < 1 := h
    omega
  | k + 1, n, h0, h => by
    rw [Nat.pow_succ] at h
    show (n &&& (n - 1)) % 2 + pcK k ((n &&& (n - 1)) / 2) + 1 = n % 2 + pcK k (n / 2)
    rw [and_mod2, and_div2]
    rcases Nat.mod_two_eq_zero_or_one n with hn | hn
    · have e1 : (n - 1) / 2 = n / 2 - 1 := by omega
      have ih := pcK_off k (n / 2) (by omega) (by omega)
      rw [hn, e1]
      omega
    · have e1 : (n - 1) / 2 = n / 2 := by omega
      have e2 : (n - 1) % 2 = 0 := by omega
      rw [hn, e1, e2, Nat.and_self]
      omega
theorem off_lt {n : Nat} (h : 0 < n) : n &&& (n - 1) < n := Nat.lt_of_le_of_lt Nat.and_le_right (by omega)
/-! ### words of 24 places -/
def pc (n : Nat) : Nat := pcK 24 n
def spots (n : Nat) : List Nat := spotsK 24 n
theorem spots_len (n : Nat) : (spots n).length = pc n := spotsK_len 24 n
theorem spots_sum {n : Nat} (h : n < 2 ^ 24) : ((spots n).map (2 ^ ·)).sum = n := by
  unfold spots
  rw [spotsK_sum]
  exact Nat.mod_eq_of_lt h
theorem spots_lt {n i : Nat} (h : i ∈ spots n) : i < 24 := List.mem_range.mp (List.mem_filter.mp h).1
theorem spots_nd (n : Nat) : (spots n).Nodup := List.Nodup.sublist List.filter_sublist List.nodup_range
theorem pc_le (n : Nat) : pc n ≤ 24 := by
  rw [← spots_len]
  exact Nat.le_trans (List.length_filter_le _ _) (by rw [List.length_range]; exact Nat.le_refl _)
theorem pc_off {n : Nat} (h0 : 0 < n) (h : n < 2 ^ 24) : pc (n &&& (n - 1)) + 1 = pc n := pcK_off 24 n h0 h
theorem pc_half {n : Nat} (h : n < 2 ^ 24) : n % 2 + pc (n / 2) = pc n := pcK_half 23 n h
theorem pc_two (a b : Nat) : pc a + pc b = pc (a ^^^ b) + 2 * pc (a &&& b) := pcK_two 24 a b
theorem pc_zero : pc 0 = 0 := pcK_zero 24
theorem pc_dist (a b c : Nat) : pc ((a ^^^ c) &&& b) % 2 = (pc (a &&& b) + pc (c &&& b)) % 2 := by
  have e : (a ^^^ c) &&& b = (a &&& b) ^^^ (c &&& b) := by
    apply Nat.eq_of_testBit_eq
    intro i
    simp only [Nat.testBit_and, Nat.testBit_xor]
    cases a.testBit i <;> cases b.testBit i <;> cases c.testBit i <;> rfl
  have := pc_two (a &&& b) (c &&& b)
  rw [e]
  omega
theorem perm_sum {l l' : List Nat} (h : l.Perm l') : (l.map (2 ^ ·)).sum = (l'.map (2 ^ ·)).sum := (h.map _).sum_nat
end Vf

namespace Vf
/-! ### rooms: words under ^^^ -/
def Lin (S : Nat → Prop) : Prop := S 0 ∧ ∀ a b, S a → S b → S (a ^^^ b)
/-- the room that the words make -/
def span (ws : List Nat) (v : Nat) : Prop := ∀ S : Nat → Prop, Lin S → (∀ w ∈ ws, S w) → S v
theorem span_zero (ws : List Nat) : span ws 0 := fun _ h _ => h.1
theorem span_xor {ws : List Nat} {a b : Nat} (ha : span ws a) (hb : span ws b) : span ws (a ^^^ b) := fun S h k => h.2 _ _ (ha S h k) (hb S h k)
theorem span_mem {ws : List Nat} {a : Nat} (h : a ∈ ws) : span ws a := fun _ _ k => k a h
theorem span_lin (ws : List Nat) : Lin (span ws) := ⟨span_zero ws, fun _ _ => span_xor⟩
theorem span_sub {ws vs : List Nat} (h : ∀ w ∈ ws, span vs w) {a : Nat} (ha : span ws a) : span vs a := ha _ (span_lin vs) h
theorem span_iff {ws vs : List Nat} (h : ∀ w ∈ ws, span vs w) (h' : ∀ w ∈ vs, span ws w) (a : Nat) : span ws a ↔ span vs a := ⟨span_sub h, span_sub h'⟩
theorem span_perm {ws vs : List Nat} (h : ws.Perm vs) (a : Nat) : span ws a ↔ span vs a := span_iff (fun _ k => span_mem (h.mem_iff.mp k)) (fun _ k => span_mem (h.mem_iff.mpr k)) a
theorem xor_cancel (a b : Nat) : (a ^^^ b) ^^^ b = a := by rw [Nat.xor_assoc, Nat.xor_self, Nat.xor_zero]
theorem span_nil {a : Nat} (h : span [] a) : a = 0 := h (fun v => v = 0) ⟨rfl, fun a b h1 h2 => by rw [h1, h2]; rfl⟩ (fun _ k => (List.not_mem_nil k).elim)
theorem span_cons {w : Nat} {ws : List Nat} {a : Nat} : span (w :: ws) a ↔ span ws a ∨ span ws (a ^^^ w) := by
  constructor
  · intro h
    refine h (fun v => span ws v ∨ span ws (v ^^^ w)) ⟨.inl (span_zero ws), fun a b ha hb => ?_⟩ fun v hv => ?_
    · rcases ha with ha | ha <;> rcases hb with hb | hb
      · exact .inl (span_xor ha hb)
      · refine .inr ?_
        rw [Nat.xor_assoc]
        exact span_xor ha hb
      · refine .inr ?_
        rw [Nat.xor_assoc, Nat.xor_comm b w, ← Nat.xor_assoc]
        exact span_xor ha hb
      · refine .inl ?_
        have := span_xor ha hb
        rw [Nat.xor_assoc, Nat.xor_comm b w, ← Nat.xor_assoc w, Nat.xor_self, Nat.zero_xor] at this
        exact this
    · rcases List.mem_cons.mp hv with rfl | hv
      · refine .inr ?_
        rw [Nat.xor_self]
        exact span_zero ws
      · exact .inl (span_mem hv)
  · have up : ∀ {v}, span ws v → span (w :: ws) v := fun h => span_sub (fun v k => span_mem (List.mem_cons_of_mem _ k)) h
    rintro (h | h)
    · exact up h
    · have := span_xor (up h) (span_mem (ws := w :: ws) List.mem_cons_self)
      rwa [xor_cancel] at this
theorem span_append_of {ws vs : List Nat} {a : Nat} (h : ∀ v ∈ vs, span ws v) : span (ws ++ vs) a ↔ span ws a :=
  span_iff (fun w k => (List.mem_append.mp k).elim span_mem (h w)) (fun w k => span_mem (List.mem_append_left _ k)) a
theorem span_lt {ws : List Nat} {n a : Nat} (h : ∀ w ∈ ws, w < 2 ^ n) (ha : span ws a) : a < 2 ^ n :=
  ha (fun v => v < 2 ^ n) ⟨Nat.two_pow_pos n, fun _ _ => Nat.xor_lt_two_pow⟩ h
/-! ### tops -/
theorem top_bit {b : Nat} (h : b ≠ 0) : b.testBit b.log2 = true := by
  have h1 := Nat.log2_self_le h
  have h2 : b < 2 ^ (b.log2 + 1) := (Nat.log2_lt h).mp (Nat.lt_succ_self _)
  rw [Nat.testBit_eq_decide_div_mod_eq]
  have h3 : b / 2 ^ b.log2 = 1 := by
    rw [Nat.pow_succ] at h2
    apply Nat.div_eq_of_lt_le
    · omega
    · omega
  rw [h3]
  rfl
theorem bit_above {b i : Nat} (h : b.log2 < i) : b.testBit i = false := by
  by_cases h0 : b = 0
  · subst h0
    exact Nat.zero_testBit i
  · apply Nat.testBit_lt_two_pow
    exact (Nat.log2_lt h0).mp h
theorem log_of {b i : Nat} (h1 : b.testBit i = true) (h2 : ∀ j, i < j → b.testBit j = false) : b ≠ 0 ∧ b.log2 = i := by
  have h0 : b ≠ 0 := by
    rintro rfl
    rw [Nat.zero_testBit] at h1
    cases h1
  refine ⟨h0, ?_⟩
  have a := top_bit h0
  rcases Nat.lt_trichotomy b.log2 i with h | h | h
  · rw [bit_above h] at h1
    cases h1
  · exact h
  · rw [h2 _ h] at a
    cases a
theorem lt_xor {b u : Nat} (hu : u ≠ 0) (h : b.testBit u.log2 = false) : b < b ^^^ u := by
  have e1 : (b ^^^ u) >>> u.log2 = (b >>> u.log2) ^^^ (u >>> u.log2) := Nat.shiftRight_xor_distrib ..
  have e2 : u >>> u.log2 = 1 := by
    rw [Nat.shiftRight_eq_div_pow]
    have h1 := Nat.log2_self_le hu
    have h2 : u < 2 ^ (u.log2 + 1) := (Nat.log2_lt hu).mp (Nat.lt_succ_self _)
    rw [Nat.pow_succ] at h2
    apply Nat.div_eq_of_lt_le <;> omega
  have e3 : (b >>> u.log2) % 2 = 0 := by
    rw [Nat.testBit_eq_decide_div_mod_eq] at h
    have := of_decide_eq_false h
    rw [Nat.shiftRight_eq_div_pow]
    omega
  rw [e2] at e1
  have m1 := xor_mod2 (b >>> u.log2) 1
  have m2 := xor_div2 (b >>> u.log2) 1
  rw [show 1 / 2 = 0 from rfl, Nat.xor_zero] at m2
  rw [← e1] at m1 m2
  have lt : b >>> u.log2 < (b ^^^ u) >>> u.log2 := by omega
  rw [Nat.shiftRight_eq_div_pow, Nat.shiftRight_eq_div_pow] at lt
  refine Nat.lt_of_not_le fun k => ?_
  have := Nat.div_le_div_right (c := 2 ^ u.log2) k
  omega
theorem lt_pow_log {b n : Nat} (h : b ≠ 0) : b < 2 ^ n ↔ b.log2 < n := (Nat.log2_lt h).symm
/-! ### plain bases -/
def Off (b c : Nat) : Prop := c.testBit b.log2 = false ∧ b.testBit c.log2 = false
/-- each top is off in all others -/
def Piv (B : List Nat) : Prop := B.Pairwise Off ∧ ∀ b ∈ B, b ≠ 0
def Plain (B : List Nat) : Prop := Piv B ∧ B.Pairwise (· > ·)
theorem Off.symm {b c : Nat} (h : Off b c) : Off c b := ⟨h.2, h.1⟩
theorem piv_nodup {B : List Nat} (h : Piv B) : B.Nodup := by
  refine h.1.imp_of_mem fun {a b} ha hb o e => ?_
  subst e
  have := top_bit (h.2 a ha)
  rw [o.1] at this
  cases this
theorem piv_perm {B C : List Nat} (p : B.Perm C) (h : Piv B) : Piv C :=
  ⟨p.pairwise h.1 fun h => h.symm, fun b k => h.2 b (p.mem_iff.mpr k)⟩
theorem piv_off {B : List Nat} (h : Piv B) {b c : Nat} (hb : b ∈ B) (hc : c ∈ B) (n : b ≠ c) : c.testBit b.log2 = false := by
  obtain ⟨i, hi, rfl⟩ := List.getElem_of_mem hb
  obtain ⟨j, hj, rfl⟩ := List.getElem_of_mem hc
  rcases Nat.lt_trichotomy i j with k | k | k
  · exact (List.pairwise_iff_getElem.mp h.1 i j hi hj k).1
  · subst k
    exact absurd rfl n
  · exact (List.pairwise_iff_getElem.mp h.1 j i hj hi k).2
def hiN (b : Nat) : Nat := 2 ^ b.log2
def rest1 (r b : Nat) : Nat := if r.testBit b.log2 = true then r ^^^ b else r
def restOf (w : Nat) (B : List Nat) : Nat := B.foldl rest1 w
/-- the sum of the basis words whose tops are on -/
def comb (v : Nat) : List Nat → Nat
  | [] => 0
  | b :: B => (if v.testBit b.log2 = true then b else 0) ^^^ comb v B
theorem comb_nil (v : Nat) : comb v [] = 0 := rfl
theorem comb_cons (v b : Nat) (B : List Nat) : comb v (b :: B) = (if v.testBit b.log2 = true then b else 0) ^^^ comb v B := rfl
theorem comb_same {v u : Nat} : ∀ {B : List Nat}, (∀ b ∈ B, v.testBit b.log2 = u.testBit b.log2) → comb v B = comb u B
  | [], _ => rfl
  | b :: B, h => by
    rw [comb_cons, comb_cons, h b List.mem_cons_self, comb_same fun c k => h c (List.mem_cons_of_mem _ k)]
theorem rest_eq : ∀ {B : List Nat} (w : Nat), Piv B → restOf w B = w ^^^ comb w B
  | [], w, _ => (Nat.xor_zero w).symm
  | b :: B, w, h => by
    have hB : Piv B := ⟨(List.pairwise_cons.mp h.1).2, fun c k => h.2 c (List.mem_cons_of_mem _ k)⟩
    have ho := (List.pairwise_cons.mp h.1).1
    show restOf (rest1 w b) B = _
    rw [rest_eq _ hB]
    have e : comb (rest1 w b) B = comb w B := comb_same fun c k => by
      unfold rest1
      split
      · rw [Nat.testBit_xor, (ho c k).2, Bool.xor_false]
      · rfl
    rw [e]
    rw [comb_cons]
    unfold rest1
    split
    · rw [Nat.xor_assoc]
    · rw [Nat.zero_xor]
theorem comb_xor (a b : Nat) : ∀ B : List Nat, comb (a ^^^ b) B = comb a B ^^^ comb b B
  | [] => by rw [comb_nil, comb_nil, comb_nil]; rfl
  | c :: B => by
    rw [comb_cons, comb_cons, comb_cons, comb_xor a b B, Nat.testBit_xor]
    apply Nat.eq_of_testBit_eq
    intro i
    cases a.testBit c.log2 <;> cases b.testBit c.log2 <;> simp [Nat.testBit_xor] <;> cases c.testBit i <;> cases (comb a B).testBit i <;> cases (comb b B).testBit i <;> rfl
theorem comb_off {v : Nat} : ∀ {B : List Nat}, (∀ b ∈ B, v.testBit b.log2 = false) → comb v B = 0
  | [], _ => rfl
  | b :: B, h => by
    rw [comb_cons]
    rw [h b List.mem_cons_self, comb_off fun c k => h c (List.mem_cons_of_mem _ k), if_neg (by simp)]
    rfl
theorem comb_self : ∀ {B : List Nat} {b : Nat}, Piv B → b ∈ B → comb b B = b
  | c :: B, b, h, k => by
    have hB : Piv B := ⟨(List.pairwise_cons.mp h.1).2, fun c k => h.2 c (List.mem_cons_of_mem _ k)⟩
    have ho := (List.pairwise_cons.mp h.1).1
    rw [comb_cons]
    rcases List.mem_cons.mp k with rfl | k
    · rw [top_bit (h.2 b List.mem_cons_self), if_pos rfl, comb_off fun d kd => (ho d kd).2, Nat.xor_zero]
    · rw [(ho b k).1, comb_self hB k, if_neg (by simp)]
      exact Nat.zero_xor b
theorem comb_zero (B : List Nat) : comb 0 B = 0 := comb_off fun _ _ => Nat.zero_testBit _
theorem comb_span : ∀ (v : Nat) (B : List Nat), span B (comb v B)
  | _, [] => span_zero []
  | v, b :: B => by
    have up := span_sub (ws := B) (vs := b :: B) (fun w k => span_mem (List.mem_cons_of_mem _ k)) (comb_span v B)
    rw [comb_cons]
    split
    · exact span_xor (span_mem List.mem_cons_self) up
    · rw [Nat.zero_xor]
      exact up
theorem span_comb {B : List Nat} (h : Piv B) {v : Nat} (hv : span B v) : comb v B = v :=
  hv (fun v => comb v B = v) ⟨comb_zero B, fun a b (ha : comb a B = a) (hb : comb b B = b) => by show comb (a ^^^ b) B = a ^^^ b; rw [comb_xor, ha, hb]⟩ fun b k => comb_self h k
theorem rest_zero {B : List Nat} (h : Piv B) (w : Nat) : restOf w B = 0 ↔ span B w := by
  rw [rest_eq w h]
  constructor
  · intro e
    have e2 : w = comb w B := by
      have := congrArg (· ^^^ comb w B) e
      simpa [xor_cancel] using this
    rw [e2]
    exact comb_span w B
  · intro hw
    rw [span_comb h hw, Nat.xor_self]
theorem comb_bit {B : List Nat} (h : Piv B) (w : Nat) {b : Nat} (hb : b ∈ B) : (comb w B).testBit b.log2 = w.testBit b.log2 := by
  induction B with
  | nil => cases hb
  | cons c B ih =>
    have hB : Piv B := ⟨(List.pairwise_cons.mp h.1).2, fun c k => h.2 c (List.mem_cons_of_mem _ k)⟩
    have ho := (List.pairwise_cons.mp h.1).1
    rw [comb_cons]
    rcases List.mem_cons.mp hb with rfl | hb
    · have e : (comb w B).testBit b.log2 = false := by
        have : ∀ C : List Nat, (∀ c ∈ C, c.testBit b.log2 = false) → (comb w C).testBit b.log2 = false := by
          intro C
          induction C with
          | nil => intro _; exact Nat.zero_testBit _
          | cons d C ih2 =>
            intro hC
            rw [comb_cons]
            rw [Nat.testBit_xor, ih2 fun c k => hC c (List.mem_cons_of_mem _ k), Bool.xor_false]
            split
            · exact hC d List.mem_cons_self
            · exact Nat.zero_testBit _
        exact this B fun c k => (ho c k).1
      rw [Nat.testBit_xor, e, Bool.xor_false]
      cases hw : w.testBit b.log2
      · rw [if_neg (by simp)]
        exact Nat.zero_testBit _
      · rw [if_pos rfl]
        exact top_bit (h.2 b List.mem_cons_self)
    · rw [Nat.testBit_xor, ih hB hb]
      split
      · rw [(ho b hb).2, Bool.false_xor]
      · rw [Nat.zero_testBit, Bool.false_xor]
theorem rest_off {B : List Nat} (h : Piv B) (w : Nat) {b : Nat} (hb : b ∈ B) : (restOf w B).testBit b.log2 = false := by
  rw [rest_eq w h, Nat.testBit_xor, comb_bit h w hb, Bool.xor_self]
theorem rest_span {B : List Nat} (h : Piv B) (w : Nat) : span B (w ^^^ restOf w B) := by
  rw [rest_eq w h, ← Nat.xor_assoc, Nat.xor_self, Nat.zero_xor]
  exact comb_span w B
/-! ### a word more -/
def clear1 (r b : Nat) : Nat := if b.testBit r.log2 = true then b ^^^ r else b
theorem clear_log {r b : Nat} (hb : b ≠ 0) (hr : r ≠ 0) (h : r.testBit b.log2 = false) : clear1 r b ≠ 0 ∧ (clear1 r b).log2 = b.log2 := by
  unfold clear1
  split
  · rename_i k
    have l : r.log2 < b.log2 := by
      rcases Nat.lt_trichotomy r.log2 b.log2 with l | l | l
      · exact l
      · have := top_bit hr
        rw [l, h] at this
        cases this
      · rw [bit_above l] at k
        cases k
    refine log_of ?_ fun j hj => ?_
    · rw [Nat.testBit_xor, top_bit hb, h]
      rfl
    · rw [Nat.testBit_xor, bit_above hj, bit_above (Nat.lt_trans l hj)]
      rfl
  · exact ⟨hb, rfl⟩
theorem clear_bit {r b i : Nat} (h : r.testBit i = false) : (clear1 r b).testBit i = b.testBit i := by
  unfold clear1
  split
  · rw [Nat.testBit_xor, h, Bool.xor_false]
  · rfl
theorem clear_off {r b : Nat} (hr : r ≠ 0) : (clear1 r b).testBit r.log2 = false := by
  unfold clear1
  split
  · rename_i k
    rw [Nat.testBit_xor, k, top_bit hr]
    rfl
  · rename_i k
    simpa using k
/-- the basis with the rest put in, in any sequence -/
theorem put_piv {B : List Nat} {r : Nat} (h : Piv B) (hr : r ≠ 0) (ho : ∀ b ∈ B, r.testBit b.log2 = false) : Piv (B.map (clear1 r) ++ [r]) := by
  constructor
  · rw [List.pairwise_append]
    refine ⟨?_, List.pairwise_singleton _ _, fun a ha b hb => ?_⟩
    · rw [List.pairwise_map]
      refine h.1.imp_of_mem fun {a b} ha hb o => ?_
      have la := (clear_log (h.2 a ha) hr (ho a ha)).2
      have lb := (clear_log (h.2 b hb) hr (ho b hb)).2
      exact ⟨by rw [la, clear_bit (ho a ha)]; exact o.1, by rw [lb, clear_bit (ho b hb)]; exact o.2⟩
    · rw [List.mem_singleton.mp hb]
      obtain ⟨c, hc, rfl⟩ := List.mem_map.mp ha
      have lc := (clear_log (h.2 c hc) hr (ho c hc)).2
      exact ⟨by rw [lc]; exact ho c hc, clear_off hr⟩
  · intro b hb
    rcases List.mem_append.mp hb with hb | hb
    · obtain ⟨c, hc, rfl⟩ := List.mem_map.mp hb
      exact (clear_log (h.2 c hc) hr (ho c hc)).1
    · rw [List.mem_singleton.mp hb]
      exact hr
theorem clear_span {C : List Nat} {r b : Nat} (hr : span C r) : span C (clear1 r b) ↔ span C b := by
  unfold clear1
  split
  · constructor
    · intro k
      have := span_xor k hr
      rwa [xor_cancel] at this
    · exact fun k => span_xor k hr
  · exact Iff.rfl
theorem put_span (B : List Nat) (r a : Nat) : span (B.map (clear1 r) ++ [r]) a ↔ span (r :: B) a := by
  refine span_iff (fun w hw => ?_) (fun w hw => ?_) a
  · rcases List.mem_append.mp hw with hw | hw
    · obtain ⟨c, hc, rfl⟩ := List.mem_map.mp hw
      exact (clear_span (span_mem List.mem_cons_self)).mpr (span_mem (List.mem_cons_of_mem _ hc))
    · rw [List.mem_singleton.mp hw]
      exact span_mem List.mem_cons_self
  · have hr : span (B.map (clear1 r) ++ [r]) r := span_mem (List.mem_append_right _ List.mem_cons_self)
    rcases List.mem_cons.mp hw with rfl | hw
    · exact hr
    · exact (clear_span hr).mp (span_mem (List.mem_append_left _ (List.mem_map_of_mem hw)))
/-- the room of the basis with the rest is that with the word -/
theorem rest_room {B : List Nat} (h : Piv B) (w a : Nat) : span (restOf w B :: B) a ↔ span (w :: B) a := by
  have up : ∀ {u v}, span B v → span (u :: B) v := fun k => span_sub (fun v k => span_mem (List.mem_cons_of_mem _ k)) k
  refine span_iff (fun v hv => ?_) (fun v hv => ?_) a
  · rcases List.mem_cons.mp hv with rfl | hv
    · have := span_xor (up (u := w) (rest_span h w)) (span_mem (ws := w :: B) List.mem_cons_self)
      rwa [Nat.xor_comm w, xor_cancel] at this
    · exact up (span_mem hv)
  · rcases List.mem_cons.mp hv with rfl | hv
    · have := span_xor (up (u := restOf v B) (rest_span h v)) (span_mem (ws := restOf v B :: B) List.mem_cons_self)
      rwa [xor_cancel] at this
    · exact up (span_mem hv)
/-! ### a plain basis is told by its room -/
theorem plain_logs {B : List Nat} (h : Plain B) : B.Pairwise fun b c => c.log2 < b.log2 := by
  refine (List.Pairwise.and h.1.1 h.2).imp_of_mem fun {b c} hb hc k => ?_
  obtain ⟨o, gt⟩ := k
  rcases Nat.lt_trichotomy c.log2 b.log2 with l | l | l
  · exact l
  · have := top_bit (h.1.2 c hc)
    rw [l, o.1] at this
    cases this
  · exfalso
    have h1 : b < 2 ^ c.log2 := (lt_pow_log (h.1.2 b hb)).mpr l
    have h2 := Nat.log2_self_le (h.1.2 c hc)
    have h3 : b > c := gt
    omega
theorem comb_log : ∀ {B : List Nat} {u : Nat}, (∀ b ∈ B, b ≠ 0) → B.Pairwise (fun b c => c.log2 < b.log2) → comb u B ≠ 0 → ∃ c ∈ B, u.testBit c.log2 = true ∧ (comb u B).log2 = c.log2
  | [], u, _, _, h => absurd (comb_nil u) h
  | b :: B, u, h0, hp, h => by
    have hp2 := List.pairwise_cons.mp hp
    cases k : u.testBit b.log2 with
    | true =>
      refine ⟨b, List.mem_cons_self, k, ?_⟩
      have small : comb u B < 2 ^ b.log2 := by
        refine span_lt (ws := B) (fun c hc => (lt_pow_log (h0 c (List.mem_cons_of_mem _ hc))).mpr (hp2.1 c hc)) (comb_span u B)
      rw [comb_cons, if_pos k]
      refine (log_of ?_ fun j hj => ?_).2
      · rw [Nat.testBit_xor, top_bit (h0 b List.mem_cons_self), Nat.testBit_lt_two_pow small]
        rfl
      · rw [Nat.testBit_xor, bit_above hj, Nat.testBit_lt_two_pow (Nat.lt_trans small (Nat.pow_lt_pow_right (by decide) hj))]
        rfl
    | false =>
      have e : comb u (b :: B) = comb u B := by
        rw [comb_cons, k, if_neg (by simp), Nat.zero_xor]
      rw [e] at h ⊢
      obtain ⟨c, hc, r⟩ := comb_log (fun c hc => h0 c (List.mem_cons_of_mem _ hc)) hp2.2 h
      exact ⟨c, List.mem_cons_of_mem _ hc, r⟩
theorem span_log {B : List Nat} (h : Plain B) {u : Nat} (hu : span B u) (h0 : u ≠ 0) : ∃ c ∈ B, u.log2 = c.log2 := by
  have e := span_comb h.1 hu
  obtain ⟨c, hc, _, l⟩ := comb_log (u := u) h.1.2 (plain_logs h) (by rw [e]; exact h0)
  rw [e] at l
  exact ⟨c, hc, l⟩
theorem basis_least {B : List Nat} (h : Plain B) {b v : Nat} (hb : b ∈ B) (hv : span B v) (h0 : v ≠ 0) (l : v.log2 = b.log2) : b ≤ v := by
  by_cases e : v = b
  · omega
  · have hu : span B (v ^^^ b) := span_xor hv (span_mem hb)
    have u0 : v ^^^ b ≠ 0 := fun z => e (by
      have := congrArg (· ^^^ b) z
      simpa [xor_cancel] using this)
    obtain ⟨c, hc, lc⟩ := span_log h hu u0
    have n : c ≠ b := by
      rintro rfl
      have t := top_bit u0
      rw [lc, Nat.testBit_xor, top_bit (h.1.2 c hb), ← l, top_bit h0] at t
      cases t
    have off : b.testBit (v ^^^ b).log2 = false := by
      rw [lc]
      exact piv_off h.1 hc hb n
    have := lt_xor u0 off
    rw [Nat.xor_comm v b, ← Nat.xor_assoc, Nat.xor_self, Nat.zero_xor] at this
    omega
/-- the words of a plain basis: of each top the least word of the room -/
theorem basis_iff {B : List Nat} (h : Plain B) (v : Nat) : v ∈ B ↔ span B v ∧ v ≠ 0 ∧ ∀ u, span B u → u < v → u < 2 ^ v.log2 := by
  constructor
  · intro hv
    refine ⟨span_mem hv, h.1.2 v hv, fun u hu lt => ?_⟩
    by_cases u0 : u = 0
    · rw [u0]
      exact Nat.two_pow_pos _
    · refine (lt_pow_log u0).mpr ?_
      rcases Nat.lt_trichotomy u.log2 v.log2 with l | l | l
      · exact l
      · have := basis_least h hv hu u0 l
        omega
      · have h1 : v < 2 ^ u.log2 := (lt_pow_log (h.1.2 v hv)).mpr l
        have h2 := Nat.log2_self_le u0
        omega
  · rintro ⟨hv, h0, least⟩
    obtain ⟨c, hc, l⟩ := span_log h hv h0
    have le := basis_least h hc hv h0 l
    rcases Nat.lt_or_ge c v with lt | ge
    · have := least c (span_mem hc) lt
      have h2 := Nat.log2_self_le (h.1.2 c hc)
      rw [l] at this
      omega
    · have : v = c := by omega
      rw [this]
      exact hc
theorem asc_eq : ∀ {l m : List Nat}, l.Pairwise (· > ·) → m.Pairwise (· > ·) → (∀ x, x ∈ l ↔ x ∈ m) → l = m
  | [], [], _, _, _ => rfl
  | [], x :: m, _, _, h => ((List.not_mem_nil ((h x).mpr List.mem_cons_self))).elim
  | x :: l, [], _, _, h => ((List.not_mem_nil ((h x).mp List.mem_cons_self))).elim
  | x :: l, y :: m, hl, hm, h => by
    have h1 := List.pairwise_cons.mp hl
    have h2 := List.pairwise_cons.mp hm
    have e : x = y := by
      rcases List.mem_cons.mp ((h x).mp List.mem_cons_self) with k | k
      · exact k
      · rcases List.mem_cons.mp ((h y).mpr List.mem_cons_self) with k2 | k2
        · exact k2.symm
        · have := h2.1 x k
          have := h1.1 y k2
          omega
    subst e
    congr 1
    refine asc_eq h1.2 h2.2 fun z => ⟨fun hz => ?_, fun hz => ?_⟩
    · rcases List.mem_cons.mp ((h z).mp (List.mem_cons_of_mem _ hz)) with k | k
      · have := h1.1 z hz
        omega
      · exact k
    · rcases List.mem_cons.mp ((h z).mpr (List.mem_cons_of_mem _ hz)) with k | k
      · have := h2.1 z hz
        omega
      · exact k
theorem plain_unique {B C : List Nat} (hB : Plain B) (hC : Plain C) (h : ∀ v, span B v ↔ span C v) : B = C :=
  asc_eq hB.2 hC.2 fun v => by
    rw [basis_iff hB, basis_iff hC, h v]
    constructor
    · rintro ⟨a, b, c⟩
      exact ⟨a, b, fun u hu => c u ((h u).mpr hu)⟩
    · rintro ⟨a, b, c⟩
      exact ⟨a, b, fun u hu => c u ((h u).mp hu)⟩
/-! ### all sums -/
def sumsOf (B : List Nat) : List Nat := B.foldl (fun s b => s ++ s.map (· ^^^ b)) [0]
theorem sums_gen : ∀ (B C s : List Nat), (∀ v, v ∈ s ↔ span C v) → s.Nodup → Piv (C ++ B) →
    (∀ v, v ∈ B.foldl (fun s b => s ++ s.map (· ^^^ b)) s ↔ span (C ++ B) v) ∧ (B.foldl (fun s b => s ++ s.map (· ^^^ b)) s).Nodup ∧ (B.foldl (fun s b => s ++ s.map (· ^^^ b)) s).length = s.length * 2 ^ B.length
  | [], C, s, h, nd, _ => ⟨by rw [List.append_nil]; exact h, nd, by simp⟩
  | b :: B, C, s, h, nd, hp => by
    have hCB : C ++ b :: B = (C ++ [b]) ++ B := by rw [List.append_assoc]; rfl
    have hC : Piv (C ++ [b]) := by
      rw [hCB] at hp
      exact ⟨(List.pairwise_append.mp hp.1).1, fun c hc => hp.2 c (List.mem_append_left _ hc)⟩
    have pv : Piv C := ⟨(List.pairwise_append.mp hC.1).1, fun c hc => hC.2 c (List.mem_append_left _ hc)⟩
    have nb : ¬ span C b := fun k => by
      have := (rest_zero pv b).mpr k
      rw [rest_eq b pv, comb_off fun c hc => ((List.pairwise_append.mp hC.1).2.2 c hc b List.mem_cons_self).1, Nat.xor_zero] at this
      exact hC.2 b (List.mem_append_right _ List.mem_cons_self) this
    have key : ∀ v, v ∈ s ++ s.map (· ^^^ b) ↔ span (C ++ [b]) v := fun v => by
      rw [List.mem_append, h, List.mem_map, (span_perm (List.perm_append_comm (l₁ := C) (l₂ := [b])) v)]
      show _ ↔ span (b :: C) v
      rw [span_cons]
      refine or_congr Iff.rfl ⟨?_, fun k => ⟨v ^^^ b, (h _).mpr k, xor_cancel v b⟩⟩
      rintro ⟨u, hu, rfl⟩
      rw [xor_cancel]
      exact (h u).mp hu
    have nd2 : (s ++ s.map (· ^^^ b)).Nodup := by
      rw [List.nodup_append]
      refine ⟨nd, ?_, fun x hx y hy e => ?_⟩
      · unfold List.Nodup
        rw [List.pairwise_map]
        exact nd.imp fun n e => n (by
          have := congrArg (· ^^^ b) e
          simpa [xor_cancel] using this)
      · subst e
        obtain ⟨u, hu, e⟩ := List.mem_map.mp hy
        apply nb
        have := span_xor ((h u).mp hu) ((h x).mp hx)
        rw [← e, ← Nat.xor_assoc, Nat.xor_self, Nat.zero_xor] at this
        exact this
    have r := sums_gen B (C ++ [b]) _ key nd2 (by rw [← hCB]; exact hp)
    rw [← hCB] at r
    refine ⟨r.1, r.2.1, ?_⟩
    show (List.foldl _ (s ++ s.map (· ^^^ b)) B).length = _
    rw [r.2.2, List.length_append, List.length_map, List.length_cons, Nat.pow_succ]
    rw [← Nat.mul_two, Nat.mul_assoc, Nat.mul_comm 2]
theorem sums_ok {B : List Nat} (h : Piv B) : (∀ v, v ∈ sumsOf B ↔ span B v) ∧ (sumsOf B).Nodup ∧ (sumsOf B).length = 2 ^ B.length := by
  have r := sums_gen B [] [0] (fun v => ⟨fun k => by rw [List.mem_singleton.mp k]; exact span_zero _, fun k => List.mem_singleton.mpr (span_nil k)⟩) (by simp) h
  refine ⟨r.1, r.2.1, ?_⟩
  rw [show (sumsOf B).length = _ from r.2.2]
  simp
end Vf

namespace Vf
open PySem PySem.Spec PyProof.Rows L2
/-! ### a def that is called: what a caller needs of it -/
def Cal (P : Program) (w : World) (K : PySem.W.Frag) (mg : Str → Option Value) (base : Heap) (x : Str) (k : Nat) (ps : List Str) (dvs : List V) (sp : Sp) : Prop :=
  ∃ (f : Addr) (fd : FuncData) (ds : List Value), FnOk P w K mg base CX0 k f fd ps sp ∧ mg x = some (.ref f) ∧ PySem.W.keepIn K (.ref f) = true ∧ Binds K fd ps ds ∧ Vals dvs ds
def CalK (P : Program) (w : World) (K : PySem.W.Frag) (mg : Str → Option Value) (base : Heap) (x : Str) (k : Nat) (ps ks : List Str) (gV : List V → List V → List V) (sp : Sp) : Prop :=
  ∃ (f : Addr) (fd : FuncData) (g : List Value → List Value → List Value), FnOk P w K mg base CX0 k f fd ps sp ∧ mg x = some (.ref f) ∧ PySem.W.keepIn K (.ref f) = true ∧ KBn K fd ps 0 ks g gV
section
variable {X : Cx} {k : Nat} {ps ks : List Str} {dvs : List V} {sp : Sp} {x : Str} {p pos : Pos}
  {e : Expr} {es : List Expr} {kws : List Keyword} {t tk : TA} {gV : List V → List V → List V}
theorem pe_cal (C : Cal X.prog X.w X.K X.mg X.base x k ps dvs sp) (hr : Room k X.A) (hg : Gl X x) (ha : PA X (e :: es) t)
    (hdb : (x == ("__debug__" : Str)) = false := by decide) (he : starEach (e :: es) X.env = (false, eval e X.env) :: starEach es X.env := by rfl)
    (hpl : (backTo pos (starEach es X.env)).any (·.1) = false := by rfl) : PE X (.Call (.Name x p) (e :: es) [] pos) (tCall sp dvs E0 t) := by
  obtain ⟨f, fd, ds, F, gm, kp, b, hv⟩ := C
  exact pe_call F hr hg gm kp b hv pass0 ha hdb he hpl
theorem pe_calKw (C : CalK X.prog X.w X.K X.mg X.base x k ps ks gV sp) (hr : Room k X.A) (hg : Gl X x) (hkw : PK X kws tk)
    (hall : (backToKw pos (keywordEach kws X.env)).all (·.1.isSome) = true := by rfl)
    (hks : (backToKw pos (keywordEach kws X.env)).filterMap (·.1) = ks := by rfl)
    (hdb : (x == ("__debug__" : Str)) = false := by decide)
    (hpl : ((backTo pos (starEach [] X.env)).any (·.1) || (backToKw pos (keywordEach kws X.env)).any (·.1.isNone)) = false := by rfl) :
    PE X (.Call (.Name x p) [] kws pos) (fun σ H Q => tk σ H fun zs H1 => zs.length = ks.length ∧ sp (gV [] zs) H1 Q E0) := by
  obtain ⟨f, fd, g, F, gm, kp, b⟩ := C
  exact pe_callKw F hr hg gm kp b pass0 hkw hall hks hdb hpl
end
/-! ### heaps -/
theorem same_new {H : Hp} {p : Addr} {o : HO} (h : H p = none) : Same H (upd H p o) := fun b x e => by
  rw [upd_ne (ne_of_none e h)]
  exact e
/-- all that was tracked stands, but what is at p -/
def But (p : Addr) (H H' : Hp) : Prop := ∀ b o, b ≠ p → H b = some o → H' b = some o
theorem But.refl (p : Addr) (H : Hp) : But p H H := fun _ _ _ h => h
theorem But.trans {p : Addr} {H H1 H2 : Hp} (a : But p H H1) (b : But p H1 H2) : But p H H2 := fun c o n h => b c o n (a c o n h)
theorem But.of {p : Addr} {H H' : Hp} (s : Same H H') : But p H H' := fun b o _ h => s b o h
theorem But.upd {p : Addr} {H H' : Hp} {o : HO} (s : But p H H') : But p H (upd H' p o) := fun b x n h => by
  rw [upd_ne n]
  exact s b x n h
theorem But.seq {K : PySem.W.Frag} {p a : Addr} {H H' : Hp} {xs : List V} (s : But p H H') (h : SqL K H a xs) (hp : ∀ o, H p = some o → a ≠ p) (hx : (∃ o, H p = some o)) : SqL K H' a xs := by
  obtain ⟨o, ho⟩ := hx
  have n := hp o ho
  rcases h with (h | ⟨u, h⟩) | h
  · exact .inl (.inl (s _ _ n h))
  · exact .inl (.inr ⟨u, s _ _ n h⟩)
  · exact .inr h
/-- naturals as a list of values -/
def vs (l : List Nat) : List V := l.map fun i => V.int (i : Nat)
theorem vs_int (l : List Nat) : vs l = (l.map fun i : Nat => (i : Int)).map V.int := by
  unfold vs
  rw [List.map_map]
  rfl
theorem bl_t {p : Prop} [Decidable p] (h : p) : V.bl (decide p) = V.bl true := by rw [decide_eq_true h]
theorem bl_f {p : Prop} [Decidable p] (h : ¬ p) : V.bl (decide p) = V.bl false := by rw [decide_eq_false h]
theorem sl_lt {n : Nat} (h : n ≤ 100000) : n < sizeLine := Nat.lt_of_le_of_lt h (by decide)
end Vf

namespace Vf
open PySem PySem.Spec PyProof.Rows L2
/-! ### len(set(t)), t a tuple of unlike ints -/
def tLenSetT (K : PySem.W.Frag) (ta : TE) : TE := fun σ H Q => ta σ H fun x H1 => ∃ (l : Addr) (ns : List Int),
  x = .ref l ∧ SqT K H1 l (ns.map V.int) ∧ ns.Nodup ∧ ns.length ≤ 1000 ∧ Q (.int (ns.length : Nat)) H1
theorem pe_lenSetT {X : Cx} {a : Expr} {ta : TE} {p p2 q pos : Pos} (hg : Gl X "len") (hm : X.mg "len" = none)
    (hg2 : Gl X "set") (hm2 : X.mg "set" = none) (ha : PE X a ta) (hc : X.calm = true := by rfl)
    (na : starEach [a] X.env = (false, eval a X.env) :: starEach [] X.env := by rfl) :
    PE X (.Call (.Name "len" p) [.Call (.Name "set" p2) [a] [] q] [] pos) (tLenSetT X.K ta) := by
  refine ⟨fun pins s σ H Q I h => Call_ (ld_blt I hg hm PySem.boot_len ?_)⟩
  refine callWith_builtin1 (args_cons (Call_ (ld_blt I hg2 hm2 PyProof.Rows.boot_set ?_)) rfl) rfl rfl
  refine callWith_type1 (args_cons (thn (ha.run pins s σ H _ I h) fun v s1 z => args_nil ?_) na) na rfl
  obtain ⟨x, H1, I1, r1, l, ns, rfl, hq, nd, hl, q1⟩ := z
  cases r1
  obtain ⟨its, rv, pt, hz⟩ := I1.tuple hq
  have hi : IntsAre its.toArray.toList ns := ints_of_vals rv
  refine call_set_tupI ns (I1.ok.hd hc) (show s1.heap.IsTuple l its.toArray from pt) hi (by unfold scanBound; omega) fun h' tk c R1 hcn k => ?_
  obtain ⟨o, es, ep, t, ho, hex, hdt, g, nd2, hm3, hb, hf, hn, hr, hl2⟩ := R1
  have e1 : es.size = ns.length := by
    have pm : (es.toList.map keyOf).Perm ns := (List.perm_ext_iff_of_nodup nd2 nd).mpr fun z => by
      rw [← hm3 z]
      exact decide_eq_true_iff
    have := pm.length_eq
    rw [List.length_map, Array.length_toList] at this
    exact this
  have I2 : Inv X pins σ H1 { s1 with heap := h', toks := tk } := I1.kept fun b o e => k b o e
  refine args_nil (call_len_set ho hex hdt hf (by rw [e1]; omega) ⟨.int ns.length, H1, I2.tok _, ⟨_, by rw [e1]⟩, q1⟩)
/-! ### operators on numbers that are not negative -/
section
variable {X : Cx}
theorem op_andN : OpR X (binaryOp .BitAnd) (fun x y H Q => ∃ a b : Nat, x = .int a ∧ y = .int b ∧ Q (.int ((a &&& b : Nat) : Int)) H) := by
  rintro pins s σ H x y v u Q I rx ry ⟨a, b, rfl, rfl, q⟩
  refine op_and pins s σ H _ _ v u Q I rx ry ⟨a, b, rfl, rfl, ?_⟩
  show Q (.int (Builtin.bitAnd a b)) H
  rw [bitAnd_pp (by omega) (by omega)]
  exact q
theorem op_xorN : OpR X (binaryOp .BitXor) (fun x y H Q => ∃ a b : Nat, x = .int a ∧ y = .int b ∧ Q (.int ((a ^^^ b : Nat) : Int)) H) := by
  rintro pins s σ H x y v u Q I rx ry ⟨a, b, rfl, rfl, q⟩
  refine op_xor pins s σ H _ _ v u Q I rx ry ⟨a, b, rfl, rfl, ?_⟩
  show Q (.int (Builtin.bitXor a b)) H
  rw [Bits.bitXor_pp (by omega) (by omega)]
  exact q
theorem op_shrNN : OpR X (binaryOp .RShift) (fun x y H Q => ∃ a b : Nat, x = .int a ∧ y = .int b ∧ Q (.int ((a / 2 ^ b : Nat) : Int)) H) := by
  rintro pins s σ H x y v u Q I rx ry ⟨a, b, rfl, rfl, q⟩
  refine op_shrN pins s σ H _ _ v u Q I rx ry ⟨a, b, rfl, rfl, ?_⟩
  have e : (a : Int) / 2 ^ b = ((a / 2 ^ b : Nat) : Int) := by rw [Int.natCast_ediv, Int.natCast_pow] <;> rfl
  rw [e]
  exact q
theorem op_modNN : OpR X (binaryOp .Mod) (fun x y H Q => ∃ a b : Nat, x = .int a ∧ y = .int b ∧ 0 < b ∧ Q (.int ((a % b : Nat) : Int)) H) := by
  rintro pins s σ H x y v u Q I rx ry ⟨a, b, rfl, rfl, hb, q⟩
  refine op_modN pins s σ H _ _ v u Q I rx ry ⟨a, b, rfl, rfl, by show (b : Int) ≠ 0; omega, ?_⟩
  show Q (.int (Int.fmod (a : Int) b)) H
  rw [Int.fmod_eq_emod_of_nonneg _ (by omega)]
  exact q
theorem op_eqN : OpR X (compareOp .Eq) (fun x y H Q => ∃ a b : Nat, x = .int a ∧ y = .int b ∧ Q (.bl (decide (a = b))) H) := by
  rintro pins s σ H x y v u Q I rx ry ⟨a, b, rfl, rfl, q⟩
  refine op_eq pins s σ H _ _ v u Q I rx ry ⟨rfl, ?_⟩
  have e : decide (V.int (a : Int) = V.int (b : Int)) = decide (a = b) := decide_eq_decide.mpr ⟨fun z => by injection z with z; omega, fun z => by rw [z]⟩
  rw [e]
  exact q
theorem op_neN : OpR X (compareOp .NotEq) (fun x y H Q => ∃ a b : Nat, x = .int a ∧ y = .int b ∧ Q (.bl (!decide (a = b))) H) := by
  rintro pins s σ H x y v u Q I rx ry ⟨a, b, rfl, rfl, q⟩
  refine op_ne pins s σ H _ _ v u Q I rx ry ⟨rfl, ?_⟩
  have e : decide (V.int (a : Int) = V.int (b : Int)) = decide (a = b) := decide_eq_decide.mpr ⟨fun z => by injection z with z; omega, fun z => by rw [z]⟩
  rw [e]
  exact q
theorem op_ltN : OpR X (compareOp .Lt) (fun x y H Q => ∃ a b : Nat, x = .int a ∧ y = .int b ∧ Q (.bl (decide (a < b))) H) := by
  rintro pins s σ H x y v u Q I rx ry ⟨a, b, rfl, rfl, q⟩
  refine op_lt pins s σ H _ _ v u Q I rx ry ⟨a, b, rfl, rfl, ?_⟩
  have e : decide ((a : Int) < b) = decide (a < b) := decide_eq_decide.mpr (by omega)
  show Q (.bl (decide ((a : Int) < b))) H
  rw [e]
  exact q
theorem op_gtN : OpR X (compareOp .Gt) (fun x y H Q => ∃ a b : Nat, x = .int a ∧ y = .int b ∧ Q (.bl (decide (b < a))) H) := by
  rintro pins s σ H x y v u Q I rx ry ⟨a, b, rfl, rfl, q⟩
  refine op_gt pins s σ H _ _ v u Q I rx ry ⟨a, b, rfl, rfl, ?_⟩
  have e : decide ((b : Int) < a) = decide (b < a) := decide_eq_decide.mpr (by omega)
  show Q (.bl (decide ((b : Int) < a))) H
  rw [e]
  exact q
theorem op_pow2 : OpR X (binaryOp .LShift) (fun x y H Q => ∃ k : Nat, x = .int 1 ∧ y = .int (k : Int) ∧ k ≤ 1000 ∧ Q (.int ((2 ^ k : Nat) : Int)) H) := by
  rintro pins s σ H x y v u Q I rx ry ⟨k, rfl, rfl, hk, q⟩
  refine op_oneShl pins s σ H _ _ v u Q I rx ry ⟨k, rfl, rfl, by omega, ?_⟩
  have e : (2 : Int) ^ k = ((2 ^ k : Nat) : Int) := by rw [Int.natCast_pow] <;> rfl
  rw [e]
  exact q
/-- an int as a test -/
def tInt (ta : TE) : TT := fun σ H Q => ta σ H fun x H' => ∃ n : Nat, x = .int (n : Int) ∧ Q (decide (n ≠ 0)) H'
theorem pt_int {a : Expr} {ta : TE} (ha : PE X a ta) (he : ∀ whole, isTrue a X.env whole = (do let v ← whole; standAt a.pos; holding [v] (truthy v))) : PT X a (tInt ta) := by
  refine ⟨fun pins s σ H Q I h => isTrue_plain (thn (ha.run pins s σ H _ I h) fun v s1 z => ?_) (he _)⟩
  obtain ⟨x, H1, I1, r1, n, rfl, q⟩ := z
  obtain ⟨t, rfl⟩ := r1
  have e : ((n : Int) != 0) = decide (n ≠ 0) := by cases n <;> rfl
  exact PySem.P.truthy_int ⟨H1, I1, by rw [e]; exact q⟩
end
end Vf

namespace Vf
open PySem PySem.Spec PyProof.Rows L2
section
variable {X : Cx}
theorem call_intN : CallR X (.type "int") (fun xs H Q => ∃ n : Nat, xs = [.int (n : Int)] ∧ Q (.int (n : Int)) H) := by
  rintro pins s σ H xs us Q I r ⟨n, rfl, q⟩
  exact call_int1 pins s σ H _ us Q I r (.inl ⟨n, rfl, q⟩)
theorem call_divmodN : CallR X (.builtin "divmod") (fun xs H Q => ∃ a b : Nat, xs = [.int (a : Int), .int (b : Int)] ∧ 0 < b ∧ b < 1073741824 ∧
    ∀ p, H p = none → Q (.ref p) (upd H p (.tup [.int ((a / b : Nat) : Int), .int ((a % b : Nat) : Int)]))) := by
  rintro pins s σ H xs us Q I r ⟨a, b, rfl, h1, h2, q⟩
  refine call_divmod pins s σ H _ us Q I r ⟨a, b, rfl, ⟨by omega, by omega⟩, fun p hp => ?_⟩
  have e1 : (a : Int) / b = ((a / b : Nat) : Int) := (Int.natCast_ediv _ _).symm
  have e2 : (a : Int) % b = ((a % b : Nat) : Int) := (Int.natCast_emod _ _).symm
  rw [e1, e2]
  exact q p hp
end
/-- a pot: what is left of the cell's own digits, and the mixed number -/
def Pot (H : Hp) (p : Addr) : Prop := ∃ x y : Nat, H p = some (.lst [.int (x : Int), .int (y : Int)]) ∧ y < 2147483648
theorem Pot.same {H H' : Hp} {p : Addr} (s : Same H H') (h : Pot H p) : Pot H' p := by
  obtain ⟨x, y, e, l⟩ := h
  exact ⟨x, y, s _ _ e, l⟩
theorem Pot.upd {H : Hp} {p q : Addr} {o : HO} (n : p ≠ q) (h : Pot H p) : Pot (upd H q o) p := by
  obtain ⟨x, y, e, l⟩ := h
  exact ⟨x, y, by rw [upd_ne n]; exact e, l⟩
theorem Pot.some {H : Hp} {p : Addr} (h : Pot H p) : ∃ o, H p = some o := by
  obtain ⟨x, y, e, l⟩ := h
  exact ⟨_, e⟩
/-- changes at a new place alone -/
theorem But.new {p q : Addr} {H H' : Hp} {o : HO} (s : But p H H') (h : H q = none) : But p H (L2.upd H' q o) := fun b x n e => by
  show L2.upd H' q o b = _
  rw [upd_ne (ne_of_none e h)]
  exact s b x n e
end Vf

namespace Vf
open PySem PySem.Spec PyProof.Rows L2
/-! ### flat lists as data -/
def toD : V → PyData
  | .bl b => .bool b
  | .int i => .int i
  | _ => .none
def flat : V → Bool
  | .bl _ => true
  | .int _ => true
  | _ => false
def small : V → Bool
  | .bl _ => true
  | .int i => decide (i.natAbs.log2 < 1900)
  | _ => false
theorem flat_of_small {x : V} (h : small x = true) : flat x = true := by
  cases x <;> first | rfl | exact h
theorem dp_flat {K : PySem.W.Frag} {H : Hp} {x : V} (h : flat x = true) : Dp K H x (toD x) := by
  cases x with
  | bl b => exact .bl b
  | int i => exact .int i
  | _ => cases h
theorem dp_all {K : PySem.W.Frag} {H : Hp} : ∀ {xs : List V}, (∀ x ∈ xs, flat x = true) → DpAll K H xs (xs.map toD)
  | [], _ => .nil
  | x :: xs, h => .cons (dp_flat (h x List.mem_cons_self)) (dp_all fun y hy => h y (List.mem_cons_of_mem _ hy))
theorem canLay_all : ∀ {xs : List V}, (∀ x ∈ xs, flat x = true) → PyData.canLayAll0 (xs.map toD) = true
  | [], _ => rfl
  | x :: xs, h => by
    have h1 := h x List.mem_cons_self
    have h2 := canLay_all (xs := xs) fun y hy => h y (List.mem_cons_of_mem _ hy)
    rw [List.map_cons, PyData.canLayAll0, h2]
    cases x <;> first | rfl | cases h1
theorem depth_all : ∀ xs : List V, PyData.depthAll (xs.map toD) = 0
  | [] => rfl
  | x :: xs => by
    rw [List.map_cons, PyData.depthAll, depth_all xs]
    cases x <;> rfl
theorem shaped_flat {xs : List V} (h : ∀ x ∈ xs, flat x = true) : SeqAt.shaped (.list (xs.map toD)) = true := by
  unfold SeqAt.shaped
  rw [PyData.canLay0, canLay_all h, PyData.depth, depth_all]
  rfl
theorem eqv_flat {xs : List V} (h : ∀ x ∈ xs, flat x = true) : PyData.eqv (.list (xs.map toD)) (.list (xs.map toD)) = true :=
  SeqAt.eqv_refl _ (by rw [PyData.canLay0]; exact canLay_all h)
theorem flat_vs (l : List Nat) : ∀ x ∈ vs l, flat x = true := fun x hx => by
  obtain ⟨i, _, rfl⟩ := List.mem_map.mp hx
  rfl
/-- two equal flat lists are not unlike -/
theorem neD_same {K : PySem.W.Frag} {H : Hp} {Q : VK} {a b : Addr} {xs : List V} (ha : SqL K H a xs) (hb : SqL K H b xs) (h : ∀ x ∈ xs, flat x = true) (q : Q (.bl false) H) : rNeD K (.ref a) (.ref b) H Q := by
  refine ⟨_, _, .lst ha (dp_all h), .lst hb (dp_all h), shaped_flat h, shaped_flat h, ?_⟩
  rw [eqv_flat h]
  exact q
/-! ### their texts -/
theorem text_len : ∀ (ts : List Str) (k : Nat) (acc : Str), (textFrom k acc ts).length ≤ acc.length + (ts.map fun t => t.length + 2).sum
  | [], k, acc => Nat.le_refl _
  | t :: r, k, acc => by
    have h := text_len r (k + 1) (acc ++ (if k > 0 then ", " else "" : String) ++ t)
    rw [strLen_append, strLen_append] at h
    have e : ((if k > 0 then ", " else "" : String) : Str).length ≤ 2 := by
      split
      · exact Nat.le_refl 2
      · exact Nat.zero_le 2
    show (textFrom (k + 1) _ r).length ≤ _
    rw [List.map_cons, List.sum_cons]
    exact Nat.le_trans h (by omega)
theorem small_nat {n : Nat} (h : n < 2 ^ 24) : small (.int (n : Int)) = true := by
  refine decide_eq_true ?_
  show n.log2 < 1900
  by_cases h0 : n = 0
  · rw [h0]
    decide
  · exact Nat.lt_of_lt_of_le ((Nat.log2_lt h0).mpr h) (by decide)
theorem small_len {x : V} (h : small x = true) : (toD x).shown.length ≤ 1921 := by
  cases x with
  | bl b => cases b <;> decide +kernel
  | int i =>
    have e := int_text_length_le (a := i) (k := 1900) (by decide) (of_decide_eq_true h)
    show (Str.ofString (toString i)).length ≤ 1921
    rw [PySem.ofString_length]
    omega
  | _ => cases h
theorem small_show {x : V} (h : small x = true) : (toD x).showable = true ∧ (toD x).hasDict = false := by
  cases x with
  | bl b => exact ⟨rfl, rfl⟩
  | int i =>
    have h2 : i.natAbs.log2 < 1900 := of_decide_eq_true h
    exact ⟨decide_eq_true (by omega), rfl⟩
  | _ => cases h
theorem shown_all : ∀ {xs : List V}, (∀ x ∈ xs, small x = true) → PyData.showableAll (xs.map toD) = true ∧ PyData.hasDictAll (xs.map toD) = false ∧
    ((PyData.shownAll (xs.map toD)).map fun t => t.length + 2).sum ≤ 1925 * xs.length
  | [], _ => ⟨rfl, rfl, Nat.le_refl _⟩
  | x :: xs, h => by
    obtain ⟨a, b, c⟩ := shown_all (xs := xs) fun y hy => h y (List.mem_cons_of_mem _ hy)
    have h1 := h x List.mem_cons_self
    have h2 := small_len h1
    rw [List.map_cons, PyData.showableAll, PyData.hasDictAll, PyData.shownAll, a, b, (small_show h1).1, (small_show h1).2, List.map_cons, List.sum_cons, List.length_cons]
    exact ⟨rfl, rfl, by omega⟩
/-- the text of such a list -/
def txt (xs : List V) : Str := (PyData.list (xs.map toD)).shown
theorem repr_small {K : PySem.W.Frag} {H : Hp} {Q : VK} {a : Addr} {xs : List V} (ha : SqL K H a xs) (h : ∀ x ∈ xs, small x = true) (hl : xs.length ≤ 1000) (q : Q (.str (txt xs)) H) : rRepr K [.ref a] H Q := by
  obtain ⟨h1, h2, h3⟩ := shown_all h
  refine ⟨⟨a, _, rfl, .lst ha (dp_all fun x hx => flat_of_small (h x hx)), ?_, ?_, ?_, ?_, q⟩⟩
  · rw [PyData.showable]
    exact h1
  · rw [PyData.hasDict]
    exact h2
  · rw [PyData.depth, depth_all]
    decide
  · rw [PyData.shown]
    unfold listText
    rw [strLen_append]
    have h4 := text_len (PyData.shownAll (xs.map toD)) 0 "["
    have e1 : (("[" : String) : Str).length = 1 := rfl
    have e2 : (("]" : String) : Str).length = 1 := rfl
    have e3 : sizeLine = 16777216 := sizeLine_eq
    omega
/-- two equal texts are not unlike -/
theorem ne_str {H : Hp} {Q : VK} {x : Str} (q : Q (.bl false) H) : rNe (.str x) (.str x) H Q := by
  refine ⟨rfl, ?_⟩
  rw [decide_eq_true rfl]
  exact q
theorem perm_vs {l' : List V} {l : List Nat} (h : l'.Perm (vs l)) : ∃ l2 : List Nat, l' = vs l2 ∧ l2.Perm l := by
  let g : V → Nat := fun x => match x with | .int i => i.toNat | _ => 0
  refine ⟨l'.map g, ?_, ?_⟩
  · have e : ∀ x ∈ l', V.int ((g x : Nat) : Int) = x := fun x hx => by
      obtain ⟨i, _, rfl⟩ := List.mem_map.mp (h.mem_iff.mp hx)
      rfl
    unfold vs
    rw [List.map_map]
    exact ((List.map_congr_left (g := id) e).trans (List.map_id l')).symm
  · have p := h.map g
    unfold vs at p
    rw [List.map_map] at p
    have e : (l.map (g ∘ fun i : Nat => V.int (i : Int))) = l := by
      rw [show (g ∘ fun i : Nat => V.int (i : Int)) = id from rfl, List.map_id]
    rw [e] at p
    exact p
end Vf

namespace Vf
open PySem PySem.Spec PyProof.Rows L2
def CalG (P : Program) (w : World) (K : PySem.W.Frag) (mg : Str → Option Value) (base : Heap) (x : Str) (k : Nat) (ps : List Str) (sp : Sp) : Prop :=
  ∃ (f : Addr) (fd : FuncData), GnOk P w K mg base k f fd ps sp ∧ mg x = some (.ref f) ∧ PySem.W.keepIn K (.ref f) = true ∧ Binds K fd ps []
def tGn (sp : Sp) (t : TA) : TE := fun σ H Q => t σ H fun vs H1 => sp vs H1 Q E0
theorem pe_calG {X : Cx} {k : Nat} {ps : List Str} {sp : Sp} {x : Str} {p pos : Pos} {e : Expr} {es : List Expr} {t : TA} (C : CalG X.prog X.w X.K X.mg X.base x k ps sp)
    (gg : X.A.guards = some []) (hr : Room k X.A) (hg : Gl X x) (ha : PA X (e :: es) t)
    (hdb : (x == ("__debug__" : Str)) = false := by decide) (he : starEach (e :: es) X.env = (false, eval e X.env) :: starEach es X.env := by rfl)
    (hpl : (backTo pos (starEach es X.env)).any (·.1) = false := by rfl) : PE X (.Call (.Name x p) (e :: es) [] pos) (tGn sp t) := by
  obtain ⟨f, fd, F, gm, kp, b⟩ := C
  exact pe_gn F gg hr hg gm kp b ha hdb he hpl
theorem But.free {p q : Addr} {H H' : Hp} (b : But p H H') (hp : Pot H' p) (h : H' q = none) : H q = none := by
  cases e : H q with
  | none => rfl
  | some o =>
    by_cases n : q = p
    · subst n
      obtain ⟨o2, e2⟩ := hp.some
      rw [h] at e2
      cases e2
    · rw [b q o n e] at h
      cases h
theorem ne_strE {H : Hp} {Q : VK} {x y : Str} (e : x = y) (q : Q (.bl false) H) : rNe (.str x) (.str y) H Q := by
  subst e
  exact ne_str q
theorem nbl_f {p : Prop} [Decidable p] (h : p) : V.bl (!decide p) = V.bl false := by rw [decide_eq_true h]; rfl
end Vf

set_option Elab.async false
set_option linter.all false
set_option maxRecDepth 100000
set_option maxHeartbeats 4000000
namespace Vf
open PySem PySem.Spec PyProof.Rows L2
/-! ### {xs} in an f-string, xs data -/
structure rFmtD (K : PySem.W.Frag) (x : V) (H : Hp) (Q : VK) : Prop where
  ex : ∃ a d, x = .ref a ∧ Dp K H (.ref a) d ∧ d.showable = true ∧ d.hasDict = false ∧ d.depth ≤ 60 ∧ d.shown.length ≤ sizeLine ∧ Q (.str d.shown) H
section
variable {X : Cx}
theorem pe_fmtD {e : Expr} {te : TE} {pos : Pos} (hg : X.A.guards = some []) (hu : X.A.units + 64 < cLine) (he : PE X e te) :
    PE X (.FormattedValue e (-1) none pos) (fun σ H Q => te σ H fun x H1 => rFmtD X.K x H1 Q) := by
  refine ⟨fun pins s σ H Q I h => wpAny_FormattedValue_plain (thn (he.run pins s σ H _ I h) fun v s1 hv => ?_)⟩
  obtain ⟨x, H1, I1, r1, q⟩ := hv
  obtain ⟨a, d, rfl, hD, hs, hn, hd, hz, q⟩ := q.ex
  cases (show v = Value.ref a from r1)
  obtain ⟨as, rd⟩ := Dp.reads I1 d _ _ hD rfl
  refine formatField_of_reads rd hs (fun z => ?_) hg (by omega) (fun _ _ e => e) (fun h' u tk hk => ?_) hz
  · rw [hn] at z
    cases z
  · exact ⟨.str d.shown, H1, I1.kept (fun b o e => hk b o e), ⟨u, rfl⟩, q⟩
/-! ### repr of an own instance -/
structure rReprI (C : Addr) (sp : Sp) (xs : List V) (H : Hp) (Q : VK) : Prop where
  ex : ∃ a dx fs, xs = [.ref a] ∧ H a = some (.ins C dx fs) ∧ sp [.ref a] H (fun v H' => ∃ t : Str, v = .str t ∧ Q (.str t) H') E0
theorem call_reprI {C f : Addr} {fd : FuncData} {sp : Sp} {k : Nat} {ps : List Str} (F : GnOk X.prog X.w X.K X.mg X.base k f fd ps sp) (hg : X.A.guards = some []) (hr : Room (k + 1) X.A)
    (hs : PySem.W.findIn X.K (.ref C) "__repr__" = some (some (.ref f))) (hf : PySem.W.isFn X.K (.ref f) = true) (hb : Binds X.K fd ps []) : CallR X (.builtin "repr") (rReprI C sp) := by
  intro pins s σ H xs us Q I r h
  obtain ⟨a, dx, fs, rfl, ha, hq⟩ := h.ex
  obtain ⟨u1, rfl, r1⟩ := vals1 r
  cases (show u1 = Value.ref a from r1)
  obtain ⟨mA, O, _⟩ := ins_get I.hok ha
  obtain ⟨od, J, _⟩ := O.look
  obtain ⟨m, hF⟩ := I.fr
  refine PySem.W.repr_K (by have := hr.units; show X.A.units + 1 < cLine; omega) hF I.ok.mod.kin J hs hf ?_
  have hl : ([Value.ref a] ++ ([] : List Value)).length = ps.length := by
    rw [← F.len _ _ _ _ hq]
    rfl
  have bb := hb s [.ref a] I.kIn hl
  rw [List.append_nil] at bb
  refine wpAny_call (codeAny_mono (F.go X.A.in1 X.stack s H ⟨[.ref a], []⟩ [.ref a] [.ref a] _ E0 hg hr.in1 I.env0.in1 bb (.cons rfl .nil) hq) fun res s' hh => ?_)
  cases res with
  | error e => exact hh.elim
  | ok fl =>
    cases fl with
    | next => exact hh.elim
    | brk => exact hh.elim
    | cont => exact hh.elim
    | ret u =>
      obtain ⟨v, H', I', rv, t, rfl, q⟩ := I.after hh
      obtain ⟨tk, rfl⟩ := rv
      exact ⟨.str t, H', I', ⟨tk, rfl⟩, q⟩
/-! ### == and != by an own __eq__ -/
/-- the value's type, for a comparison -/
def TyL (X : Cx) (H : Hp) (y : V) (tb : Value) : Prop := ∀ (pins : List (Addr × Obj)) (σ : L2.St) (s : Shared) (u : Value), Inv X pins σ H s → RelV y u → PySem.W.Looks (model X.prog X.w) s.heap (typeOf u) tb
theorem tyL_ins {H : Hp} {b C dx : Addr} {fs : List (Str × V)} (h : H b = some (.ins C dx fs)) : TyL X H (.ref b) (.ref C) := fun pins σ s u I r => by
  cases (show u = Value.ref b from r)
  obtain ⟨mA, O, _⟩ := ins_get I.hok h
  obtain ⟨od, J, _⟩ := O.look
  exact J.type
theorem tyL_int {H : Hp} {i : Int} : TyL X H (.int i) (.type "int") := fun pins σ s u I r => by
  obtain ⟨t, rfl⟩ := r
  exact PySem.W.Looks.of_pure rfl
theorem tyL_lst {H : Hp} {b : Addr} {xs : List V} (h : H b = some (.lst xs)) : TyL X H (.ref b) (.type "list") := fun pins σ s u I r => by
  cases (show u = Value.ref b from r)
  obtain ⟨its, n, _, h1⟩ := (show ObjOk X.prog X.w H s.heap b (.lst xs) from I.hok b _ h).2
  intro A Q E s' k q
  exact wpAny_typeOf_ref (k _ _ h1) q
structure rOwn (X : Cx) (C : Addr) (sp : Sp) (neg : Bool) (x y : V) (H : Hp) (Q : VK) : Prop where
  ex : ∃ a dx fs tb, x = .ref a ∧ H a = some (.ins C dx fs) ∧ TyL X H y tb ∧ PySem.W.notFirst X.K C tb = true ∧ sp [.ref a, y] H (fun v H' => ∃ b : Bool, v = .bl b ∧ Q (.bl (if neg then !b else b)) H') E0
theorem own_run {pins : List (Addr × Obj)} {σ : L2.St} {H : Hp} {s : Shared} {A : Around} {R : VK} {f a : Addr} {fd : FuncData} {sp : Sp} {k : Nat} {ps : List Str} {y : V} {u : Value} (F : FnOk X.prog X.w X.K X.mg X.base CX0 k f fd ps sp) (hr : Room k A) (hA : A.frames = X.A.frames)
    (hb : Binds X.K fd ps []) (I : Inv X pins σ H s) (ry : RelV y u) (h : sp [.ref a, y] H R E0) {E : Value → Shared → Prop} :
    wpAny (model X.prog X.w) A (call (.ref f) [.ref a, u]) (EP X pins σ R) E s := by
  have hl : ([Value.ref a, u] ++ ([] : List Value)).length = ps.length := by
    rw [← F.len _ _ _ _ h]
    rfl
  have bb := hb s [.ref a, u] I.kIn hl
  rw [List.append_nil] at bb
  have e0 : Env0 X.prog X.w X.K X.mg X.base A X.stack s H := by
    have e := I.env0
    exact ⟨hA.trans e.frames, e.mod, e.bs, e.bsz, e.funs, e.frf, e.hok, e.bare⟩
  refine wpAny_call (codeAny_mono (F.run A X.stack s H ⟨[.ref a, u], []⟩ [.ref a, u] [.ref a, y] R E0 hr e0 bb (.cons rfl (.cons ry .nil)) h) fun res s' hh => ?_)
  cases res with
  | error e => exact hh.elim
  | ok fl =>
    cases fl with
    | next => exact hh.elim
    | brk => exact hh.elim
    | cont => exact hh.elim
    | ret w => exact I.after hh
theorem op_eqI {C f : Addr} {fd : FuncData} {sp : Sp} {k : Nat} {ps : List Str} (F : FnOk X.prog X.w X.K X.mg X.base CX0 k f fd ps sp) (hr : Room k X.A)
    (hs : PySem.W.findIn X.K (.ref C) "__eq__" = some (some (.ref f))) (hf : PySem.W.isFn X.K (.ref f) = true) (hb : Binds X.K fd ps []) : OpR X (compareOp .Eq) (rOwn X C sp false) := by
  intro pins s σ H x y v u Q I rx ry h
  obtain ⟨a, dx, fs, tb, rfl, ha, ty, nf, hq⟩ := h.ex
  cases (show v = Value.ref a from rx)
  obtain ⟨mA, O, _⟩ := ins_get I.hok ha
  obtain ⟨od, J, _⟩ := O.look
  obtain ⟨m, hF⟩ := I.fr
  show wpAny (model X.prog X.w) X.A (richCompare .Eq (.ref a) u) (EP X pins σ Q) X.xe s
  refine PySem.W.cmp_K (op := .Eq) (tb := tb) hr.units0 hF I.ok.mod.kin J (ty pins σ s u I ry) nf hs hf ?_
  refine wpAny_mono (own_run F hr rfl hb I ry hq) (fun w s' z => ?_) fun _ _ e => e
  obtain ⟨v, H', I', rv, b, rfl, q⟩ := z
  cases rv
  exact ⟨.bl b, H', I', rfl, q⟩
theorem ne_K {prog : Program} {w : World} {A : Around} {E : Value → Shared → Prop} {K : PySem.W.Frag} {s : Shared} {x C f : Addr} {ox : Obj} {od : Option Obj} {b tb : Value} {Q : Value → Shared → Prop}
    (hu : A.units + 1 < cLine) (kin : K.In s.heap) (I : PySem.W.InstAt s.heap x ox C od) (hb : PySem.W.Looks (model prog w) s.heap (typeOf b) tb) (hn : PySem.W.notFirst K C tb = true)
    (hne : PySem.W.findIn K (.ref C) "__ne__" = some (some (.builtin "object.__ne__"))) (hob : PySem.W.mroIn K C (.type "object") = some true)
    (hs : PySem.W.findIn K (.ref C) "__eq__" = some (some (.ref f))) (hf : PySem.W.isFn K (.ref f) = true)
    (h : wpAny (model prog w) A.in1 (call (.ref f) [.ref x, b]) (fun v s' => ∃ r : Bool, v = .bool r ∧ Q (.bool (!r)) s') E s) :
    wpAny (model prog w) A (richCompare .NotEq (.ref x) b) Q E s := by
  have FB := F.cmp_object
  have sub : PySem.W.Looks (model prog w) s.heap (isInstance (.ref x) (.type "object")) true := I.type.andThen (PySem.W.looks_mroIn kin hob)
  have inner : wpAny (model prog w) A (call (.builtin "object.__ne__") [.ref x, b]) (fun v s' => ∃ r : Bool, v = .bool (!r) ∧ Q (.bool (!r)) s') E s := by
    refine wpAny_call (codeAny_call_builtin FB.ne.plain F.cmpEntry_ne (@PySem.W.check_slot (model prog w) _ _ s "object.__ne__" "object" "__ne__" (.ref x) [b] [] _ F.cmpKind_ne F.cmpSplit_ne sub (F.cmpArgs_ne _ _) ?_))
    unfold Builtin.«object.__ne__»
    repeat (first
      | with_reducible refine wpAny_cRoomFor (show A.in1.units < cLine from hu) ?_
      | (refine wpAny_bind (m := callSpecialIfBound? (.ref x) (Str.ofString "__eq__") [b])
          (PySem.W.ifBound_K kin I hs hf (wpAny_mono h (fun r s' hr => by
            obtain ⟨r, rfl, hq⟩ := hr
            repeat (first | exact ⟨r, rfl, hq⟩ | exact wpAny_pure ⟨r, rfl, hq⟩ | exact wpAny_truthy_bool ⟨r, rfl, hq⟩ | (refine wpAny_bind (m := truthy (.bool _)) (wpAny_truthy_bool ?_)) | wp_step)) fun _ _ e => e)))
      | wp_step)
  have one : wpAny (model prog w) A (tryCompare (.ref x) "__ne__" b) (fun r s' => ∃ v, r = some v ∧ Q v s') E s := by
    unfold tryCompare
    refine wpAny_bind ?_
    simp only [callSpecialIfBound?, bindSpecialIfBound?]
    refine wpAny_holding (wpAny_bind (wpAny_bind (wpAny_bind (I.type.here ((PySem.W.looks_findIn kin hne).here ?_)))))
    simp only [FB.ne.bind]
    refine wpAny_bind (wpAny_askSetting (wpAny_ite ?_))
    have fin : wpAny (model prog w) A (call (.builtin "object.__ne__") ([.ref x] ++ [b]) >>= fun v => pure (some v)) (fun r s' => wpAny (model prog w) A (match r with | some .notImplemented | none => pure none | some v => pure (some v)) (fun r s' => ∃ v, r = some v ∧ Q v s') E s') E s :=
      wpAny_bind (wpAny_mono inner (fun v s' hv => wpAny_pure (by
        obtain ⟨r, rfl, hq⟩ := hv
        exact wpAny_pure ⟨_, rfl, hq⟩)) fun _ _ e => e)
    split
    · exact wpAny_bind (wpAny_pure (wpAny_pure fin))
    · exact wpAny_tryCatch (wpAny_bind (wpAny_pure (wpAny_pure fin)))
  unfold richCompare
  simp only [oneThing_ref]
  refine wpAny_holding (wpAny_bind (wpAny_cRoomFor (Nat.lt_of_succ_lt hu) ?_))
  rw [cmpInfo_NotEq]
  dsimp only
  refine wpAny_bind (I.type.here (wpAny_bind (hb.here ?_)))
  split
  · rename_i q
    have e : PySem.W.subIn K tb (.ref C) = some false := by
      rcases Bool.or_eq_true_iff.mp hn with e | e
      · rw [beq_iff_eq.mp e] at q
        simp at q
      · exact beq_iff_eq.mp e
    refine wpAny_bind ((PySem.W.looks_subIn kin e).here ?_)
    simp only [Bool.false_eq_true, if_false]
    refine wpAny_bind (wpAny_mono one (fun r s' z => ?_) fun _ _ e => e)
    obtain ⟨v, rfl, hq⟩ := z
    exact wpAny_pure hq
  · refine wpAny_bind (wpAny_pure ?_)
    simp only [Bool.false_eq_true, if_false]
    refine wpAny_bind (wpAny_mono one (fun r s' z => ?_) fun _ _ e => e)
    obtain ⟨v, rfl, hq⟩ := z
    exact wpAny_pure hq
theorem op_neI {C f : Addr} {fd : FuncData} {sp : Sp} {k : Nat} {ps : List Str} (F : FnOk X.prog X.w X.K X.mg X.base CX0 k f fd ps sp) (hr : Room (k + 1) X.A)
    (hne : PySem.W.findIn X.K (.ref C) "__ne__" = some (some (.builtin "object.__ne__"))) (hob : PySem.W.mroIn X.K C (.type "object") = some true)
    (hs : PySem.W.findIn X.K (.ref C) "__eq__" = some (some (.ref f))) (hf : PySem.W.isFn X.K (.ref f) = true) (hb : Binds X.K fd ps []) : OpR X (compareOp .NotEq) (rOwn X C sp true) := by
  intro pins s σ H x y v u Q I rx ry h
  obtain ⟨a, dx, fs, tb, rfl, ha, ty, nf, hq⟩ := h.ex
  cases (show v = Value.ref a from rx)
  obtain ⟨mA, O, _⟩ := ins_get I.hok ha
  obtain ⟨od, J, _⟩ := O.look
  show wpAny (model X.prog X.w) X.A (richCompare .NotEq (.ref a) u) (EP X pins σ Q) X.xe s
  refine ne_K (tb := tb) (by have := hr.units; omega) I.kIn J (ty pins σ s u I ry) nf hne hob hs hf ?_
  refine wpAny_mono (own_run (A := X.A.in1) F hr.in1 rfl hb I ry hq) (fun w s' z => ?_) fun _ _ e => e
  obtain ⟨v, H', I', rv, b, rfl, q⟩ := z
  cases rv
  exact ⟨b, rfl, .bl (!b), H', I', rfl, q⟩
end
end Vf

set_option Elab.async false
set_option linter.all false
set_option maxRecDepth 100000
set_option maxHeartbeats 4000000
namespace Vf
open PySem PySem.Spec PyProof.Rows L2
/-! ### for i, x in enumerate(t), t a tuple -/
theorem meets_enumB {v : Value} {o : Obj} {H : Heap → Prop} (B : Begins v o H) :
    Meets (Builtin.«enumerate.__new__» ⟨[.type "enumerate", v], []⟩) (fun _ R s => H s.heap ∧ R (.ok (.ret (.ref (s.heap.push o).objs.size)))
      { s with heap := (s.heap.push o).push { cls := .type "enumerate", data := .fields #[.none, .bool false, .ref s.heap.objs.size, rawInt 0, .none, .none] } }) :=
  .of_wp fun prog w A R s h => by
    obtain ⟨hp, g, d, tk, os⟩ := s
    obtain ⟨h1, h⟩ := h
    have hsub := sub_enumerate
    have q1 : ∀ {A' : Around} {E : Value → Shared → Prop} {Q : Value → Shared → Prop}, Q (.ref hp.objs.size) ⟨hp.push o, g, d, tk, os⟩ →
        wpAny (model prog w) A' (pyIter v) Q E ⟨hp, g, d, tk, os⟩ := fun q => B.iter prog w _ _ ⟨hp, g, d, tk, os⟩ _ h1 q
    wp_walk using q1
    refine wpAny_stack_any fun st => wpAny_pure ?_
    split
    · rename_i c _ _ _ _ _
      cases (c == Value.type "enumerate") <;> (wp_walk using q1; exact ⟨_, rfl, h⟩)
    · wp_walk using q1
      exact ⟨_, rfl, h⟩
theorem call_enumT {prog : Program} {w : World} {A : Around} {E : Value → Shared → Prop} {s : Shared} {l : Addr} {items : Array Value} {Q : Value → Shared → Prop} (hT : s.heap.IsTuple l items)
    (h : ∀ h', IsEnum h' (s.heap.objs.size + 1) s.heap.objs.size 0 .none → h'.IsTupleIter s.heap.objs.size l 0 →
      (∀ b o, s.heap.get? b = some o → h'.get? b = some o) → Q (.ref (s.heap.objs.size + 1)) { s with heap := h' }) :
    wpAny (model prog w) A (call (.type "enumerate") [.ref l]) Q E s := by
  refine callType_new F.called_enumerate (by decide) (F.typeCall_enumerate_1 _) (F.newCall_enumerate_1 _) (fun obj => F.args_object_init_2 obj _) F.entry_enumerate_new
    (meets_enumB (begins_tuple l items)) ⟨hT, ?_⟩
  have hz : (s.heap.push { cls := .type "tuple_iterator", data := .fields #[.ref l, .int 0 0] }).objs.size = s.heap.objs.size + 1 := Heap.size_push ..
  show _ ∧ _
  rw [hz]
  have he : IsEnum ((s.heap.push { cls := .type "tuple_iterator", data := .fields #[.ref l, .int 0 0] }).push
      { cls := .type "enumerate", data := .fields #[.none, .bool false, .ref s.heap.objs.size, rawInt 0, .none, .none] }) (s.heap.objs.size + 1) s.heap.objs.size 0 .none := by
    have z := Heap.get?_push_size (s.heap.push { cls := .type "tuple_iterator", data := .fields #[.ref l, .int 0 0] })
      (o := { cls := .type "enumerate", data := .fields #[.none, .bool false, .ref s.heap.objs.size, rawInt 0, .none, .none] }) rfl
    rw [hz] at z
    exact z
  exact ⟨⟨_, he, rfl⟩, h _ he ⟨_, Heap.get?_push_of_some _ (Heap.get?_push_size _ rfl), rfl, rfl⟩ fun b o x => Heap.get?_push_of_some _ (Heap.get?_push_of_some _ x)⟩
def ItT (K : PySem.W.Frag) (a : Addr) : It :=
  ⟨fun i H => ∃ (xs : List V) (x : V), SqT K H a xs ∧ xs[i]? = some x,
   fun i H v H' => ∃ T x, v = .ref T ∧ H T = none ∧ H' = upd H T (.tup [.int (i : Nat), x]) ∧ ∀ xs, SqT K H a xs → xs[i]? = some x,
   fun i H => ∃ xs : List V, SqT K H a xs ∧ xs.length = i⟩
theorem turn_enumT {P : Program} {w : World} {K : PySem.W.Frag} {elts : List Expr} {kk : Nat} {tpos : Pos} (a e it : Addr) :
    Turn P w K (.Tuple elts kk tpos) (ItT K a) [e, it] e (fun i h => (∃ old, IsEnum h e it ((i : Nat) : Int) old) ∧ h.IsTupleIter it a i ∧ e ≠ it) where
  mem := by simp
  obj := by
    rintro i h ⟨⟨old, he⟩, ⟨o, ho, hc, hd⟩, _⟩ b hb
    rcases (show b = e ∨ b = it by simpa using hb) with rfl | rfl
    · exact ⟨_, he, fun v q => nomatch q⟩
    · exact ⟨o, ho, fun v q => by rw [hd] at q; cases q⟩
  keep := by
    rintro i h h' ⟨⟨old, he⟩, hi, hne⟩ k
    exact ⟨⟨old, k e (by simp) _ he⟩, hi.at fun o q => k it (by simp) o q, hne⟩
  item := by
    intro X hP hw hK hc i pins s σ H E I hf st hg
    subst hP hw hK
    obtain ⟨⟨old, he⟩, hit, hne⟩ := st
    obtain ⟨xs, x, hq, hx⟩ := hg
    obtain ⟨its, rv, p, hz⟩ := I.tuple hq
    obtain ⟨u, hu, ru⟩ := rv.get hx
    have hT0 : s.heap.IsTuple a its.toArray := p
    have nae : e ≠ a := by
      rintro rfl
      obtain ⟨o, h1, h2, _⟩ := p
      have he2 : s.heap.get? e = some _ := he
      rw [h1] at he2
      have e3 := congrArg Obj.cls (Option.some.inj he2)
      rw [h2] at e3
      injection e3 with e4
      exact absurd e4 (by decide)
    have nai : a ≠ it := by
      rintro rfl
      obtain ⟨o, h1, h2, _⟩ := p
      obtain ⟨o', h1', h2', _⟩ := hit
      rw [h1] at h1'
      cases h1'
      rw [h2] at h2'
      injection h2' with e4
      exact absurd e4 (by decide)
    have D : Draws X.prog X.w X.A.in1 it [it, a] its.toArray.size (fun i v => its.toArray[i]? = some v) (fun i h => h.IsTupleIter it a i ∧ h.IsTuple a its.toArray) :=
      Draws.tuple (show X.A.in1.handled = none from I.ok.hd hc) it a nai its.toArray
    have hlt : i < its.toArray.size := by
      have := (List.getElem?_eq_some_iff.mp hu).1
      simpa using this
    have hel : e < s.heap.objs.size := Heap.lt_size he
    have hil : it < s.heap.objs.size := by
      obtain ⟨_, q, _⟩ := hit
      exact Heap.lt_size q
    refine wpAny_pyNext_enum_itemD D he ⟨hit, hT0⟩ hlt hne (by simp [hne, nae]) fun y h' tk hy ho hst' hT hsz hk => ?_
    have ey : y = u := by
      have h1 : its[i]? = some y := by simpa using hy
      rw [hu] at h1
      exact (Option.some.inj h1).symm
    subst ey
    refine ⟨_, rfl, wpAny_letOwnedTupleGo_enum (s := { s with heap := h', toks := tk + 1 }) ho fun h'' he' sb => ?_⟩
    have hT2 : h''.get? s.heap.objs.size = some { cls := .type "tuple", data := .seq #[.int i tk, y] } := (sb.2 _ (Nat.ne_of_gt hel)).trans hT
    have new : ObjOk X.prog X.w (upd H s.heap.objs.size (.tup [.int (i : Nat), x])) h'' s.heap.objs.size (.tup [.int (i : Nat), x]) :=
      ⟨by show 2 ≤ sizeLine; decide, [.int i tk, y], .cons ⟨_, rfl⟩ (.cons ru .nil), ⟨_, hT2, rfl, _, rfl⟩⟩
    have I1 : Inv X pins σ (upd H s.heap.objs.size (.tup [.int (i : Nat), x])) { s with heap := h'', toks := tk + 1 } :=
      I.turnedNew (ch := [e, it]) (fun b ob hb q => (sb.2 b (fun z => hb (by simp [z]))).trans (hk b ob (fun z => hb (by simp [z])) (fun z => hb (by simp [z])) q)) hf (Nat.le_refl _) new
    refine ⟨.ref s.heap.objs.size, _, I1, rfl, ⟨_, x, rfl, I.hok.fresh (Nat.le_refl _), rfl, fun ys hy => by rw [I.tuple_inj hy hq]; exact hx⟩,
      ⟨⟨y, ?_⟩, hst'.1.at fun o q => (sb.2 it (Ne.symm hne)).trans q, hne⟩, fun b hb => ?_⟩
    · have e1 : ((i + 1 : Nat) : Int) = (i : Int) + 1 := by omega
      rw [e1]
      exact he'
    · have hb' : b < s.heap.objs.size := by
        rcases (show b = e ∨ b = it by simpa using hb) with rfl | rfl
        · exact hel
        · exact hil
      rw [upd_ne (Nat.ne_of_lt hb')]
      exact (hf b hb).1
  done := by
    intro X hP hw hK hc i pins s σ H E I hf st hg
    subst hP hw hK
    obtain ⟨⟨old, he⟩, hit, hne⟩ := st
    obtain ⟨xs, hq, hx⟩ := hg
    obtain ⟨its, rv, p, hz⟩ := I.tuple hq
    have hT0 : s.heap.IsTuple a its.toArray := p
    have nai : a ≠ it := by
      rintro rfl
      obtain ⟨o, h1, h2, _⟩ := p
      obtain ⟨o', h1', h2', _⟩ := hit
      rw [h1] at h1'
      cases h1'
      rw [h2] at h2'
      injection h2' with e4
      exact absurd e4 (by decide)
    have D : Draws X.prog X.w X.A.in1 it [it, a] its.toArray.size (fun i v => its.toArray[i]? = some v) (fun i h => h.IsTupleIter it a i ∧ h.IsTuple a its.toArray) :=
      Draws.tuple (show X.A.in1.handled = none from I.ok.hd hc) it a nai its.toArray
    obtain ⟨f0, f1, f2, f3, f4, f5⟩ := hf it (by simp)
    have hl : its.toArray.size = i := by
      rw [List.size_toArray, ← rv.length, hx]
    subst hl
    exact wpAny_pyNext_enum_endD D he ⟨hit, hT0⟩ fun h' eb => ⟨rfl, I.turned (t' := s.toks) (fun b o hb q => eb b o hb q) f0 f1 f3 f4 f5⟩
  self := fun A i s Q E st h => let ⟨⟨_, he⟩, _⟩ := st; wpAny_pyIter_enum he h
def iEnumT (K : PySem.W.Frag) (ta : TA) : TI := fun σ H R => ta σ H fun vs H1 => ∃ a xs, vs = [.ref a] ∧ SqT K H1 a xs ∧ R (ItT K a) H1
theorem pi_enumT {X : Cx} {e : Expr} {ta : TA} {p pos tpos : Pos} {elts : List Expr} {kk : Nat} (hg : Gl X "enumerate") (hm : X.mg "enumerate" = none) (ha : PA X [e] ta)
    (hs : starEach [e] X.env = [(false, eval e X.env)] := by rfl) : PI X (.Tuple elts kk tpos) (.Call (.Name "enumerate" p) [e] [] pos) (iEnumT X.K ta) := by
  refine ⟨fun pins s σ H R I h => Call_ (ld_blt I hg hm PyProof.Rows.boot_enumerate (callWith_type1 (thn (ha.run pos pins s σ H _ I h) fun us s1 z => ?_) hs rfl))⟩
  obtain ⟨vs, H1, I1, r1, a, xs, rfl, hq, q⟩ := z
  obtain rfl := Vals.ref1 r1
  obtain ⟨its, rv, p', hz⟩ := I1.tuple hq
  refine call_enumT (show s1.heap.IsTuple a its.toArray from p') fun h' he hit hk => wpAny_pyIter_enum he ?_
  have I2 : Inv X pins σ H1 { s1 with heap := h' } := I1.kept (t' := s1.toks) hk
  refine ⟨s1.heap.objs.size + 1, [s1.heap.objs.size + 1, s1.heap.objs.size], _, _, H1, rfl, I2, turn_enumT a (s1.heap.objs.size + 1) s1.heap.objs.size, ⟨⟨.none, he⟩, hit, Nat.succ_ne_self _⟩, fun b hb => ?_, q⟩
  have hle : s1.heap.objs.size ≤ b := by
    rcases (show b = s1.heap.objs.size + 1 ∨ b = s1.heap.objs.size by simpa using hb) with rfl | rfl
    · exact Nat.le_add_right _ _
    · exact Nat.le_refl _
  exact I1.fpOk hle (I1.hok.fresh hle)
/-! ### methods, properties and making, bundled -/
def MthC (P : Program) (w : World) (K : PySem.W.Frag) (mg : Str → Option Value) (base : Heap) (C : Addr) (m : Str) (k : Nat) (ps : List Str) (sp : Sp) : Prop :=
  ∃ (f : Addr) (fd : FuncData), FnOk P w K mg base CX0 k f fd ps sp ∧ Meth K C m f ∧ Binds K fd ps [] ∧ Cls K C
def MthK (P : Program) (w : World) (K : PySem.W.Frag) (mg : Str → Option Value) (base : Heap) (C : Addr) (m : Str) (k : Nat) (ps ks : List Str) (gV : List V → List V → List V) (sp : Sp) : Prop :=
  ∃ (f : Addr) (fd : FuncData) (g : List Value → List Value → List Value), FnOk P w K mg base CX0 k f fd ps sp ∧ Meth K C m f ∧ KBn K fd ps 1 ks g gV ∧ Cls K C
def PrpC (P : Program) (w : World) (K : PySem.W.Frag) (mg : Str → Option Value) (base : Heap) (C : Addr) (m : Str) (k : Nat) (sp : Sp) : Prop :=
  ∃ (p g : Addr) (fd : FuncData), FnOk P w K mg base CX0 k g fd ["self"] sp ∧ PropOf K C m p g ∧ Binds K fd ["self"] [] ∧ Cls K C
def MakC (P : Program) (w : World) (K : PySem.W.Frag) (mg : Str → Option Value) (base : Heap) (C : Addr) (x : Str) (k : Nat) (ps : List Str) (sp : Sp) : Prop :=
  ∃ (f : Addr) (fd : FuncData), FnOk P w K mg base CX0 k f fd ps sp ∧ Mk K C f ∧ mg x = some (.ref C) ∧ Binds K fd ps []
def MakK (P : Program) (w : World) (K : PySem.W.Frag) (mg : Str → Option Value) (base : Heap) (C : Addr) (x : Str) (k : Nat) (ps ks : List Str) (gV : List V → List V → List V) (sp : Sp) : Prop :=
  ∃ (f : Addr) (fd : FuncData) (g : List Value → List Value → List Value), FnOk P w K mg base CX0 k f fd ps sp ∧ Mk K C f ∧ mg x = some (.ref C) ∧ KBn K fd ps 1 ks g gV
def EqC (P : Program) (w : World) (K : PySem.W.Frag) (mg : Str → Option Value) (base : Heap) (C : Addr) (k : Nat) (sp : Sp) : Prop :=
  ∃ (f : Addr) (fd : FuncData), FnOk P w K mg base CX0 k f fd ["self", "other"] sp ∧ PySem.W.findIn K (.ref C) "__eq__" = some (some (.ref f)) ∧ PySem.W.isFn K (.ref f) = true ∧ Binds K fd ["self", "other"] [] ∧
    PySem.W.findIn K (.ref C) "__ne__" = some (some (.builtin "object.__ne__")) ∧ PySem.W.mroIn K C (.type "object") = some true
def RepC (P : Program) (w : World) (K : PySem.W.Frag) (mg : Str → Option Value) (base : Heap) (C : Addr) (k : Nat) (sp : Sp) : Prop :=
  ∃ (f : Addr) (fd : FuncData), GnOk P w K mg base k f fd ["self"] sp ∧ PySem.W.findIn K (.ref C) "__repr__" = some (some (.ref f)) ∧ PySem.W.isFn K (.ref f) = true ∧ Binds K fd ["self"] []
section
variable {X : Cx} {C : Addr} {m x : Str} {k : Nat} {ps ks : List Str} {sp : Sp} {e o : Expr} {es : List Expr} {kws : List Keyword} {ta : TE} {t tk : TA} {p pos apos : Pos} {gV : List V → List V → List V}
theorem pe_propC (PC : PrpC X.prog X.w X.K X.mg X.base C m k sp) (hr : Room (k + 1) X.A) (he : PE X e ta) (hab : attributeBase e m X.env (eval e X.env) = eval e X.env) : PE X (.Attribute e m pos) (tProp C sp [] E0 ta) := by
  obtain ⟨p, g, fd, F, hp, b, c⟩ := PC
  exact pe_prop he c hp F hr b .nil pass0 hab
theorem pe_meth0C {pl : Sem Bool} (M : MthC X.prog X.w X.K X.mg X.base C m k ps sp) (hr : Room k X.A) (he : PE X o ta)
    (ht : eval (.Call (.Attribute o m apos) [] [] pos) X.env = (do
      let ov ← eval o X.env
      standAt apos.atName
      let (f, first) ← holding [ov] (getMethod ov m pl)
      callWith pos f first (backTo pos (starEach [] X.env)) (backToKw pos (keywordEach [] X.env))) := by rfl) :
    PE X (.Call (.Attribute o m apos) [] [] pos) (tMeth C m sp [] E0 ta tNil) := by
  obtain ⟨f, fd, F, hm, b, c⟩ := M
  exact pe_meth0 he c hm F hr b .nil pass0 ht
theorem pe_methC {pl : Sem Bool} (M : MthC X.prog X.w X.K X.mg X.base C m k ps sp) (hr : Room k X.A) (he : PE X o ta) (ha : PA X (e :: es) t)
    (hst : starEach (e :: es) X.env = (false, eval e X.env) :: starEach es X.env := by rfl) (hpl : (backTo pos (starEach es X.env)).any (·.1) = false := by rfl)
    (ht : eval (.Call (.Attribute o m apos) (e :: es) [] pos) X.env = (do
      let ov ← eval o X.env
      standAt apos.atName
      let (f, first) ← holding [ov] (getMethod ov m pl)
      callWith pos f first (backTo pos (starEach (e :: es) X.env)) (backToKw pos (keywordEach [] X.env))) := by rfl) :
    PE X (.Call (.Attribute o m apos) (e :: es) [] pos) (tMeth C m sp [] E0 ta t) := by
  obtain ⟨f, fd, F, hm, b, c⟩ := M
  exact pe_meth he c hm F hr b .nil pass0 ha hst hpl ht
/-- o.m(k = v, ..) -/
def tMethKw (C : Addr) (m : Str) (n : Nat) (sp : Sp) (gV : List V → List V → List V) (ta : TE) (tk : TA) : TE := fun σ H Q => ta σ H fun x H1 => ∃ a dx fs, x = .ref a ∧ H1 a = some (.ins C dx fs) ∧ fs.lookup m = none ∧
  tk σ H1 fun zs H2 => zs.length = n ∧ sp (gV [.ref a] zs) H2 Q E0
theorem pe_methKC {pl : Sem Bool} (M : MthK X.prog X.w X.K X.mg X.base C m k ps ks gV sp) (hr : Room k X.A) (he : PE X o ta) (hkw : PK X kws tk)
    (hall : (backToKw pos (keywordEach kws X.env)).all (·.1.isSome) = true := by rfl) (hks : (backToKw pos (keywordEach kws X.env)).filterMap (·.1) = ks := by rfl)
    (hpl : ((backTo pos (starEach [] X.env)).any (·.1) || (backToKw pos (keywordEach kws X.env)).any (·.1.isNone)) = false := by rfl)
    (ht : eval (.Call (.Attribute o m apos) [] kws pos) X.env = (do
      let ov ← eval o X.env
      standAt apos.atName
      let (f, first) ← holding [ov] (getMethod ov m pl)
      callWith pos f first (backTo pos (starEach [] X.env)) (backToKw pos (keywordEach kws X.env))) := by rfl) :
    PE X (.Call (.Attribute o m apos) [] kws pos) (tMethKw C m ks.length sp gV ta tk) := by
  obtain ⟨f, fd, g, F, hm, b, c⟩ := M
  refine ⟨fun pins s σ H Q I h => PySem.W.methodCall_KW (pl := pl) (thn (he.run pins s σ H _ I h) fun u s1 z => ?_) ht⟩
  obtain ⟨x, H1, I1, rx, a, dx, fs, rfl, ea, l, q⟩ := z
  obtain rfl : u = Value.ref a := rx
  refine getmeth_ok I1 ea c hm l ?_
  refine PySem.W.callWith_KW0 (first := [.ref a]) (h₀ := X.base) I.ok.mod.kin hm.kp hall ?_ hpl
  refine thn (hkw.run pos pins s1 σ H1 _ I1 q) fun ws s2 ⟨zs, H2, I2, rz, l2, q2⟩ => ⟨I2.kIn, ?_⟩
  rw [hks]
  exact run_fnN (us := [.ref a]) (vs := [.ref a]) F hr b pass0 I2 (.cons rfl .nil) rz rfl l2 q2
theorem pe_mkC (M : MakC X.prog X.w X.K X.mg X.base C x k ps sp) (hr : Room (k + 1) X.A) (hg : Gl X x) (ha : PA X (e :: es) t) (hdb : (x == ("__debug__" : Str)) = false := by decide)
    (he : starEach (e :: es) X.env = (false, eval e X.env) :: starEach es X.env := by rfl) (hpl : (backTo pos (starEach es X.env)).any (·.1) = false := by rfl) :
    PE X (.Call (.Name x p) (e :: es) [] pos) (tMake C sp [] E0 t) := by
  obtain ⟨f, fd, F, mk, gm, b⟩ := M
  exact pe_make mk F hr hg gm b .nil pass0 ha hdb he hpl
theorem pe_mkKC (M : MakK X.prog X.w X.K X.mg X.base C x k ps ks gV sp) (hr : Room (k + 1) X.A) (hg : Gl X x) (hkw : PK X kws tk) (hall : (backToKw pos (keywordEach kws X.env)).all (·.1.isSome) = true := by rfl)
    (hks : (backToKw pos (keywordEach kws X.env)).filterMap (·.1) = ks := by rfl) (hdb : (x == ("__debug__" : Str)) = false := by decide)
    (hpl : ((backTo pos (starEach [] X.env)).any (·.1) || (backToKw pos (keywordEach kws X.env)).any (·.1.isNone)) = false := by rfl) :
    PE X (.Call (.Name x p) [] kws pos) (tMakeK C 0 ks.length sp gV E0 tNil tk) := by
  obtain ⟨f, fd, g, F, mk, gm, b⟩ := M
  exact pe_makeK0 mk F hr hg gm b pass0 hkw hall hks hdb hpl
theorem op_eqO (Ec : EqC X.prog X.w X.K X.mg X.base C k sp) (hr : Room (k + 1) X.A) : OpR X (compareOp .Eq) (rOwn X C sp false) := by
  obtain ⟨f, fd, F, hs, hf, b, _, _⟩ := Ec
  exact op_eqI F (hr.mono (Nat.le_succ k)) hs hf b
theorem op_neO (Ec : EqC X.prog X.w X.K X.mg X.base C k sp) (hr : Room (k + 1) X.A) : OpR X (compareOp .NotEq) (rOwn X C sp true) := by
  obtain ⟨f, fd, F, hs, hf, b, hn, ho⟩ := Ec
  exact op_neI F hr hn ho hs hf b
theorem pe_reprC (Rc : RepC X.prog X.w X.K X.mg X.base C k sp) (hg : X.A.guards = some []) (hr : Room (k + 1) X.A) (hgl : Gl X "repr") (hm : X.mg "repr" = none) (ha : PA X (e :: es) t)
    (he : starEach (e :: es) X.env = (false, eval e X.env) :: starEach es X.env := by rfl) (hpl : (backTo pos (starEach es X.env)).any (·.1) = false := by rfl) :
    PE X (.Call (.Name "repr" p) (e :: es) [] pos) (tCB (rReprI C sp) t) := by
  obtain ⟨f, fd, F, hs, hf, b⟩ := Rc
  exact pe_callB (call_reprI F hg hr hs hf b) hgl hm (by decide +kernel) ha (by decide) (by decide) he hpl
end
end Vf

set_option Elab.async false
set_option linter.all false
set_option maxRecDepth 100000
set_option maxHeartbeats 4000000
namespace Vf
open PySem PySem.Spec PyProof.Rows L2
/-! ### defs whose promise is kept whatever reprs are under way -/
structure GgOk (P : Program) (w : World) (K : PySem.W.Frag) (mg : Str → Option Value) (base : Heap)
    (k : Nat) (f : Addr) (fd : FuncData) (ps : List Str) (sp : List Code → Sp) : Prop where
  len : ∀ g vs H Q E, sp g vs H Q E → vs.length = ps.length
  go : ∀ (g : List Code) (A : Around) (outer : List Env) (s : Shared) (H : Hp) (args : Args) (us : List Value) (vs : List V) (Q : VK) (E : XK),
    A.guards = some g → Room k A → Env0 P w K mg base A outer s H → BindsTo s fd args (ps.zip us) → Vals vs us →
    sp g vs H Q E → codeAny (model P w) A (.call (.ref f) args) (CR CX0 outer P w H s Q E) s
theorem GgOk.none {P : Program} {w : World} {K : PySem.W.Frag} {mg : Str → Option Value} {base : Heap} {k : Nat} {f : Addr} {fd : FuncData} {ps : List Str} {sp : List Code → Sp}
    (F : GgOk P w K mg base k f fd ps sp) : GnOk P w K mg base k f fd ps (sp []) := ⟨F.len [], F.go []⟩
theorem deeper_guardsG {A : Around} {env : Env} {g : List Code} (h : A.guards = some g) : (A.deeper env).guards = some g := by
  first | exact h | simpa [Around.deeper] using h
theorem gg_ok {P : Program} {w : World} {K : PySem.W.Frag} {mg : Str → Option Value} {base : Heap} {x qual : Str} {st : Stmt} {f : Addr} {fd : FuncData} {N ps : List Str} {k : Nat} {sp : List Code → Sp}
    (F : Fun K x qual st f fd) (S : FnScope N ps (defScope st)) (len : ∀ g vs H Q E, sp g vs H Q E → vs.length = ps.length)
    (hb : ∀ (g : List Code) (cdv : Value) (A : Around) (outer : List Env) (s : Shared) (H : Hp) (vs : List V) (Q : VK) (E : XK),
      (A.deeper (envOfC qual (defScope st) s.heap.objs.size f cdv)).guards = some g →
      Room k (A.deeper (envOfC qual (defScope st) s.heap.objs.size f cdv)) → sp g vs H Q E →
      ∃ t, PSs (cxOf CX0 P w K mg base N qual (defScope st) f cdv A outer s H E).nox (defBody st) t ∧
        t { nx := fun _ H' => Q .non H', rt := Q } (start N vs) H) : GgOk P w K mg base (k + 1) f fd ps sp := by
  refine ⟨len, fun g A outer s H args us vs Q E hg hr e0 hbd rv hs => ?_⟩
  obtain ⟨oc, od, kV, doc, pm, an, cdv, ct, osl, rfl, lk, hcd⟩ := F.ex
  have lenU : vs.length = ps.length := len _ _ _ _ _ hs
  have kin : K.In s.heap := e0.mod.kin.keeps fun b o e => (e0.bs b o e).1
  have nolim : s.heap.NoLimit := e0.mod.nolimit.keeps fun b o e => (e0.bs b o e).1
  have kinds : ∀ y ∈ ps.zip us, (defScope st).names.lookup y.1 = some .local ∨
      ((defScope st).names.lookup y.1 = some .cell ∧
        ((cellsFrom (s.heap.objs.size + 1) (defScope st).names []).lookup y.1).isSome = true) := by
    rintro ⟨n, v⟩ hy
    cases S.par n (List.of_mem_zip hy).1 with
    | inl q => exact .inl q
    | inr q => exact .inr ⟨q, PySem.W.cellsFrom_some _ _ _ (.inl q)⟩
  refine codeAny_call_function hr.depth (kin _ _ lk) rfl S.co S.gen rfl
    (PySem.W.codeRec_of kin hcd) (hbd _ _ _ _ ?_)
  refine wpAny_newFunctionEnv_cells S.kind kinds fun env he s1 y => ?_
  subst he
  refine ⟨nolim.keeps y.toInCall.keep, codeAny_func ?_⟩
  obtain ⟨t, ht, hq⟩ := hb g cdv A outer s H vs Q E (deeper_guardsG hg) (hr.deeper _) hs
  have I0 := inv_start (CX := CX0) (P := P) (w := w) (K := K) (mg := mg) (base := base) (N := N) (qual := qual)
    (f := f) (cd := cdv) (A := A) (outer := outer) (s := s) (H := H) (E := E) S hr.hd e0 lenU rv y
  refine wpAny_mono (ht.nox.run [] s1 (start N vs) H _ I0 hq) (fun fl s' hh => ?_) fun e s' hh => hh
  cases fl with
  | next =>
    obtain ⟨σ', H', J, q⟩ := hh
    exact ⟨V.non, H', J.os, J.bare, J.base, J.hok, rfl, q⟩
  | ret u =>
    obtain ⟨v, σ', H', J, r2, q⟩ := hh
    exact ⟨v, H', J.os, J.bare, J.base, J.hok, r2, q⟩
  | brk => obtain ⟨_, _, _, q⟩ := hh; exact q.elim
  | cont => obtain ⟨_, _, _, q⟩ := hh; exact q.elim
/-! ### {xs} in an f-string whatever reprs are under way, xs a list of small numbers and truths -/
structure rFmtG (K : PySem.W.Frag) (g : List Code) (x : V) (H : Hp) (Q : VK) : Prop where
  ex : ∃ a xs, x = .ref a ∧ SqL K H a xs ∧ (∀ y ∈ xs, small y = true) ∧ Clear g a ∧ (txt xs).length ≤ sizeLine ∧ Q (.str (txt xs)) H
theorem small_is {prog : Program} {w : World} {x : V} {u : Value} (h : small x = true) (r : RelV x u) : ReprIs prog w u (toD x).shown := by
  cases x with
  | bl b =>
    cases (show u = Value.bool b from r)
    have e := ReprIs.bool (prog := prog) (w := w) b
    cases b <;> exact e
  | int i =>
    obtain ⟨t, rfl⟩ := r
    have h2 : i.natAbs.log2 < 1900 := of_decide_eq_true h
    exact ReprIs.int t (by omega)
  | _ => cases h
theorem shownAll_len : ∀ xs : List V, (PyData.shownAll (xs.map toD)).length = xs.length
  | [] => rfl
  | x :: xs => by
    rw [List.map_cons, PyData.shownAll, List.length_cons, List.length_cons, shownAll_len xs]
theorem shownAll_at : ∀ {xs : List V} {i : Nat} {x : V}, xs[i]? = some x → (PyData.shownAll (xs.map toD))[i]? = some (toD x).shown
  | y :: xs, 0, x, h => by
    cases h
    rfl
  | y :: xs, i + 1, x, h => by
    rw [List.map_cons, PyData.shownAll]
    exact shownAll_at (xs := xs) (i := i) h
theorem vals_at {xs : List V} {us : List Value} (h : Vals xs us) : ∀ {i : Nat} {z : Value}, us[i]? = some z → ∃ x, xs[i]? = some x ∧ RelV x z := by
  induction h with
  | nil => intro i z h; cases h
  | cons r _ ih =>
    intro i z h
    cases i with
    | zero =>
      cases h
      exact ⟨_, rfl, r⟩
    | succ i => exact ih h
section
variable {X : Cx}
theorem pe_fmtG {g : List Code} {e : Expr} {te : TE} {pos : Pos} (hg : X.A.guards = some g) (hu : X.A.units + 64 < cLine) (he : PE X e te) :
    PE X (.FormattedValue e (-1) none pos) (fun σ H Q => te σ H fun x H1 => rFmtG X.K g x H1 Q) := by
  refine ⟨fun pins s σ H Q I h => wpAny_FormattedValue_plain (thn (he.run pins s σ H _ I h) fun v s1 hv => ?_)⟩
  obtain ⟨x, H1, I1, r1, q⟩ := hv
  obtain ⟨a, xs, rfl, hS, sm, hc, hz, q⟩ := q.ex
  cases (show v = Value.ref a from r1)
  obtain ⟨its, rv, ⟨o, n, eo, hcl, _, hda⟩, _⟩ := I1.list hS
  refine wpAny_formatField_slot (fun _ _ => nofun) (by omega) ⟨o, eo, hcl⟩ F.slot_list_format F.slot_list_str F.slot_list_repr.toG ?_
  have txe : txt xs = listText (PyData.shownAll (xs.map toD)) := by
    unfold txt
    rw [PyData.shown]
  have fin : ∀ (h' : Heap) (u tk : Tok), (∀ b o, s1.heap.get? b = some o → h'.get? b = some o) → ∃ x t, Value.str (txt xs) u = .str x t ∧ EP X pins σ Q (.str (txt xs) u) { { s1 with toks := s1.toks + 1 } with heap := h', toks := tk } := fun h' u tk hk =>
    ⟨_, _, rfl, .str (txt xs), H1, I1.kept hk, ⟨u, rfl⟩, q⟩
  cases its with
  | nil =>
    cases rv
    have fe : txt [] = ("[]" : Str) := by decide +kernel
    rw [fe] at fin
    exact call_list_repr_empty (s := { s1 with toks := s1.toks + 1 }) ⟨o, eo, hcl⟩ eo hda (fin s1.heap _ _ fun _ _ e => e)
  | cons y l =>
    refine call_list_reprK (h₀ := s1.heap) (as := []) (d := 0) (ts := PyData.shownAll (xs.map toD)) eo hcl hda (List.not_mem_nil) ?_ ?_ hg (fun b hb => ?_) (by show X.A.units + 1 + 1 + (0 + 1) < cLine; omega) (fun _ _ e => e) (fun h' u tk hk => ?_) (by rw [← txe]; exact hz)
    · have e := rv.length
      rw [shownAll_len, e]
      rfl
    · intro i z hi
      have hi' : (y :: l)[i]? = some z := by simpa using hi
      obtain ⟨x, hx, rx⟩ := vals_at rv hi'
      refine ⟨(toD x).shown, shownAll_at hx, ?_⟩
      exact ReprK.of_is (small_is (sm x (List.mem_of_getElem? hx)) rx) _ _ _
    · rw [List.mem_singleton.mp hb]
      exact hc
    · rw [← txe]
      exact fin h' u tk hk
/-! ### repr of a list of own instances -/
theorem refs_vals {xs : List Addr} {us : List Value} (h : Vals (xs.map V.ref) us) : us = xs.map Value.ref := by
  induction xs generalizing us with
  | nil => cases h; rfl
  | cons x xs ih =>
    cases h with
    | cons r t =>
      cases (show _ = Value.ref x from r)
      rw [ih t]
      rfl
theorem loop_depth {A : Around} {args : Args} : (A.under (.builtin "list.__repr__.loop" args)).depth ≤ A.depth + 1 := by
  first | exact Nat.le_refl _ | exact Nat.le_succ _ | simp [Around.under, Code.weight, Code.isCreation, Code.isGuard, Code.isCaller, Code.frames, Code.isFrame, guardIds]
theorem loop_frames {A : Around} {args : Args} : (A.under (.builtin "list.__repr__.loop" args)).frames = A.frames := by
  first | rfl | simp [Around.under]
theorem loop_handled {A : Around} {args : Args} (h : A.handled = none) : (A.under (.builtin "list.__repr__.loop" args)).handled = none := by
  first | exact h | simpa [Around.under] using h
theorem loop_room {A : Around} {args : Args} {k : Nat} (r : Room (k + 1) A) : Room k (A.under (.builtin "list.__repr__.loop" args)) := by
  refine ⟨loop_handled r.hd, ?_, ?_⟩
  · have h1 := loop_depth (A := A) (args := args)
    have := r.dp
    omega
  · have h1 := units_under_list_loop A args
    have := r.un
    omega
theorem own_under {prog : Program} {w : World} {A : Around} {E : Value → Shared → Prop} {K : PySem.W.Frag} {s : Shared} {x C f : Addr} {ox : Obj} {od : Option Obj} {base : Nat} {Q : Str → Shared → Prop}
    (hb : base ≤ sizeLine) (hu : A.units < cLine) (kin : K.In s.heap) (I : PySem.W.InstAt s.heap x ox C od) (hs : PySem.W.findIn K (.ref C) "__repr__" = some (some (.ref f))) (hf : PySem.W.isFn K (.ref f) = true)
    (h : wpAny (model prog w) A (call (.ref f) [.ref x]) (fun v s' => ∃ t u, v = .str t u ∧ Q t s') E s) : wpAny (model prog w) A (pyReprUnder base (.ref x)) Q E s := by
  refine wpAny_pyReprUnder_ref hb ?_
  unfold pyReprObjUnder pyReprObjBy
  refine wpAny_bind (wpAny_cRoomFor hu ?_)
  refine wpAny_bind (wpAny_bind (I.type.here ((PySem.W.looks_findIn kin hs).here ?_)))
  show wpAny _ _ (if (some (Value.ref f)).isNone = true then _ else _) _ _ _
  rw [if_neg (by simp)]
  refine wpAny_bind ?_
  simp only [callSpecialIfBoundBy?, bindSpecialIfBound?]
  refine wpAny_holding (wpAny_bind (wpAny_bind (wpAny_bind (I.type.here ((PySem.W.looks_findIn kin hs).here ?_)))))
  refine wpAny_bind (wpAny_askSetting (wpAny_ite ?_))
  have fin : ∀ {Q2 : Option Value → Shared → Prop}, (∀ t u s', Q t s' → Q2 (some (.str t u)) s') → wpAny (model prog w) A (call (.ref f) ([.ref x] ++ []) >>= fun v => pure (some v)) Q2 E s := fun {Q2} k =>
    wpAny_bind (wpAny_mono h (fun v s' h' => by obtain ⟨t, u, rfl, q⟩ := h'; exact wpAny_pure (k t u s' q)) fun _ _ h' => h')
  have tail : ∀ t u s', Q t s' → wpAny (model prog w) A (pure (Value.str t u)) (fun v s2 => ∃ x u, v = .str x u ∧ Q x s2) E s' := fun t u s' q => wpAny_pure ⟨t, u, rfl, q⟩
  split
  · refine wpAny_bind ((PySem.W.bind_fn kin _ (beq_iff_eq.mp hf)).here (wpAny_pure ?_))
    refine wpAny_bind (wpAny_mono h (fun v s' h' => ?_) fun _ _ h' => h')
    obtain ⟨t, u, rfl, q⟩ := h'
    refine wpAny_pure ?_
    exact wpAny_bind (wpAny_isInstance (typeIs_str _ _ _) isSubtype_str_str (tail t u s' q))
  · refine wpAny_tryCatch (wpAny_bind ((PySem.W.bind_fn kin _ (beq_iff_eq.mp hf)).here (wpAny_pure ?_)))
    refine wpAny_bind (wpAny_mono h (fun v s' h' => ?_) fun _ _ h' => h')
    obtain ⟨t, u, rfl, q⟩ := h'
    refine wpAny_pure ?_
    exact wpAny_bind (wpAny_isInstance (typeIs_str _ _ _) isSubtype_str_str (tail t u s' q))
/-- a guard of this list's repr, on those that are up -/
def Ug (a : Addr) (g g' : List Code) : Prop := ∃ rest, g' = Code.builtin "list.__repr__.loop" ⟨.ref a :: rest, []⟩ :: g
/-- an own instance's text, told under that guard, the tracked heap as before -/
def ReprU (X : Cx) (σ : L2.St) (H : Hp) (a : Addr) (g : List Code) (k : Nat) (x : Addr) (t : Str) : Prop :=
  ∀ (base : Nat) (g' : List Code) (A : Around) (pins : List (Addr × Obj)) (s : Shared) (Q : Str → Shared → Prop) (E : Value → Shared → Prop), base + t.length ≤ sizeLine → Ug a g g' → A.guards = some g' → A.frames = X.A.frames → Room k A → Inv X pins σ H s →
    (∀ s', Inv X pins σ H s' → Q t s') → wpAny (model X.prog X.w) A (pyReprUnder base (.ref x)) Q E s
theorem pile_sizes : ∀ ts : List Str, 2 * ts.length ≤ piled ts ∧ ∀ t ∈ ts, t.length ≤ piled ts
  | [] => ⟨Nat.zero_le _, fun _ h => nomatch h⟩
  | t :: r => by
    obtain ⟨a, b⟩ := pile_sizes r
    rw [piled_cons]
    refine ⟨by rw [List.length_cons]; omega, fun u hu => ?_⟩
    rcases List.mem_cons.mp hu with rfl | hu
    · omega
    · have := b u hu
      omega
/-- what a list's text, not too long, tells of its pieces -/
theorem list_sizes {ts : List Str} (h : (listText ts).length ≤ sizeLine) : ts.length ≤ sizeLine ∧ (∀ t ∈ ts, t.length ≤ sizeLine) ∧ piled ts ≤ sizeLine := by
  have whole := Nat.le_trans (piled_le_listText ts) h
  obtain ⟨a, b⟩ := pile_sizes ts
  exact ⟨by omega, fun t ht => Nat.le_trans (b t ht) whole, whole⟩
theorem loopI {X : Cx} {σ : L2.St} {H : Hp} {pins : List (Addr × Obj)} {g : List Code} {A : Around} {a P : Addr} {xs : List Addr} {ts : List Str} {k0 : Nat} {R : Result → Shared → Prop} (hg : A.guards = some g) (hfr : A.frames = X.A.frames) (hr : Room (k0 + 1) A)
    (hlen : ts.length = xs.length) (hS : SqL X.K H a (xs.map V.ref)) (item : ∀ (i : Nat) (x : Addr), xs[i]? = some x → ∃ t, ts[i]? = some t ∧ ReprU X σ H a g k0 x t) (hsz : (listText ts).length ≤ sizeLine)
    (p1 : X.s_0.heap.objs.size ≤ P) (p2 : ∀ x c, X.env.cells.lookup x = some c → c ≠ P) (p3 : ∀ p ∈ X.pn ++ pins, p.1 ≠ P) (p4 : P ≠ X.env.locals) (p5 : P ∉ X.fs) (p6 : H P = none)
    (hR : ∀ s' u, Inv X pins σ H s' → R (.ok (.ret (.str (listText ts) u))) s') :
    ∀ (k i : Nat) (s : Shared) (acc : Array Value) (c : Nat) (done : List (Str × Tok)), xs.length - i = k → i ≤ xs.length → Inv X ((P, { cls := .type "list", dict := none, data := .seq acc c, slots := #[] }) :: pins) σ H s →
    acc.toList = strValues done → done.map (·.1) = ts.take i →
    codeAny (model X.prog X.w) A (.builtin "list.__repr__.loop" ⟨[.ref a, rawInt i, .ref P, rawInt ((0 + piled (ts.take i) : Nat) : Int)], []⟩) R s := by
  obtain ⟨few, short, pile⟩ := list_sizes hsz
  intro k
  induction k with
  | zero =>
    intro i s acc c done hk hi I hacc hdone
    have hin : i = xs.length := by omega
    have hP := (I.pin _ (List.mem_append_right _ List.mem_cons_self)).1
    obtain ⟨its, rv, ⟨o, n, eo, hcl, _, hda⟩, _⟩ := I.list hS
    obtain rfl := refs_vals rv
    refine codeAny_builtin F.entry_list_repr_loop ?_
    show wpAny _ _ (Builtin.«list.__repr__.loop» ⟨[.ref a, .int i 0, .ref P, .int ((0 + piled (ts.take i) : Nat) : Int) 0], []⟩) _ _ s
    rw [repr_loop_tree]
    refine wpAny_bind (wpAny_listItems eo hda ?_)
    have hnone : (xs.map Value.ref).toArray[(i : Int).toNat]? = none := by simp [hin]
    simp only [hnone]
    unfold reprEnd
    refine wpAny_bind (wpAny_listItems hP rfl ?_)
    rw [hacc, repr_fold]
    refine wpAny_bind (wpAny_pure ?_)
    have hall : done.map (·.1) = ts := by rw [hdone, hin, ← hlen, List.take_length]
    rw [hall]
    refine wpAny_bind (wpAny_mkStr (wpAny_pure ?_) hsz)
    exact hR _ _ ((I.pins_of fun p hp => I.pin p (List.mem_append_right _ (List.mem_cons_of_mem _ hp))).tok _)
  | succ k ih =>
    intro i s acc c done hk hi I hacc hdone
    have hlt : i < xs.length := by omega
    obtain ⟨t, ht, hrep⟩ := item i xs[i] (List.getElem?_eq_getElem hlt)
    have hq1 := piled_take_succ ht
    have hq2 := piled_take_le ts (i + 1)
    obtain ⟨its, rv, ⟨o, n, eo, hcl, _, hda⟩, _⟩ := I.list hS
    obtain rfl := refs_vals rv
    refine codeAny_builtin F.entry_list_repr_loop ?_
    show wpAny _ _ (Builtin.«list.__repr__.loop» ⟨[.ref a, .int i 0, .ref P, .int ((0 + piled (ts.take i) : Nat) : Int) 0], []⟩) _ _ s
    rw [repr_loop_tree]
    refine wpAny_bind (wpAny_listItems eo hda ?_)
    have hsome : (xs.map Value.ref).toArray[(i : Int).toNat]? = some (.ref xs[i]) := by simp [hlt]
    simp only [hsome]
    rw [Int.toNat_natCast]
    refine wpAny_bind (wpAny_holding (hrep (0 + piled (ts.take i) + 1) _ _ _ _ _ _ (by omega) ⟨_, rfl⟩ (guards_under_guard (isGuard_list_loop _) hg) (loop_frames.trans hfr) (loop_room hr) I fun s' I' => ?_))
    refine wpAny_bind (wpAny_mkStr ?_ (short t (List.mem_of_getElem? ht)))
    refine wpAny_bind ?_
    show wpAny _ _ (updateSeq P _) _ _ _
    have hasz : acc.size ≤ sizeLine := by
      have gone : done.length = i := by
        have e := congrArg List.length hdone
        rw [List.length_map, List.length_take, hlen, Nat.min_eq_left hi] at e
        exact e
      have sizes := congrArg List.length hacc
      rw [Array.length_toList] at sizes
      unfold strValues at sizes
      rw [List.length_map, gone] at sizes
      omega
    have hP' := (I'.pin _ (List.mem_append_right _ List.mem_cons_self)).1
    refine wpAny_updateSeq hP' rfl (wpAny_pure ⟨F.quiet_list_repr_loop _, ?_⟩) hasz
    have e1 : ((i : Int) + 1) = ((i + 1 : Nat) : Int) := by omega
    have e2 : 0 + piled (ts.take i) + (t.length + 2) = 0 + piled (ts.take (i + 1)) := by omega
    rw [e1, e2]
    have I0 : Inv X pins σ H s' := I'.pins_of fun p hp => I'.pin p (List.mem_append_right _ (List.mem_cons_of_mem _ hp))
    have I1 := I0.turned (t' := s'.toks + 1) (it := P) (h' := s'.heap.update P (Obj.mapSeq fun x => x.push (.str t s'.toks))) (fun b o hb e => (Heap.get?_update_other _ _ (fun h : P = b => hb h.symm)).trans e) p6 p4 (.inr p1) p2 p3
    have gP : ∃ c2 : Nat, (s'.heap.update P (Obj.mapSeq fun x => x.push (.str t s'.toks))).get? P = some { cls := .type "list", dict := none, data := .seq (acc.push (.str t s'.toks)) c2, slots := #[] } := ⟨_, Heap.get?_update_self _ hP' rfl⟩
    obtain ⟨c2, gP⟩ := gP
    refine ih (i + 1) _ (acc.push (.str t s'.toks)) c2 (done ++ [(t, s'.toks)]) (by omega) hlt (I1.pins_of fun p hp => ?_) (by simp [hacc, strValues]) (by simp [List.take_add_one, ht, hdone])
    rcases List.mem_cons.mp hp with rfl | hp
    · exact ⟨gP, p6, p4, p5, fun v => nofun⟩
    · exact I1.pin p (List.mem_append_right _ hp)
theorem reprU_own {X : Cx} {σ : L2.St} {H : Hp} {a x C f dx : Addr} {fs : List (Str × V)} {g : List Code} {k : Nat} {t : Str} {fd : FuncData} {ps : List Str} {sp : List Code → Sp} (F : GgOk X.prog X.w X.K X.mg X.base k f fd ps sp)
    (hs : PySem.W.findIn X.K (.ref C) "__repr__" = some (some (.ref f))) (hf : PySem.W.isFn X.K (.ref f) = true) (hb : Binds X.K fd ps []) (hx : H x = some (.ins C dx fs))
    (hsp : ∀ g', Ug a g g' → sp g' [.ref x] H (fun v H' => v = .str t ∧ H' = H) E0) : ReprU X σ H a g k x t := by
  intro base g' A pins s Q E hbs ug hg hfr hr I hQ
  obtain ⟨mA, O, _⟩ := ins_get I.hok hx
  obtain ⟨od, J, _⟩ := O.look
  refine own_under (by omega) hr.units0 I.kIn J hs hf ?_
  have hq := hsp g' ug
  have hl : ([Value.ref x] ++ ([] : List Value)).length = ps.length := by
    rw [← F.len _ _ _ _ _ hq]
    rfl
  have bb := hb s [.ref x] I.kIn hl
  rw [List.append_nil] at bb
  have e0 : Env0 X.prog X.w X.K X.mg X.base A X.stack s H := by
    have e := I.env0
    exact ⟨hfr.trans e.frames, e.mod, e.bs, e.bsz, e.funs, e.frf, e.hok, e.bare⟩
  refine wpAny_call (codeAny_mono (F.go g' A X.stack s H ⟨[.ref x], []⟩ [.ref x] [.ref x] _ E0 hg hr e0 bb (.cons rfl .nil) hq) fun res s' hh => ?_)
  cases res with
  | error e => exact hh.elim
  | ok fl =>
    cases fl with
    | next => exact hh.elim
    | brk => exact hh.elim
    | cont => exact hh.elim
    | ret u =>
      obtain ⟨v, H', I', rv, rfl, rfl⟩ := I.after hh
      obtain ⟨tk, rfl⟩ := rv
      exact ⟨t, tk, rfl, hQ s' I'⟩
/-- a list of own instances of one class, each one's text told by its __repr__'s promise, the tracked heap as before -/
structure rReprLO (C : Addr) (sp : List Code → Sp) (vs0 : List V) (H : Hp) (Q : VK) : Prop where
  ex : ∃ (a : Addr) (xs : List Addr) (ts : List Str), vs0 = [.ref a] ∧ H a = some (.lst (xs.map V.ref)) ∧ ts.length = xs.length ∧
    (∀ (i : Nat) (x : Addr), xs[i]? = some x → ∃ t dx fs, ts[i]? = some t ∧ H x = some (.ins C dx fs) ∧ ∀ g', Ug a [] g' → sp g' [.ref x] H (fun v H' => v = .str t ∧ H' = H) E0) ∧
    (listText ts).length ≤ sizeLine ∧ Q (.str (listText ts)) H
theorem call_reprLO {X : Cx} {C f : Addr} {fd : FuncData} {sp : List Code → Sp} {k : Nat} {ps : List Str} (F : GgOk X.prog X.w X.K X.mg X.base k f fd ps sp) (hg : X.A.guards = some []) (hr : Room (k + 2) X.A)
    (hs : PySem.W.findIn X.K (.ref C) "__repr__" = some (some (.ref f))) (hf : PySem.W.isFn X.K (.ref f) = true) (hb : Binds X.K fd ps []) : CallR X (.builtin "repr") (rReprLO C sp) := by
  intro pins s σ H xs0 us Q I r h
  obtain ⟨a, xs, ts, rfl, ha, hlen, item, hsz, q⟩ := h.ex
  obtain ⟨u1, rfl, r1⟩ := vals1 r
  cases (show u1 = Value.ref a from r1)
  obtain ⟨its, rv, ⟨o, n, eo, hcl, _, hda⟩, _⟩ := I.list (SqL.of ha)
  obtain rfl := refs_vals rv
  refine call_repr_slot (by have := hr.units; omega) ⟨o, eo, hcl⟩ PySem.F.slot_list_repr.toG ?_
  cases xs with
  | nil =>
    cases ts with
    | cons _ _ => cases hlen
    | nil =>
      refine call_list_repr_empty ⟨o, eo, hcl⟩ eo hda ⟨_, _, rfl, .str ("[]" : Str), H, I.tok _, ⟨_, rfl⟩, ?_⟩
      rw [show (listText []) = ("[]" : Str) from by decide +kernel] at q
      exact q
  | cons x xs =>
    refine wpAny_call (codeAny_call_builtin PySem.F.slot_list_repr.plain PySem.F.entry_list_repr (PySem.F.slot_list_repr.check _ _ _ _ _ _ _ _ ⟨o, eo, hcl⟩ (PySem.F.args_list_repr_1 _) ?_))
    refine wpAny_list_repr_head (g := []) hg (fun _ _ _ hm => nomatch hm) eo hda ?_
    refine wpAny_bind (m := newList []) (wpAny_newObj_type ?_)
    refine wpAny_pure ⟨PySem.F.quiet_list_repr_loop _, ?_⟩
    have I1 := ClX.pin_new (o := { cls := .type "list", dict := none, data := .seq #[] 0, slots := #[] }) (h' := s.heap.push { cls := .type "list", dict := none, data := .seq #[] 0, slots := #[] }) (t' := s.toks) I (fun _ _ z => Heap.get?_push_of_some _ z) (Nat.le_refl _) (Heap.get?_push_size s.heap rfl) (fun v => nofun)
    refine loopI (X := X) (H := H) (σ := σ) (pins := pins) (A := X.A.in1) (g := []) (k0 := k) (P := s.heap.objs.size) (xs := x :: xs) (ts := ts) hg rfl (hr.in1) hlen (SqL.of ha) (fun i z hz => ?_) hsz I.sz (fun y c e z => ?_) (fun p hp z => ?_) (Nat.ne_of_gt I.lt) (I.nofs (Nat.le_refl _)) (I.hok.fresh (Nat.le_refl _)) (fun s' u I' => ?_)
      _ 0 _ #[] 0 [] rfl (Nat.zero_le _) I1 rfl (by simp)
    · obtain ⟨t, dx, fs, e1, e2, e3⟩ := item i z hz
      exact ⟨t, e1, reprU_own F hs hf hb e2 e3⟩
    · obtain ⟨v, ob, e1, _⟩ := I.cell y c e
      rw [z] at e1
      exact Nat.lt_irrefl _ (Heap.lt_size e1)
    · have e1 := (I.pin p hp).1
      rw [z] at e1
      exact Nat.lt_irrefl _ (Heap.lt_size e1)
    · exact ⟨_, _, rfl, .str (listText ts), H, I', ⟨u, rfl⟩, q⟩
end
end Vf

set_option Elab.async false
set_option linter.all false
set_option maxRecDepth 100000
set_option maxHeartbeats 4000000
namespace Vf
open PySem PySem.Spec PyProof.Rows L2
/-! ### repr of a value of any kind -/
def keyD : Key → PyData
  | .inl i => .int i
  | .inr x => .str x
/-- a dict of small whole numbers and truths -/
def dicD (kvs : List (Key × V)) : PyData := .dict (kvs.map fun p => (keyD p.1, toD p.2))
def smallP (p : Key × V) : Prop := (∃ i : Int, p.1 = .inl i ∧ i.natAbs.log2 < 1900) ∧ small p.2 = true
theorem reads_small {h : Heap} {x : V} {u : Value} (hs : small x = true) (r : RelV x u) : Reads h u (toD x) [] := by
  cases x with
  | bl b =>
    cases (show u = Value.bool b from r)
    exact .bool b
  | int i =>
    obtain ⟨t, rfl⟩ := r
    exact .int i t
  | _ => cases hs
theorem pairs_reads {P : Program} {w : World} {h : Heap} {es : List DictEntry} {ws : List (Key × Value)} (hp : Pairs (mixKind P w) es ws) : ∀ {kvs : List (Key × V)}, KV kvs ws → (∀ p ∈ kvs, smallP p) →
    ReadsAll h (es.map (·.key)) ((kvs.map fun p => (keyD p.1, toD p.2)).map (·.1)) [] ∧ ReadsAll h (es.map (·.val)) ((kvs.map fun p => (keyD p.1, toD p.2)).map (·.2)) [] := by
  induction hp with
  | nil =>
    intro kvs k _
    cases k
    exact ⟨.nil, .nil⟩
  | @cons e kv es ws h1 h2 _ ih =>
    intro kvs k hs
    cases k with
    | @cons p _ ps _ r t =>
      obtain ⟨⟨i, ei, hi⟩, sv⟩ := hs p List.mem_cons_self
      obtain ⟨a, b⟩ := ih t fun q hq => hs q (List.mem_cons_of_mem _ hq)
      obtain ⟨r1, r2⟩ := r
      have hk : keyIs (.inl i) e.key = true := by
        rw [← ei, r1]
        exact h1
      obtain ⟨tk, ek⟩ := Value.isInt_shape (k := i) (v := e.key) hk
      refine ⟨?_, ?_⟩
      · have c : Reads h e.key (keyD p.1) [] := by
          rw [ei, ek]
          exact .int i tk
        exact ReadsAll.cons (as := []) (bs := []) c a
      · have c : Reads h e.val (toD p.2) [] := by
          rw [h2]
          exact reads_small sv r2
        exact ReadsAll.cons (as := []) (bs := []) c b
theorem showable_kv : ∀ {kvs : List (Key × V)}, (∀ p ∈ kvs, smallP p) → PyData.showableKv (kvs.map fun p => (keyD p.1, toD p.2)) = true
  | [], _ => by rw [List.map_nil, PyData.showableKv]
  | p :: r, h => by
    obtain ⟨⟨i, ei, hi⟩, sv⟩ := h p List.mem_cons_self
    have k1 : (keyD p.1).showable = true := by
      rw [ei]
      exact decide_eq_true (by omega)
    rw [List.map_cons, PyData.showableKv, showable_kv fun q hq => h q (List.mem_cons_of_mem _ hq), k1, (small_show sv).1]
    rfl
theorem depth_kv : ∀ kvs : List (Key × V), PyData.depthKv (kvs.map fun p => (keyD p.1, toD p.2)) = 0
  | [] => by rw [List.map_nil, PyData.depthKv]
  | p :: r => by
    have k1 : (keyD p.1).depth = 0 := by cases p.1 <;> rfl
    have k2 : (toD p.2).depth = 0 := by cases p.2 <;> rfl
    rw [List.map_cons, PyData.depthKv, depth_kv r, k1, k2]
    rfl
/-- what repr tells of the value, the tracked heap as it is: K the written part, C a class with a __repr__ that keeps sp -/
inductive Tells (K : PySem.W.Frag) (C : Addr) (sp : List Code → Sp) (H : Hp) : V → Str → Prop where
  | non : Tells K C sp H .non "None"
  | bl (b : Bool) : Tells K C sp H (.bl b) (if b then "True" else "False")
  | int {i : Int} (h : i.natAbs.log2 < 1920) : Tells K C sp H (.int i) (toString i)
  | str {x : Str} (h : (reprText x).length ≤ sizeLine) : Tells K C sp H (.str x) (reprText x)
  | data {a : Addr} {d : PyData} (hD : Dp K H (.ref a) d) (hs : d.showable = true) (hn : d.hasDict = false) (hd : d.depth ≤ 60) (hz : d.shown.length ≤ sizeLine) : Tells K C sp H (.ref a) d.shown
  | own {a dx : Addr} {fs : List (Str × V)} {t : Str} (ha : H a = some (.ins C dx fs)) (hs : sp [] [.ref a] H (fun v H' => v = .str t ∧ H' = H) E0) : Tells K C sp H (.ref a) t
  | owns {a : Addr} {xs : List Addr} {ts : List Str} (ha : H a = some (.lst (xs.map V.ref))) (hl : ts.length = xs.length)
      (hi : ∀ (i : Nat) (x : Addr), xs[i]? = some x → ∃ t dx fs, ts[i]? = some t ∧ H x = some (.ins C dx fs) ∧ ∀ g', Ug a [] g' → sp g' [.ref x] H (fun v H' => v = .str t ∧ H' = H) E0)
      (hz : (listText ts).length ≤ sizeLine) : Tells K C sp H (.ref a) (listText ts)
  | dic {a : Addr} {kvs : List (Key × V)} (ha : H a = some (.dK kvs)) (hs : ∀ p ∈ kvs, smallP p) (hz : (dicD kvs).shown.length ≤ sizeLine) : Tells K C sp H (.ref a) (dicD kvs).shown
structure rReprA (K : PySem.W.Frag) (C : Addr) (sp : List Code → Sp) (xs : List V) (H : Hp) (Q : VK) : Prop where
  ex : ∃ x t, xs = [x] ∧ Tells K C sp H x t ∧ Q (.str t) H
theorem call_reprA {X : Cx} {C f : Addr} {fd : FuncData} {sp : List Code → Sp} {k : Nat} {ps : List Str} (F : GgOk X.prog X.w X.K X.mg X.base k f fd ps sp) (hg : X.A.guards = some []) (hr : Room (k + 2) X.A)
    (hs : PySem.W.findIn X.K (.ref C) "__repr__" = some (some (.ref f))) (hf : PySem.W.isFn X.K (.ref f) = true) (hb : Binds X.K fd ps []) : CallR X (.builtin "repr") (rReprA X.K C sp) := by
  intro pins s σ H xs us Q I r h
  obtain ⟨x, t, rfl, ht, q⟩ := h.ex
  cases ht with
  | non =>
    obtain ⟨u, rfl, r1⟩ := vals1 r
    cases (show u = Value.none from r1)
    exact PySem.P.repr_of_none ⟨.str _, H, I.tok _, ⟨_, rfl⟩, q⟩
  | bl b =>
    obtain ⟨u, rfl, r1⟩ := vals1 r
    cases (show u = Value.bool b from r1)
    exact PySem.P.repr_of_bool ⟨.str _, H, I.tok _, ⟨_, rfl⟩, q⟩
  | int hi =>
    obtain ⟨u, rfl, t, rfl⟩ := vals1 r
    exact PySem.P.repr_of_int hi ⟨.str _, H, I.tok _, ⟨_, rfl⟩, q⟩
  | str hx =>
    obtain ⟨u, rfl, t, rfl⟩ := vals1 r
    exact PySem.P.repr_of_str ⟨.str _, H, I.tok _, ⟨_, rfl⟩, q⟩ hx
  | data hD h1 h2 h3 h4 => exact call_repr hg hr.units pins s σ H _ us Q I r ⟨⟨_, _, rfl, hD, h1, h2, h3, h4, q⟩⟩
  | @own a dx fs t ha hsp =>
    obtain ⟨u1, rfl, r1⟩ := vals1 r
    cases (show u1 = Value.ref a from r1)
    obtain ⟨mA, O, _⟩ := ins_get I.hok ha
    obtain ⟨od, J, _⟩ := O.look
    obtain ⟨m, hF⟩ := I.fr
    refine PySem.W.repr_K (by have := hr.units; show X.A.units + 1 < cLine; omega) hF I.ok.mod.kin J hs hf ?_
    have hl : ([Value.ref a] ++ ([] : List Value)).length = ps.length := by
      rw [← F.len _ _ _ _ _ hsp]
      rfl
    have bb := hb s [.ref a] I.kIn hl
    rw [List.append_nil] at bb
    refine wpAny_call (codeAny_mono (F.go [] X.A.in1 X.stack s H ⟨[.ref a], []⟩ [.ref a] [.ref a] _ E0 hg (hr.in1.mono (Nat.le_succ k)) I.env0.in1 bb (.cons rfl .nil) hsp) fun res s' hh => ?_)
    cases res with
    | error e => exact hh.elim
    | ok fl =>
      cases fl with
      | next => exact hh.elim
      | brk => exact hh.elim
      | cont => exact hh.elim
      | ret u =>
        obtain ⟨v, H', I', rv, rfl, rfl⟩ := I.after hh
        obtain ⟨tk, rfl⟩ := rv
        exact ⟨.str t, H', I', ⟨tk, rfl⟩, q⟩
  | @dic a kvs ha hs hz =>
    obtain ⟨u1, rfl, r1⟩ := vals1 r
    cases (show u1 = Value.ref a from r1)
    obtain ⟨_, hsm, ws, kv, o, es, ep, e1, ex, e2, _, pr, _⟩ := dk_of I.hok ha
    obtain ⟨k1, k2⟩ := pairs_reads (h := s.heap) pr kv hs
    have rd : Reads s.heap (.ref a) (dicD kvs) (a :: [] ++ []) := .dict e1 ex.1 e2 k1 k2
    refine repr_of_reads' rd (by unfold dicD; rw [PyData.showable]; exact showable_kv hs) (fun _ hm => ?_) hg (by have := hr.units; unfold dicD; rw [PyData.depth, depth_kv]; omega) (fun _ _ e => e) (fun h' u tk hk => ⟨.str (dicD kvs).shown, H, I.kept hk, ⟨u, rfl⟩, q⟩) hz
    have e3 : sysModules = a := by simpa using hm
    rw [e3, beq_self_eq_true] at hsm
    cases hsm
  | owns ha hl hi hz => exact call_reprLO F hg hr hs hf hb pins s σ H _ us Q I r ⟨⟨_, _, _, rfl, ha, hl, hi, hz, q⟩⟩
end Vf

set_option Elab.async false
set_option linter.all false
set_option maxRecDepth 100000
set_option maxHeartbeats 4000000
namespace Vf
/-! ### the plain basis of the room that words make -/
theorem sort_desc (l : List Nat) : ∃ D : List Nat, D.Perm l ∧ D.Pairwise (· ≥ ·) := by
  refine ⟨l.mergeSort fun a b => decide (b ≤ a), List.mergeSort_perm _ _, ?_⟩
  refine (List.pairwise_mergeSort (fun a b c h1 h2 => ?_) (fun a b => ?_) l).imp fun h => of_decide_eq_true h
  · exact decide_eq_true (Nat.le_trans (of_decide_eq_true h2) (of_decide_eq_true h1))
  · rcases Nat.le_total a b with h | h
    · rw [decide_eq_true h, Bool.or_true]
    · rw [decide_eq_true h, Bool.true_or]
theorem ge_gt {D : List Nat} (h : Piv D) (g : D.Pairwise (· ≥ ·)) : D.Pairwise (· > ·) := by
  refine (List.Pairwise.and g (piv_nodup h)).imp fun k => ?_
  obtain ⟨a, b⟩ := k
  omega
theorem plain_nil : Plain [] := ⟨⟨List.Pairwise.nil, fun _ k => (List.not_mem_nil k).elim⟩, List.Pairwise.nil⟩
theorem plain_ex : ∀ ws : List Nat, ∃ B, Plain B ∧ ∀ v, span B v ↔ span ws v
  | [] => ⟨[], plain_nil, fun _ => Iff.rfl⟩
  | w :: ws => by
    obtain ⟨B, pl, sp⟩ := plain_ex ws
    have e : ∀ v, span (restOf w B :: B) v ↔ span (w :: ws) v := fun v => by
      rw [rest_room pl.1, span_cons, span_cons, sp, sp]
    by_cases r0 : restOf w B = 0
    · refine ⟨B, pl, fun v => ?_⟩
      rw [← e v, r0]
      exact ⟨span_sub fun x hx => span_mem (List.mem_cons_of_mem _ hx), span_sub fun x hx => (List.mem_cons.mp hx).elim (fun e => by rw [e]; exact span_zero B) span_mem⟩
    · obtain ⟨D, pm, ge⟩ := sort_desc (B.map (clear1 (restOf w B)) ++ [restOf w B])
      have pD := piv_perm pm.symm (put_piv pl.1 r0 fun x hx => rest_off pl.1 w hx)
      exact ⟨D, ⟨pD, ge_gt pD ge⟩, fun v => by rw [span_perm pm v, put_span, e v]⟩
noncomputable def bas (ws : List Nat) : List Nat := Classical.choose (plain_ex ws)
theorem bas_plain (ws : List Nat) : Plain (bas ws) := (Classical.choose_spec (plain_ex ws)).1
theorem bas_span (ws : List Nat) (v : Nat) : span (bas ws) v ↔ span ws v := (Classical.choose_spec (plain_ex ws)).2 v
theorem bas_uniq {B ws : List Nat} (h : Plain B) (k : ∀ v, span B v ↔ span ws v) : B = bas ws := plain_unique h (bas_plain ws) fun v => (k v).trans (bas_span ws v).symm
theorem bas_self {B : List Nat} (h : Plain B) : bas B = B := (bas_uniq h fun _ => Iff.rfl).symm
theorem bas_eq {ws us : List Nat} (h : ∀ v, span ws v ↔ span us v) : bas ws = bas us := bas_uniq (bas_plain ws) fun v => (bas_span ws v).trans (h v)
theorem bas_iff (ws us : List Nat) : bas ws = bas us ↔ ∀ v, span ws v ↔ span us v := ⟨fun e v => by rw [← bas_span ws, ← bas_span us, e], bas_eq⟩
theorem bas_lt {ws : List Nat} {n : Nat} (h : ∀ v ∈ ws, v < 2 ^ n) : ∀ c ∈ bas ws, c < 2 ^ n := fun c hc => span_lt h ((bas_span ws c).mp (span_mem hc))
theorem down_len : ∀ {l : List Nat} {n : Nat}, l.Pairwise (fun b c => c < b) → (∀ b ∈ l, b < n) → l.length ≤ n
  | [], _, _, _ => Nat.zero_le _
  | b :: l, n, h, hn => by
    have h2 := List.pairwise_cons.mp h
    have := down_len (n := b) h2.2 h2.1
    have := hn b List.mem_cons_self
    rw [List.length_cons]
    omega
theorem plain_len {B : List Nat} {n : Nat} (h : Plain B) (hn : ∀ c ∈ B, c < 2 ^ n) : B.length ≤ n := by
  have := down_len (l := B.map Nat.log2) (n := n) (by rw [List.pairwise_map]; exact plain_logs h) fun x hx => by
    obtain ⟨c, hc, rfl⟩ := List.mem_map.mp hx
    exact (lt_pow_log (h.1.2 c hc)).mp (hn c hc)
  rwa [List.length_map] at this
theorem piv_sub {B C : List Nat} (s : C.Sublist B) (h : Piv B) : Piv C := ⟨h.1.sublist s, fun b k => h.2 b (s.mem k)⟩
theorem plain_sub {B C : List Nat} (s : C.Sublist B) (h : Plain B) : Plain C := ⟨piv_sub s h.1, h.2.sublist s⟩
/-! ### rooms of sums, of images -/
theorem span_append {A B : List Nat} {v : Nat} : span (A ++ B) v ↔ ∃ a b, span A a ∧ span B b ∧ v = a ^^^ b := by
  constructor
  · intro h
    refine h (fun v => ∃ a b, span A a ∧ span B b ∧ v = a ^^^ b) ⟨⟨0, 0, span_zero A, span_zero B, rfl⟩, ?_⟩ fun w hw => ?_
    · rintro _ _ ⟨a, b, h1, h2, rfl⟩ ⟨c, d, h3, h4, rfl⟩
      refine ⟨a ^^^ c, b ^^^ d, span_xor h1 h3, span_xor h2 h4, ?_⟩
      apply Nat.eq_of_testBit_eq
      intro i
      simp only [Nat.testBit_xor]
      cases a.testBit i <;> cases b.testBit i <;> cases c.testBit i <;> cases d.testBit i <;> rfl
    · rcases List.mem_append.mp hw with k | k
      · exact ⟨w, 0, span_mem k, span_zero B, (Nat.xor_zero w).symm⟩
      · exact ⟨0, w, span_zero A, span_mem k, (Nat.zero_xor w).symm⟩
  · rintro ⟨a, b, h1, h2, rfl⟩
    exact span_xor (span_sub (fun x hx => span_mem (List.mem_append_left _ hx)) h1) (span_sub (fun x hx => span_mem (List.mem_append_right _ hx)) h2)
def LinF (f : Nat → Nat) : Prop := ∀ a b, f (a ^^^ b) = f a ^^^ f b
theorem LinF.zero {f : Nat → Nat} (h : LinF f) : f 0 = 0 := by
  have := h 0 0
  rw [Nat.xor_self, Nat.xor_self] at this
  exact this
theorem span_map {f : Nat → Nat} (hf : LinF f) {A : List Nat} {v : Nat} : span (A.map f) v ↔ ∃ a, span A a ∧ v = f a := by
  constructor
  · intro h
    refine h (fun v => ∃ a, span A a ∧ v = f a) ⟨⟨0, span_zero A, hf.zero.symm⟩, ?_⟩ fun w hw => ?_
    · rintro _ _ ⟨a, h1, rfl⟩ ⟨b, h2, rfl⟩
      exact ⟨a ^^^ b, span_xor h1 h2, (hf a b).symm⟩
    · obtain ⟨a, ha, rfl⟩ := List.mem_map.mp hw
      exact ⟨a, span_mem ha, rfl⟩
  · rintro ⟨a, h, rfl⟩
    exact h (fun a => span (A.map f) (f a)) ⟨by show span (A.map f) (f 0); rw [hf.zero]; exact span_zero _, fun a b ha hb => by show span (A.map f) (f (a ^^^ b)); rw [hf]; exact span_xor ha hb⟩ fun w hw => span_mem (List.mem_map_of_mem hw)
theorem span_congr {A B C D : List Nat} (h1 : ∀ v, span A v ↔ span C v) (h2 : ∀ v, span B v ↔ span D v) (v : Nat) : span (A ++ B) v ↔ span (C ++ D) v := by
  rw [span_append, span_append]
  constructor
  · rintro ⟨a, b, p, q, e⟩
    exact ⟨a, b, (h1 a).mp p, (h2 b).mp q, e⟩
  · rintro ⟨a, b, p, q, e⟩
    exact ⟨a, b, (h1 a).mpr p, (h2 b).mpr q, e⟩
theorem span_bas2 (A B : List Nat) (v : Nat) : span (bas A ++ bas B) v ↔ span (A ++ B) v := span_congr (bas_span A) (bas_span B) v
/-- what the basis words below a bound make -/
theorem comb_filter {v : Nat} {p : Nat → Bool} : ∀ {B : List Nat}, (∀ b ∈ B, p b = false → v.testBit b.log2 = false) → comb v B = comb v (B.filter p)
  | [], _ => rfl
  | b :: B, h => by
    have r := comb_filter (v := v) (p := p) (B := B) fun c k => h c (List.mem_cons_of_mem _ k)
    cases hp : p b with
    | true => rw [List.filter_cons_of_pos hp, comb_cons, comb_cons, r]
    | false => rw [List.filter_cons_of_neg (by simp [hp]), comb_cons, h b List.mem_cons_self hp, if_neg (by simp), Nat.zero_xor, r]
theorem low_span {P : List Nat} (h : Plain P) (n v : Nat) : span (P.filter fun w => decide (w < 2 ^ n)) v ↔ span P v ∧ v < 2 ^ n := by
  constructor
  · intro k
    exact ⟨span_sub (fun w hw => span_mem (List.mem_filter.mp hw).1) k, span_lt (fun w hw => by simpa using (List.mem_filter.mp hw).2) k⟩
  · rintro ⟨k, lt⟩
    have e := span_comb h.1 k
    rw [comb_filter (p := fun w => decide (w < 2 ^ n)) fun b hb hp => ?_] at e
    · rw [← e]
      exact comb_span v _
    · have ge : 2 ^ n ≤ b := by
        have : ¬ b < 2 ^ n := fun z => by simp [z] at hp
        omega
      apply Nat.testBit_lt_two_pow
      refine Nat.lt_of_lt_of_le lt (Nat.pow_le_pow_right (by decide) ?_)
      rcases Nat.lt_or_ge b.log2 n with k2 | k2
      · have := (lt_pow_log (h.1.2 b hb)).mpr k2
        omega
      · exact k2
/-! ### dimensions -/
theorem pow2_inj {a b : Nat} (h : 2 ^ a = 2 ^ b) : a = b := (Nat.pow_right_inj (by decide)).mp h
theorem len_same {l m : List Nat} (hl : l.Nodup) (hm : m.Nodup) (h : ∀ x, x ∈ l ↔ x ∈ m) : l.length = m.length := ((List.perm_ext_iff_of_nodup hl hm).mpr h).length_eq
theorem sum_const {α : Type} (f : α → Nat) (k : Nat) : ∀ l : List α, (∀ a ∈ l, f a = k) → (l.map f).sum = l.length * k
  | [], _ => by simp
  | a :: l, h => by
    rw [List.map_cons, List.sum_cons, h a List.mem_cons_self, sum_const f k l fun b hb => h b (List.mem_cons_of_mem _ hb), List.length_cons, Nat.succ_mul, Nat.add_comm]
/-- a one-to-one image has the same dimension -/
theorem dim_inj {ws us : List Nat} {g : Nat → Nat} (h : ∀ v, span us v ↔ ∃ u, span ws u ∧ v = g u) (inj : ∀ a b, span ws a → span ws b → g a = g b → a = b) : (bas us).length = (bas ws).length := by
  obtain ⟨m1, n1, l1⟩ := sums_ok (bas_plain ws).1
  obtain ⟨m2, n2, l2⟩ := sums_ok (bas_plain us).1
  apply pow2_inj
  rw [← l1, ← l2, ← List.length_map (as := sumsOf (bas ws)) (f := g)]
  refine len_same n2 ?_ fun x => ?_
  · unfold List.Nodup
    rw [List.pairwise_map]
    refine n1.imp_of_mem fun {a b} ha hb ne e => ne (inj a b ?_ ?_ e)
    · exact (bas_span ws a).mp ((m1 a).mp ha)
    · exact (bas_span ws b).mp ((m1 b).mp hb)
  · rw [m2, bas_span, h, List.mem_map]
    constructor
    · rintro ⟨u, hu, rfl⟩
      exact ⟨u, (m1 u).mpr ((bas_span ws u).mpr hu), rfl⟩
    · rintro ⟨u, hu, rfl⟩
      exact ⟨u, (bas_span ws u).mp ((m1 u).mp hu), rfl⟩
theorem rank_null {ws us ks : List Nat} {f : Nat → Nat} (hf : LinF f) (im : ∀ v, span us v ↔ ∃ u, span ws u ∧ v = f u) (ker : ∀ v, span ks v ↔ span ws v ∧ f v = 0) :
    (bas ws).length = (bas us).length + (bas ks).length := by
  obtain ⟨m1, n1, l1⟩ := sums_ok (bas_plain ws).1
  obtain ⟨m2, n2, l2⟩ := sums_ok (bas_plain us).1
  obtain ⟨m3, n3, l3⟩ := sums_ok (bas_plain ks).1
  have M1 : ∀ v, v ∈ sumsOf (bas ws) ↔ span ws v := fun v => (m1 v).trans (bas_span ws v)
  have M2 : ∀ v, v ∈ sumsOf (bas us) ↔ span us v := fun v => (m2 v).trans (bas_span us v)
  have M3 : ∀ v, v ∈ sumsOf (bas ks) ↔ span ks v := fun v => (m3 v).trans (bas_span ks v)
  have : ∃ sec : Nat → Nat, ∀ v, span us v → span ws (sec v) ∧ f (sec v) = v := by
    refine ⟨fun v => open Classical in if h : span us v then Classical.choose ((im v).mp h) else 0, fun v h => ?_⟩
    have := Classical.choose_spec ((im v).mp h)
    simp only [dif_pos h]
    exact ⟨this.1, this.2.symm⟩
  obtain ⟨sec, hs⟩ := this
  apply pow2_inj
  rw [Nat.pow_add, ← l1, ← l2, ← l3]
  have len : ((sumsOf (bas us)).flatMap fun v => (sumsOf (bas ks)).map (sec v ^^^ ·)).length = (sumsOf (bas us)).length * (sumsOf (bas ks)).length := by
    rw [List.length_flatMap]
    exact sum_const _ _ _ fun a _ => List.length_map ..
  rw [← len]
  refine len_same n1 ?_ fun x => ?_
  · unfold List.Nodup
    rw [List.pairwise_flatMap]
    refine ⟨fun a _ => ?_, n2.imp_of_mem fun {a b} ha hb ne x hx y hy e => ?_⟩
    · rw [List.pairwise_map]
      refine n3.imp fun n e => n ?_
      have := congrArg (sec a ^^^ ·) e
      simpa [← Nat.xor_assoc] using this
    · obtain ⟨k1, h1, rfl⟩ := List.mem_map.mp hx
      obtain ⟨k2, h2, rfl⟩ := List.mem_map.mp hy
      have e2 := congrArg f e
      rw [hf, hf, ((ker k1).mp ((M3 k1).mp h1)).2, ((ker k2).mp ((M3 k2).mp h2)).2, Nat.xor_zero, Nat.xor_zero, (hs a ((M2 a).mp ha)).2, (hs b ((M2 b).mp hb)).2] at e2
      exact ne e2
  · rw [M1, List.mem_flatMap]
    constructor
    · intro hx
      have hv : span us (f x) := (im _).mpr ⟨x, hx, rfl⟩
      refine ⟨f x, (M2 _).mpr hv, List.mem_map.mpr ⟨sec (f x) ^^^ x, (M3 _).mpr ((ker _).mpr ⟨span_xor (hs _ hv).1 hx, ?_⟩), ?_⟩⟩
      · rw [hf, (hs _ hv).2, Nat.xor_self]
      · rw [← Nat.xor_assoc, Nat.xor_self, Nat.zero_xor]
    · rintro ⟨v, hv, hx⟩
      obtain ⟨k, hk, rfl⟩ := List.mem_map.mp hx
      exact span_xor (hs v ((M2 v).mp hv)).1 ((ker k).mp ((M3 k).mp hk)).1
/-! ### places -/
theorem linF_shl (n : Nat) : LinF fun w => w <<< n := fun a b => Nat.shiftLeft_xor_distrib
theorem linF_and (m : Nat) : LinF fun w => w &&& m := fun a b => Nat.and_xor_distrib_right
theorem linF_id : LinF fun w => w := fun a b => rfl
theorem linF_xor {f g : Nat → Nat} (hf : LinF f) (hg : LinF g) : LinF fun w => f w ^^^ g w := fun a b => by
  show f (a ^^^ b) ^^^ g (a ^^^ b) = _
  rw [hf, hg]
  apply Nat.eq_of_testBit_eq
  intro i
  simp only [Nat.testBit_xor]
  cases (f a).testBit i <;> cases (f b).testBit i <;> cases (g a).testBit i <;> cases (g b).testBit i <;> rfl
theorem linF_comp {f g : Nat → Nat} (hf : LinF f) (hg : LinF g) : LinF fun w => f (g w) := fun a b => by
  show f (g (a ^^^ b)) = _
  rw [hg, hf]
theorem bit_hi {w n i : Nat} (h : w < 2 ^ n) (k : n ≤ i) : w.testBit i = false := Nat.testBit_lt_two_pow (Nat.lt_of_lt_of_le h (Nat.pow_le_pow_right (by decide) k))
theorem or_xor {h w n : Nat} (k : w < 2 ^ n) : (h <<< n) ||| w = (h <<< n) ^^^ w := by
  apply Nat.eq_of_testBit_eq
  intro i
  rw [Nat.testBit_or, Nat.testBit_xor, Nat.testBit_shiftLeft]
  rcases Nat.lt_or_ge i n with l | l
  · rw [show decide (i ≥ n) = false from decide_eq_false (by omega), Bool.false_and, Bool.false_or, Bool.false_xor]
  · rw [bit_hi k l, Bool.or_false, Bool.xor_false]
theorem shl_small {h n : Nat} (k : h <<< n < 2 ^ n) : h = 0 := by
  rw [Nat.shiftLeft_eq] at k
  rcases Nat.eq_zero_or_pos h with e | e
  · exact e
  · have := Nat.mul_le_mul_right (2 ^ n) e
    omega
theorem xor_zero_iff {a b : Nat} (h : a ^^^ b = 0) : a = b := by
  have := congrArg (· ^^^ b) h
  simpa [xor_cancel] using this
/-- words below n, whose shifted image vanishes -/
theorem two_floors {f : Nat → Nat} (hf : LinF f) {A : List Nat} {n : Nat} (hA : ∀ a ∈ A, a < 2 ^ n) (v : Nat) :
    (span (A.map fun a => ((f a) <<< n) ||| a) v ∧ v < 2 ^ n) ↔ span A v ∧ f v = 0 := by
  have e : (A.map fun a => ((f a) <<< n) ||| a) = A.map fun a => ((f a) <<< n) ^^^ a := List.map_congr_left fun a ha => or_xor (hA a ha)
  rw [e, span_map (linF_xor (linF_comp (linF_shl n) hf) linF_id)]
  constructor
  · rintro ⟨⟨a, ha, rfl⟩, lt⟩
    have la := span_lt hA ha
    have : (f a) <<< n < 2 ^ n := by
      have := Nat.xor_lt_two_pow lt la
      rwa [xor_cancel] at this
    have z := shl_small this
    rw [z, Nat.zero_shiftLeft, Nat.zero_xor]
    exact ⟨ha, z⟩
  · rintro ⟨h, z⟩
    refine ⟨⟨v, h, ?_⟩, span_lt hA h⟩
    show v = ((f v) <<< n) ^^^ v
    rw [z, Nat.zero_shiftLeft, Nat.zero_xor]
/-- what is common -/
noncomputable def common (n : Nat) (A B : List Nat) : List Nat := (bas ((A.map fun w => (w <<< n) ||| w) ++ B.map fun w => w <<< n)).filter fun w => decide (w < 2 ^ n)
theorem common_plain (n : Nat) (A B : List Nat) : Plain (common n A B) := plain_sub List.filter_sublist (bas_plain _)
theorem common_span {n : Nat} {A B : List Nat} (hA : ∀ a ∈ A, a < 2 ^ n) (v : Nat) : span (common n A B) v ↔ span A v ∧ span B v := by
  unfold common
  rw [low_span (bas_plain _), bas_span]
  have e : (A.map fun a => (a <<< n) ||| a) = A.map fun a => (a <<< n) ^^^ a := List.map_congr_left fun a ha => or_xor (hA a ha)
  rw [e, span_append]
  have l1 := linF_xor (linF_shl n) linF_id
  constructor
  · rintro ⟨⟨x, y, hx, hy, rfl⟩, lt⟩
    obtain ⟨a, ha, rfl⟩ := (span_map l1).mp hx
    obtain ⟨b, hb, rfl⟩ := (span_map (linF_shl n)).mp hy
    have la := span_lt hA ha
    have q : ((a <<< n) ^^^ a) ^^^ (b <<< n) = ((a ^^^ b) <<< n) ^^^ a := by
      rw [Nat.shiftLeft_xor_distrib]
      apply Nat.eq_of_testBit_eq
      intro i
      simp only [Nat.testBit_xor]
      cases (a <<< n).testBit i <;> cases a.testBit i <;> cases (b <<< n).testBit i <;> rfl
    have lt2 : ((a ^^^ b) <<< n) ^^^ a < 2 ^ n := q ▸ lt
    have : (a ^^^ b) <<< n < 2 ^ n := by
      have := Nat.xor_lt_two_pow lt2 la
      rwa [xor_cancel] at this
    have z := shl_small this
    show span A (((a <<< n) ^^^ a) ^^^ (b <<< n)) ∧ span B (((a <<< n) ^^^ a) ^^^ (b <<< n))
    rw [q, z, Nat.zero_shiftLeft, Nat.zero_xor]
    refine ⟨ha, ?_⟩
    rw [xor_zero_iff z]
    exact hb
  · rintro ⟨h1, h2⟩
    refine ⟨⟨(v <<< n) ^^^ v, v <<< n, (span_map l1).mpr ⟨v, h1, rfl⟩, (span_map (linF_shl n)).mpr ⟨v, h2, rfl⟩, ?_⟩, span_lt hA h1⟩
    rw [Nat.xor_comm (v <<< n), xor_cancel]
theorem common_lt {n : Nat} {A B : List Nat} : ∀ c ∈ common n A B, c < 2 ^ n := fun c hc => by simpa using (List.mem_filter.mp hc).2
/-- sum and common room -/
theorem sum_common {n : Nat} {A B C : List Nat} (hA : ∀ a ∈ A, a < 2 ^ n) (hB : ∀ b ∈ B, b < 2 ^ n) (hC : ∀ v, span C v ↔ span A v ∧ span B v) : (bas (A ++ B)).length + (bas C).length = (bas A).length + (bas B).length := by
  -- the pairs (a, b) as (a << n) ^ b
  have hf : LinF fun w => w % 2 ^ n := fun a b => by
    apply Nat.eq_of_testBit_eq
    intro i
    simp only [Nat.testBit_xor, Nat.testBit_mod_two_pow]
    cases decide (i < n) <;> rfl
  have hg : LinF fun w => w >>> n := fun a b => Nat.shiftRight_xor_distrib
  have up : ∀ {a b : Nat}, b < 2 ^ n → ((a <<< n) ^^^ b) >>> n = a := fun {a b} hb => by
    apply Nat.eq_of_testBit_eq
    intro i
    rw [Nat.testBit_shiftRight, Nat.testBit_xor, Nat.testBit_shiftLeft, bit_hi hb (by omega), Bool.xor_false, show decide (n + i ≥ n) = true from decide_eq_true (by omega), Bool.true_and, Nat.add_sub_cancel_left]
  have dn : ∀ {a b : Nat}, b < 2 ^ n → ((a <<< n) ^^^ b) % 2 ^ n = b := fun {a b} hb => by
    apply Nat.eq_of_testBit_eq
    intro i
    rw [Nat.testBit_mod_two_pow, Nat.testBit_xor, Nat.testBit_shiftLeft]
    rcases Nat.lt_or_ge i n with l | l
    · rw [show decide (i < n) = true from decide_eq_true l, show decide (i ≥ n) = false from decide_eq_false (by omega), Bool.false_and, Bool.false_xor, Bool.true_and]
    · rw [bit_hi hb l, show decide (i < n) = false from decide_eq_false (by omega), Bool.false_and]
  have D : ∀ v, span ((A.map fun w => w <<< n) ++ B) v ↔ ∃ a b, span A a ∧ span B b ∧ v = (a <<< n) ^^^ b := fun v => by
    rw [span_append]
    constructor
    · rintro ⟨x, b, hx, hb, rfl⟩
      obtain ⟨a, ha, rfl⟩ := (span_map (linF_shl n)).mp hx
      exact ⟨a, b, ha, hb, rfl⟩
    · rintro ⟨a, b, ha, hb, rfl⟩
      exact ⟨a <<< n, b, (span_map (linF_shl n)).mpr ⟨a, ha, rfl⟩, hb, rfl⟩
  have r1 := rank_null (ws := (A.map fun w => w <<< n) ++ B) (us := A) (ks := B) hg
    (fun v => by
      constructor
      · exact fun h => ⟨v <<< n, (D _).mpr ⟨v, 0, h, span_zero B, (Nat.xor_zero _).symm⟩, by have := up (a := v) (Nat.two_pow_pos n); rw [Nat.xor_zero] at this; exact this.symm⟩
      · rintro ⟨u, hu, rfl⟩
        obtain ⟨a, b, ha, hb, rfl⟩ := (D u).mp hu
        rw [up (span_lt hB hb)]
        exact ha)
    (fun v => by
      constructor
      · intro h
        have lt := span_lt hB h
        refine ⟨(D v).mpr ⟨0, v, span_zero A, h, by rw [Nat.zero_shiftLeft, Nat.zero_xor]⟩, ?_⟩
        have := up (a := 0) lt
        rwa [Nat.zero_shiftLeft, Nat.zero_xor] at this
      · rintro ⟨h, z⟩
        obtain ⟨a, b, ha, hb, rfl⟩ := (D v).mp h
        have z2 : ((a <<< n) ^^^ b) >>> n = 0 := z
        rw [up (span_lt hB hb)] at z2
        subst z2
        rw [Nat.zero_shiftLeft, Nat.zero_xor]
        exact hb)
  have hs : LinF fun w => (w >>> n) ^^^ (w % 2 ^ n) := linF_xor hg hf
  have r2 := rank_null (ws := (A.map fun w => w <<< n) ++ B) (us := A ++ B) (ks := C.map fun w => (w <<< n) ^^^ w) hs
    (fun v => by
      rw [span_append]
      constructor
      · rintro ⟨a, b, ha, hb, rfl⟩
        refine ⟨(a <<< n) ^^^ b, (D _).mpr ⟨a, b, ha, hb, rfl⟩, ?_⟩
        show a ^^^ b = (((a <<< n) ^^^ b) >>> n) ^^^ (((a <<< n) ^^^ b) % 2 ^ n)
        rw [up (span_lt hB hb), dn (span_lt hB hb)]
      · rintro ⟨u, hu, rfl⟩
        obtain ⟨a, b, ha, hb, rfl⟩ := (D u).mp hu
        refine ⟨a, b, ha, hb, ?_⟩
        show (((a <<< n) ^^^ b) >>> n) ^^^ (((a <<< n) ^^^ b) % 2 ^ n) = a ^^^ b
        rw [up (span_lt hB hb), dn (span_lt hB hb)])
    (fun v => by
      rw [span_map (linF_xor (linF_shl n) linF_id)]
      constructor
      · rintro ⟨a, ha, rfl⟩
        obtain ⟨h1, h2⟩ := (hC a).mp ha
        refine ⟨(D _).mpr ⟨a, a, h1, h2, rfl⟩, ?_⟩
        show (((a <<< n) ^^^ a) >>> n) ^^^ (((a <<< n) ^^^ a) % 2 ^ n) = 0
        rw [up (span_lt hB h2), dn (span_lt hB h2), Nat.xor_self]
      · rintro ⟨h, z⟩
        obtain ⟨a, b, ha, hb, rfl⟩ := (D v).mp h
        have z2 : (((a <<< n) ^^^ b) >>> n) ^^^ (((a <<< n) ^^^ b) % 2 ^ n) = 0 := z
        rw [up (span_lt hB hb), dn (span_lt hB hb)] at z2
        have e := xor_zero_iff z2
        subst e
        exact ⟨a, (hC a).mpr ⟨ha, hb⟩, rfl⟩)
  have r3 := dim_inj (ws := C) (us := C.map fun w => (w <<< n) ^^^ w) (fun v => span_map (linF_xor (linF_shl n) linF_id)) fun a b ha hb e => by
    have la := span_lt hB ((hC a).mp ha).2
    have lb := span_lt hB ((hC b).mp hb).2
    have : ((a <<< n) ^^^ a) % 2 ^ n = ((b <<< n) ^^^ b) % 2 ^ n := congrArg (· % 2 ^ n) e
    rwa [dn la, dn lb] at this
  omega
end Vf

set_option Elab.async false
set_option linter.all false
set_option maxRecDepth 100000
set_option maxHeartbeats 4000000

namespace Vf
open PySem PySem.Spec PyProof.Rows L2
theorem get_vs {l : List Nat} {i : Nat} {x : V} (h : (vs l)[i]? = some x) : ∃ j, l[i]? = some j ∧ x = .int (j : Nat) := by
  unfold vs at h
  rw [List.getElem?_map] at h
  cases e : l[i]? with
  | none => rw [e] at h; cases h
  | some j => rw [e] at h; exact ⟨j, rfl, (Option.some.inj h).symm⟩
theorem len_vs (l : List Nat) : (vs l).length = l.length := by unfold vs; rw [List.length_map]
theorem yes_ {σ2 : L2.St} {H2 : Hp} {R : Bool → Hp → Prop} (h : R true H2) : tYes σ2 H2 R := h
theorem and_pow (r i : Nat) : decide (r &&& 2 ^ i ≠ 0) = r.testBit i := by
  cases h : r.testBit i
  · have e : r &&& 2 ^ i = 0 := by
      apply Nat.eq_of_testBit_eq
      intro j
      rw [Nat.testBit_and, Nat.testBit_two_pow, Nat.zero_testBit]
      by_cases k : i = j
      · subst k
        rw [h, Bool.false_and]
      · rw [decide_eq_false k, Bool.and_false]
    rw [e]
    rfl
  · have e : r &&& 2 ^ i ≠ 0 := fun z => by
      have t : (r &&& 2 ^ i).testBit i = true := by
        rw [Nat.testBit_and, Nat.testBit_two_pow, h, decide_eq_true rfl]
        rfl
      rw [z, Nat.zero_testBit] at t
      cases t
    exact decide_eq_true e
theorem vs_append (a b : List Nat) : vs (a ++ b) = vs a ++ vs b := by unfold vs; rw [List.map_append]
theorem vs_map (f : Nat → Nat) (a : List Nat) : vs (a.map f) = a.map fun x => V.int ((f x : Nat) : Int) := by unfold vs; rw [List.map_map]; rfl
/-- a sorted list of ints that stands for naturals -/
theorem back_vs {ns : List Int} {l : List Nat} (h : ns.Perm (l.map fun i : Nat => (i : Int))) : ∃ l2 : List Nat, ns = (l2.map fun i : Nat => (i : Int)) ∧ l2.Perm l := by
  have p := h.map V.int
  rw [← vs_int] at p
  obtain ⟨l2, e, p2⟩ := perm_vs p
  refine ⟨l2, ?_, p2⟩
  rw [vs_int] at e
  exact (List.map_inj_right (fun a b z => by injection z)).mp e
end Vf

namespace Vf
theorem take_span {ws : List Nat} {i c : Nat} (h : ws[i]? = some c) {B : List Nat} (hB : Piv B) (e : ∀ v, span B v ↔ span (ws.take i) v) (v : Nat) : span (restOf c B :: B) v ↔ span (ws.take (i + 1)) v := by
  rw [rest_room hB, List.take_add_one, h]
  show span (c :: B) v ↔ span (ws.take i ++ [c]) v
  rw [span_perm (List.perm_append_comm (l₁ := ws.take i) (l₂ := [c]))]
  show span (c :: B) v ↔ span (c :: ws.take i) v
  rw [span_cons, span_cons, e, e]
theorem gt_of_ge {D : List Nat} (h : Piv D) (g : D.Pairwise (· ≥ ·)) : D.Pairwise (· > ·) := by
  refine (List.Pairwise.and g (piv_nodup h)).imp fun k => ?_
  obtain ⟨a, b⟩ := k
  omega
end Vf

namespace Vf
open PySem PySem.Spec PyProof.Rows L2
theorem eqv_vs : ∀ (B D : List Nat), PyData.eqvAll ((vs B).map toD) ((vs D).map toD) = decide (B = D)
  | [], [] => rfl
  | [], y :: D => rfl
  | x :: B, [] => rfl
  | x :: B, y :: D => by
    have e := eqv_vs B D
    show (PyData.eqv (.int (x : Int)) (.int (y : Int)) && PyData.eqvAll ((vs B).map toD) ((vs D).map toD)) = _
    rw [e, PyData.eqv]
    by_cases h : x = y
    · subst h
      by_cases k : B = D
      · subst k
        simp
      · simp [k]
    · have h2 : ¬ (x : Int) = (y : Int) := by omega
      simp [h, h2]
theorem eqD_vs {K : PySem.W.Frag} {H : Hp} {Q : VK} {a b : Addr} {B D : List Nat} (ha : SqL K H a (vs B)) (hb : SqL K H b (vs D)) (q : Q (.bl (decide (B = D))) H) : rEqD K (.ref a) (.ref b) H Q := by
  refine ⟨_, _, .lst ha (dp_all (flat_vs B)), .lst hb (dp_all (flat_vs D)), shaped_flat (flat_vs B), shaped_flat (flat_vs D), ?_⟩
  rw [PyData.eqv, eqv_vs]
  exact q
theorem neD_vs {K : PySem.W.Frag} {H : Hp} {Q : VK} {a b : Addr} {B D : List Nat} (ha : SqL K H a (vs B)) (hb : SqL K H b (vs D)) (q : Q (.bl (!decide (B = D))) H) : rNeD K (.ref a) (.ref b) H Q := by
  refine ⟨_, _, .lst ha (dp_all (flat_vs B)), .lst hb (dp_all (flat_vs D)), shaped_flat (flat_vs B), shaped_flat (flat_vs D), ?_⟩
  rw [PyData.eqv, eqv_vs]
  exact q
theorem txt_len {xs : List V} (h : ∀ x ∈ xs, small x = true) : (txt xs).length ≤ 1925 * xs.length + 2 := by
  obtain ⟨h1, h2, h3⟩ := shown_all h
  unfold txt
  rw [PyData.shown]
  unfold listText
  rw [strLen_append]
  have h4 := text_len (PyData.shownAll (xs.map toD)) 0 "["
  have e1 : (("[" : String) : Str).length = 1 := rfl
  have e2 : (("]" : String) : Str).length = 1 := rfl
  omega
theorem fmt_small {K : PySem.W.Frag} {H : Hp} {Q : VK} {a : Addr} {xs : List V} (ha : SqL K H a xs) (h : ∀ x ∈ xs, small x = true) (hl : xs.length ≤ 1000) (q : Q (.str (txt xs)) H) : rFmtD K (.ref a) H Q := by
  obtain ⟨h1, h2, h3⟩ := shown_all h
  have h5 := txt_len h
  refine ⟨⟨a, _, rfl, .lst ha (dp_all fun x hx => flat_of_small (h x hx)), ?_, ?_, ?_, ?_, q⟩⟩
  · rw [PyData.showable]
    exact h1
  · rw [PyData.hasDict]
    exact h2
  · rw [PyData.depth, depth_all]
    decide
  · have e3 : sizeLine = 16777216 := sizeLine_eq
    have : (PyData.list (xs.map toD)).shown.length = (txt xs).length := rfl
    omega
theorem small_vs {B : List Nat} (h : ∀ c ∈ B, c < 2 ^ 24) : ∀ x ∈ vs B, small x = true := fun x hx => by
  obtain ⟨c, hc, rfl⟩ := List.mem_map.mp hx
  exact small_nat (h c hc)
/-! ### a room as an object -/
theorem nb_ : ¬ (("_places" : Str) = "_basis") := by decide +kernel
theorem bn_ : ¬ (("_basis" : Str) = "_places") := by decide +kernel
def rf (n : Nat) (b : Addr) : List (Str × V) := putF "_basis" (.ref b) (putF "_places" (.int (n : Int)) [])
theorem rf_places (n : Nat) (b : Addr) : (rf n b).lookup ("_places" : Str) = some (.int (n : Int)) := by
  unfold rf
  rw [lookup_putF, if_neg nb_, lookup_putF, if_pos rfl]
theorem rf_basis (n : Nat) (b : Addr) : (rf n b).lookup ("_basis" : Str) = some (.ref b) := by
  unfold rf
  rw [lookup_putF, if_pos rfl]
theorem rf_no (n : Nat) (b : Addr) {m : Str} (h1 : ¬ m = "_basis") (h2 : ¬ m = "_places") : (rf n b).lookup m = none := by
  unfold rf
  rw [lookup_putF, if_neg h1, lookup_putF, if_neg h2]
  all_goals rfl
/-- the room of n places with the plain basis B stands at a -/
def RoomAt (C : Addr) (H : Hp) (a : Addr) (n : Nat) (B : List Nat) : Prop :=
  ∃ dx b, H a = some (.ins C dx (rf n b)) ∧ H b = some (.lst (vs B)) ∧ Plain B ∧ 1 ≤ n ∧ n ≤ 24 ∧ ∀ c ∈ B, c < 2 ^ n
/-- a room that was made anew: its list stood nowhere -/
def RoomNew (C : Addr) (H0 H : Hp) (a : Addr) (n : Nat) (B : List Nat) : Prop :=
  ∃ dx b, H a = some (.ins C dx (rf n b)) ∧ H b = some (.lst (vs B)) ∧ Plain B ∧ 1 ≤ n ∧ n ≤ 24 ∧ (∀ c ∈ B, c < 2 ^ n) ∧ H0 b = none
/-- a room whose list is not the one at p -/
def RoomP (C : Addr) (H : Hp) (a : Addr) (n : Nat) (B : List Nat) (p : Addr) : Prop :=
  ∃ dx b, H a = some (.ins C dx (rf n b)) ∧ H b = some (.lst (vs B)) ∧ Plain B ∧ 1 ≤ n ∧ n ≤ 24 ∧ (∀ c ∈ B, c < 2 ^ n) ∧ b ≠ p
theorem RoomP.at {C : Addr} {H : Hp} {a : Addr} {n : Nat} {B : List Nat} {p : Addr} (h : RoomP C H a n B p) : RoomAt C H a n B := by
  obtain ⟨dx, b, e1, e2, a1, a2, a3, a4, _⟩ := h
  exact ⟨dx, b, e1, e2, a1, a2, a3, a4⟩
theorem RoomNew.far {C : Addr} {H0 H : Hp} {a : Addr} {n : Nat} {B : List Nat} {p : Addr} (h : RoomNew C H0 H a n B) (hp : ∃ o, H0 p = some o) : RoomP C H a n B p := by
  obtain ⟨dx, b, e1, e2, a1, a2, a3, a4, n0⟩ := h
  obtain ⟨o, ho⟩ := hp
  exact ⟨dx, b, e1, e2, a1, a2, a3, a4, (ne_of_none ho n0).symm⟩
theorem RoomP.same {C : Addr} {H H' : Hp} {a : Addr} {n : Nat} {B : List Nat} {p : Addr} (s : Same H H') (h : RoomP C H a n B p) : RoomP C H' a n B p := by
  obtain ⟨dx, b, e1, e2, r⟩ := h
  exact ⟨dx, b, s _ _ e1, s _ _ e2, r⟩
theorem RoomP.but {C : Addr} {H H' : Hp} {a : Addr} {n : Nat} {B : List Nat} {p : Addr} (s : But p H H') (hp : Pot H p) (h : RoomP C H a n B p) : RoomP C H' a n B p := by
  obtain ⟨dx, b, e1, e2, a1, a2, a3, a4, nb⟩ := h
  have na : a ≠ p := by
    rintro rfl
    obtain ⟨x, y, e, _⟩ := hp
    rw [e1] at e
    cases e
  exact ⟨dx, b, s _ _ na e1, s _ _ nb e2, a1, a2, a3, a4, nb⟩
theorem RoomAt.same {C : Addr} {H H' : Hp} {a : Addr} {n : Nat} {B : List Nat} (s : Same H H') (h : RoomAt C H a n B) : RoomAt C H' a n B := by
  obtain ⟨dx, b, e1, e2, r⟩ := h
  exact ⟨dx, b, s _ _ e1, s _ _ e2, r⟩
theorem RoomAt.but {C : Addr} {H H' : Hp} {a p : Addr} {n : Nat} {B : List Nat} (s : But p H H') (hp : Pot H p) (h : RoomAt C H a n B) (hne : ∀ b, H b = some (.lst (vs B)) → b ≠ p) : RoomAt C H' a n B := by
  obtain ⟨dx, b, e1, e2, r⟩ := h
  have na : a ≠ p := by
    rintro rfl
    obtain ⟨x, y, e, _⟩ := hp
    rw [e1] at e
    cases e
  exact ⟨dx, b, s _ _ na e1, s _ _ (hne b e2) e2, r⟩
theorem lt24 {n c : Nat} (h : n ≤ 24) (k : c < 2 ^ n) : c < 2 ^ 24 := Nat.lt_of_lt_of_le k (Nat.pow_le_pow_right (by decide) h)
/-- what is known of the class -/
structure RKn (K : PySem.W.Frag) (C : Addr) : Prop where
  cl : Cls K C
  nP : NoAttr K C "_places"
  nB : NoAttr K C "_basis"
  ca : PySem.W.findIn K (.ref C) "__class__" = some (some (.builtin "object.__class__"))
  cn : PySem.W.specialIn K (.builtin "object.__class__") "__get__" = some (some (.builtin "getset_descriptor.__get__"))
  ct : PySem.W.takesIn K (.builtin "object.__class__") = some true
  cm : PySem.W.mroIn K C (.type "object") = some true
end Vf

namespace Vf
open PySem PySem.Spec PyProof.Rows L2
theorem inV_vs (v : Nat) (l : List Nat) : inV (.int (v : Int)) (vs l) = decide (v ∈ l) := by
  unfold inV vs
  rw [List.any_map]
  rw [Bool.eq_iff_iff, List.any_eq_true, decide_eq_true_iff]
  constructor
  · rintro ⟨x, hx, e⟩
    have e2 : (x : Int) = (v : Int) := beq_iff_eq.mp e
    have : x = v := by omega
    exact this ▸ hx
  · intro h
    exact ⟨v, h, beq_self_eq_true _⟩
theorem flatV_vs (l : List Nat) : (vs l).all flatV = true := by
  rw [List.all_eq_true]
  intro x hx
  obtain ⟨i, _, rfl⟩ := List.mem_map.mp hx
  rfl
/-- a word more among all sums -/
theorem span_step {s ws : List Nat} {c : Nat} (h : ∀ v, v ∈ s ↔ span ws v) (v : Nat) : v ∈ s ++ s.map (c ^^^ ·) ↔ span (ws ++ [c]) v := by
  rw [List.mem_append, h, List.mem_map, span_perm (List.perm_append_comm (l₁ := ws) (l₂ := [c]))]
  show _ ↔ span (c :: ws) v
  rw [span_cons]
  refine or_congr Iff.rfl ⟨?_, fun k => ⟨v ^^^ c, (h _).mpr k, by rw [Nat.xor_comm, xor_cancel]⟩⟩
  rintro ⟨u, hu, rfl⟩
  rw [Nat.xor_comm, ← Nat.xor_assoc, Nat.xor_self, Nat.zero_xor]
  exact (h u).mp hu
theorem span_same {ws : List Nat} {c : Nat} (h : span ws c) (v : Nat) : span (ws ++ [c]) v ↔ span ws v := span_append_of fun x hx => by
  rw [List.mem_singleton.mp hx]
  exact h
theorem nodup_step {s ws : List Nat} {c : Nat} (h : ∀ v, v ∈ s ↔ span ws v) (nd : s.Nodup) (nc : ¬ span ws c) : (s ++ s.map (c ^^^ ·)).Nodup := by
  rw [List.nodup_append]
  refine ⟨nd, ?_, fun x hx y hy e => ?_⟩
  · unfold List.Nodup
    rw [List.pairwise_map]
    exact nd.imp fun n e => n (by
      have := congrArg (c ^^^ ·) e
      simpa [← Nat.xor_assoc] using this)
  · subst e
    obtain ⟨u, hu, e⟩ := List.mem_map.mp hy
    apply nc
    have := span_xor ((h x).mp hx) ((h u).mp hu)
    rw [← e, xor_cancel] at this
    exact this
theorem lt_of_le_nd {l : List Nat} (h : l.Pairwise (· ≤ ·)) (nd : l.Nodup) : l.Pairwise (· < ·) := by
  refine (List.Pairwise.and h nd).imp fun k => ?_
  obtain ⟨a, b⟩ := k
  omega
theorem up_eq {l m : List Nat} (hl : l.Pairwise (· < ·)) (hm : m.Pairwise (· < ·)) (h : ∀ x, x ∈ l ↔ x ∈ m) : l = m := by
  have r : l.reverse = m.reverse := asc_eq (List.pairwise_reverse.mpr hl) (List.pairwise_reverse.mpr hm) fun x => by
    rw [List.mem_reverse, List.mem_reverse, h]
  have := congrArg List.reverse r
  simpa using this
/-- the law's way to the basis: whether a word is the first of its top -/
theorem first_iff {B pre : List Nat} {v high : Nat} (h : Plain B) (hv : span B v) (v0 : v ≠ 0) (all : ∀ u, span B u → u < v → u = 0 ∨ u ∈ pre) (low : ∀ u ∈ pre, u < high ∧ u < v) (hh : high = 0 ∨ ∃ f ∈ pre, high = 2 ^ (f.log2 + 1) ∧ f ≠ 0) (sub : ∀ u ∈ pre, span B u) :
    high ≤ v ↔ v ∈ B := by
  rw [basis_iff h]
  constructor
  · intro le
    refine ⟨hv, v0, fun u hu lt => ?_⟩
    rcases all u hu lt with rfl | hp
    · exact Nat.two_pow_pos _
    · have l1 := (low u hp).1
      rcases hh with rfl | ⟨f, hf, rfl, f0⟩
      · omega
      · have : f.log2 + 1 ≤ v.log2 := by
          rcases Nat.lt_or_ge v.log2 (f.log2 + 1) with k | k
          · have := (lt_pow_log (n := f.log2 + 1) v0).mpr k
            omega
          · exact k
        exact Nat.lt_of_lt_of_le l1 (Nat.pow_le_pow_right (by decide) this)
  · rintro ⟨_, _, least⟩
    rcases hh with rfl | ⟨f, hf, rfl, f0⟩
    · exact Nat.zero_le _
    · refine Nat.le_of_not_lt fun k => ?_
      have l2 : v.log2 < f.log2 + 1 := (lt_pow_log v0).mp k
      have := least f (sub f hf) (low f hf).2
      have h3 := Nat.log2_self_le f0
      have : 2 ^ v.log2 ≤ 2 ^ f.log2 := Nat.pow_le_pow_right (by decide) (by omega)
      omega
theorem cut1 (xs : List V) : cutV xs (some 1) none = xs.drop 1 := by
  unfold cutV
  rw [show HT.sIx xs.length 0 (some 1) = min 1 xs.length from HT.sIx_nat xs.length 0 1, HT.sIx_none]
  cases xs with
  | nil => rfl
  | cons x r =>
    have m1 : min 1 (x :: r).length = 1 := by
      rw [List.length_cons]
      omega
    rw [m1]
    show List.take ((x :: r).length - 1) r = r
    rw [List.length_cons, Nat.add_sub_cancel]
    exact List.take_length
theorem cutTo (xs : List V) (n : Nat) : cutV xs none (some (n : Int)) = xs.take n := by
  unfold cutV
  rw [HT.sIx_none, show HT.sIx xs.length xs.length (some (n : Int)) = min n xs.length from HT.sIx_nat xs.length xs.length n, List.drop_zero, Nat.sub_zero]
  rcases Nat.le_total n xs.length with h | h
  · rw [Nat.min_eq_left h]
  · rw [Nat.min_eq_right h, List.take_length, List.take_of_length_le h]
theorem vs_drop (l : List Nat) (n : Nat) : (vs l).drop n = vs (l.drop n) := by unfold vs; rw [List.map_drop]
theorem vs_take (l : List Nat) (n : Nat) : (vs l).take n = vs (l.take n) := by unfold vs; rw [List.map_take]
theorem vs_rev (l : List Nat) : (vs l).reverse = vs l.reverse := by unfold vs; rw [List.map_reverse]
end Vf

namespace Vf
open PySem PySem.Spec PyProof.Rows L2
/-! ### str of data -/
structure rStrD (K : PySem.W.Frag) (xs : List V) (H : Hp) (Q : VK) : Prop where
  ex : ∃ a d, xs = [.ref a] ∧ Dp K H (.ref a) d ∧ d.showable = true ∧ d.hasDict = false ∧ d.depth ≤ 60 ∧ d.shown.length ≤ sizeLine ∧ Q (.str d.shown) H
theorem call_strD {X : Cx} (hg : X.A.guards = some []) (hu : X.A.units + 64 < cLine) : CallR X (.type "str") (rStrD X.K) := by
  intro pins s σ H xs us Q I r h
  obtain ⟨a, d, rfl, hD, hs, hn, hd, hz, q⟩ := h.ex
  obtain ⟨u1, rfl, r1⟩ := vals1 r
  cases (show u1 = Value.ref a from r1)
  obtain ⟨as, rd⟩ := Dp.reads I d _ _ hD rfl
  refine str_of_reads rd hs (fun z => ?_) hg (by omega) (fun _ _ e => e) (fun h' u tk hk => ?_) hz
  · rw [hn] at z
    cases z
  · exact ⟨.str d.shown, H, I.kept (fun b o e => hk b o e), ⟨u, rfl⟩, q⟩
theorem str_small {K : PySem.W.Frag} {H : Hp} {Q : VK} {a : Addr} {xs : List V} (ha : SqL K H a xs) (h : ∀ x ∈ xs, small x = true) (hl : xs.length ≤ 1000) (q : Q (.str (txt xs)) H) : rStrD K [.ref a] H Q := by
  obtain ⟨⟨a', d, e, r⟩⟩ := repr_small (Q := Q) ha h hl q
  exact ⟨⟨a', d, e, r⟩⟩
/-- [n, [..]] -/
def pairD (n : Nat) (B : List Nat) : PyData := .list [.int (n : Int), .list ((vs B).map toD)]
theorem repr_pair {K : PySem.W.Frag} {H : Hp} {Q : VK} {a b : Addr} {n : Nat} {B : List Nat} (ha : SqL K H a [.int (n : Int), .ref b]) (hb : SqL K H b (vs B)) (hn : n < 2 ^ 24) (hB : ∀ c ∈ B, c < 2 ^ 24) (hl : B.length ≤ 900) (q : Q (.str (pairD n B).shown) H) : rRepr K [.ref a] H Q := by
  have sm := small_vs hB
  obtain ⟨h1, h2, h3⟩ := shown_all sm
  have l1 := txt_len sm
  rw [len_vs] at l1
  have sn := small_nat hn
  refine ⟨⟨a, pairD n B, rfl, .lst ha (.cons (.int _) (.cons (.lst hb (dp_all (flat_vs B))) .nil)), ?_, ?_, ?_, ?_, q⟩⟩
  · unfold pairD
    have g1 : (PyData.int (n : Int)).showable = true := (small_show sn).1
    have g2 : (PyData.list ((vs B).map toD)).showable = true := by
      rw [PyData.showable]
      exact h1
    rw [PyData.showable, PyData.showableAll, PyData.showableAll, PyData.showableAll, g1, g2]
    rfl
  · unfold pairD
    have g2 : (PyData.list ((vs B).map toD)).hasDict = false := by
      rw [PyData.hasDict]
      exact h2
    rw [PyData.hasDict, PyData.hasDictAll, PyData.hasDictAll, PyData.hasDictAll, g2]
    rfl
  · unfold pairD
    rw [PyData.depth, PyData.depthAll, PyData.depthAll, PyData.depthAll, PyData.depth, PyData.depth, depth_all]
    decide
  · unfold pairD
    rw [PyData.shown]
    unfold listText
    rw [strLen_append, PyData.shownAll, PyData.shownAll, PyData.shownAll]
    have h4 := text_len [(PyData.int (n : Int)).shown, (PyData.list ((vs B).map toD)).shown] 0 "["
    have e1 : (("[" : String) : Str).length = 1 := rfl
    have e2 : (("]" : String) : Str).length = 1 := rfl
    have e3 : sizeLine = 16777216 := sizeLine_eq
    have e4 : (PyData.int (n : Int)).shown.length ≤ 1921 := small_len sn
    have e5 : (PyData.list ((vs B).map toD)).shown.length = (txt (vs B)).length := rfl
    simp only [List.map_cons, List.map_nil, List.sum_cons, List.sum_nil] at h4
    omega
/-! ### the rooms made, compared -/
theorem words_eq {B L M : List Nat} (pl : Piv B) (pm : M.Perm (sumsOf B)) (od : M.Pairwise (· ≤ ·)) (asc : L.Pairwise (· < ·)) (mem : ∀ v, v ∈ L ↔ span B v) : M = L :=
  up_eq (lt_of_le_nd od (pm.nodup_iff.mpr (sums_ok pl).2.1)) asc fun v => by rw [pm.mem_iff, (sums_ok pl).1, mem]
theorem span_in {B L : List Nat} (h : ∀ v ∈ L, span B v) (v : Nat) : span (L ++ B) v ↔ span B v :=
  span_iff (fun w k => (List.mem_append.mp k).elim (h w) span_mem) (fun w k => span_mem (List.mem_append_right _ k)) v
theorem sq_same {H H' : Hp} {a : Addr} {xs : List V} (s : Same H H') (h : H a = some (.lst xs) ∨ H a = some (.tup xs)) : H' a = some (.lst xs) ∨ H' a = some (.tup xs) := h.imp (s _ _) (s _ _)
end Vf

namespace Vf
open PySem PySem.Spec PyProof.Rows L2
/-- a cut before what follows: what the rest asks, once -/
theorem seq_at {t u : TS} {D : Ends} {σ : L2.St} {H : Hp} (R : L2.St → Hp → Prop) (h2 : ∀ σ' H', R σ' H' → u D σ' H') (h1 : (∀ σ' H', R σ' H' → u D σ' H') → t { D with nx := u D } σ H) : tSeq t u D σ H := h1 h2
theorem cutLast (xs : List V) (x : V) : cutV (xs ++ [x]) none (some (-1)) = xs := by
  unfold cutV
  rw [HT.sIx_none]
  have e : HT.sIx (xs ++ [x]).length (xs ++ [x]).length (some (-1)) = xs.length := by
    show (if (-1 : Int) < 0 then ((-1 : Int) + ((xs ++ [x]).length : Int)).toNat else min (-1 : Int).toNat (xs ++ [x]).length) = xs.length
    rw [if_pos (by decide), List.length_append, List.length_singleton]
    omega
  rw [e, List.drop_zero, Nat.sub_zero, List.take_append_of_le_length (Nat.le_refl _), List.take_length]
end Vf

namespace Vf
open PySem PySem.Spec PyProof.Rows L2
theorem kit_own {K : PySem.W.Frag} {C : Addr} {T : String} (ic : PySem.W.isClsIn K C = true) (ty : PySem.W.typeIn K (.ref C) = some (.type "type")) (s : PySem.W.subIn K (.type T) (.ref C) = some false) : PySem.W.kitOne K (.type T) (.ref C) = some false := by
  unfold PySem.W.kitOne
  have e : (Value.type T == Value.ref C) = false := rfl
  rw [e, if_neg (by decide)]
  show (if ((PySem.W.clsIn K C).isSome && PySem.W.typeIn K (.ref C) == some (.type "type")) = true then PySem.W.subIn K (.type T) (.ref C) else none) = some false
  have ic' : (PySem.W.clsIn K C).isSome = true := ic
  rw [ic', ty, if_pos (by decide +kernel), s]
theorem all_true (n : Nat) : (List.replicate n true).all id = true := by
  rw [List.all_eq_true]
  intro x hx
  rw [(List.mem_replicate.mp hx).2]
  rfl
end Vf

set_option Elab.async false
set_option linter.all false
set_option maxRecDepth 100000
set_option maxHeartbeats 4000000
set_option pp.maxSteps 400
namespace Vf
open PySem PySem.Spec PyProof.Rows L2
/-! ### worlds: what a step keeps -/
/-- without what stands at p -/
def del (p : Addr) (H : Hp) : Hp := fun b => if b = p then none else H b
theorem del_ne {p b : Addr} {H : Hp} (h : b ≠ p) : del p H b = H b := if_neg h
theorem del_same {p : Addr} {H : Hp} : del p H p = none := if_pos rfl
theorem del_some {p b : Addr} {H : Hp} {o : HO} (h : del p H b = some o) : b ≠ p ∧ H b = some o := by
  by_cases e : b = p
  · subst e
    rw [del_same] at h
    cases h
  · exact ⟨e, (del_ne e).symm.trans h⟩
structure Wd where
  L : Hp → Hp → Prop
  inv : Hp → Prop
  F : Addr → Prop
  refl : ∀ H, L H H
  trans : ∀ {H H1 H2 : Hp}, L H H1 → L H1 H2 → L H H2
  same : ∀ {H H' : Hp}, Same H H' → L H H'
  step : ∀ {H H' : Hp}, L H H' → inv H → inv H'
  keep : ∀ {H H' : Hp} {a : Addr} {o : HO}, F a → L H H' → H a = some o → H' a = some o
  fresh : ∀ {H : Hp} {a : Addr}, inv H → H a = none → F a
  insF : ∀ {H : Hp} {a C dx : Addr} {fs : List (Str × V)}, inv H → H a = some (.ins C dx fs) → F a
  put : ∀ {H H' : Hp} {a : Addr} {o : HO}, inv H → L H H' → H a = none → L H (upd H' a o)
  delL : ∀ {H H' : Hp} {p : Addr}, F p → L H H' → L (del p H) (del p H')
  delI : ∀ {H : Hp} {p : Addr}, F p → inv H → inv (del p H)
/-- no thing changes -/
def plainW : Wd where
  L := Same
  inv _ := True
  F _ := True
  refl := Same.refl
  trans := Same.trans
  same h := h
  step _ h := h
  keep _ l h := l _ _ h
  fresh _ _ := trivial
  insF _ _ := trivial
  put {H H' a o} _ l n := fun b u e => by
    rw [upd_ne (ne_of_none e n)]
    exact l _ _ e
  delL {H H' p} _ l := fun b u e => by
    obtain ⟨n, e⟩ := del_some e
    rw [del_ne n]
    exact l _ _ e
  delI _ _ := trivial
theorem del_pot {H : Hp} {p q : Addr} (n : p ≠ q) (h : Pot H q) : Pot (del p H) q := by
  obtain ⟨x, y, e, k⟩ := h
  exact ⟨x, y, by rw [del_ne (Ne.symm n)]; exact e, k⟩
theorem pot_del {H : Hp} {p q : Addr} (n : p ≠ q) (h : Pot (del p H) q) : Pot H q := by
  obtain ⟨x, y, e, k⟩ := h
  exact ⟨x, y, by rw [← e, del_ne (Ne.symm n)], k⟩
/-- the pot at p alone changes, and stays a pot -/
def potW (p : Addr) : Wd where
  L H H' := But p H H' ∧ (Pot H p → Pot H' p)
  inv H := Pot H p
  F a := a ≠ p
  refl H := ⟨But.refl p H, id⟩
  trans a b := ⟨a.1.trans b.1, fun h => b.2 (a.2 h)⟩
  same s := ⟨But.of s, fun h => h.same s⟩
  step l h := l.2 h
  keep n l h := l.1 _ _ n h
  fresh h n := by
    rintro rfl
    obtain ⟨o, e⟩ := h.some
    rw [n] at e
    cases e
  insF h e := by
    rintro rfl
    obtain ⟨x, y, e2, _⟩ := h
    rw [e] at e2
    cases e2
  put {H H' a o} h l n := ⟨l.1.new n, fun k => (l.2 k).upd (by
    rintro rfl
    obtain ⟨o, e⟩ := h.some
    rw [n] at e
    cases e)⟩
  delL {H H' q} n l := ⟨fun b u m e => by
    obtain ⟨n2, e⟩ := del_some e
    rw [del_ne n2]
    exact l.1 _ _ m e, fun h => del_pot n (l.2 (pot_del n h))⟩
  delI n h := del_pot n h
structure IsPot (W : Wd) (p : Addr) : Prop where
  has : ∀ {H}, W.inv H → Pot H p
  ne : ∀ {a}, W.F a → a ≠ p
  put : ∀ {H H'}, But p H H' → Pot H' p → W.L H H'
theorem potW_is (p : Addr) : IsPot (potW p) p := ⟨fun h => h, fun h => h, fun b h => ⟨b, fun _ => h⟩⟩
/-- a meaning: what a value stands for, kept by all steps -/
structure Dn (W : Wd) where
  ok : V → Hp → Prop
  st : ∀ {v : V} {H H' : Hp}, W.L H H' → ok v H → ok v H'
variable {W : Wd}
def OkL : List (Dn W) → List V → Hp → Prop
  | [], [], _ => True
  | d :: ds, v :: vs, H => d.ok v H ∧ OkL ds vs H
  | [], _ :: _, _ => False
  | _ :: _, [], _ => False
/-- what is known of the slots: so many, and the meanings of some, the newest first -/
structure EnvT (W : Wd) where
  n : Nat
  l : List (Nat × Dn W)
def getE : List (Nat × Dn W) → Nat → Option (Dn W)
  | [], _ => none
  | (j, d) :: r, i => bif Nat.beq j i then some d else getE r i
def EnvT.get (Ds : EnvT W) (i : Nat) : Option (Dn W) := getE Ds.l i
def EnvT.set (Ds : EnvT W) (i : Nat) : Option (Dn W) → EnvT W
  | some d => ⟨Ds.n, (i, d) :: Ds.l⟩
  | none => ⟨Ds.n, Ds.l.filter fun p => !(Nat.beq p.1 i)⟩
def EnvL (Ds : EnvT W) (σ : L2.St) (H : Hp) : Prop := σ.length = Ds.n ∧ ∀ i d, Ds.get i = some d → i < σ.length → ∃ v, σ[i]? = some (some v) ∧ d.ok v H
theorem OkL.st {H H' : Hp} (l : W.L H H') : ∀ {ds : List (Dn W)} {vs : List V}, OkL ds vs H → OkL ds vs H'
  | [], [], _ => trivial
  | d :: ds, v :: vs, h => ⟨d.st l h.1, OkL.st l h.2⟩
  | [], _ :: _, h => h.elim
  | _ :: _, [], h => h.elim
theorem OkL.length {H : Hp} : ∀ {ds : List (Dn W)} {vs : List V}, OkL ds vs H → vs.length = ds.length
  | [], [], _ => rfl
  | d :: ds, v :: vs, h => congrArg (· + 1) (OkL.length h.2)
  | [], _ :: _, h => h.elim
  | _ :: _, [], h => h.elim
theorem OkL.at {H : Hp} : ∀ {ds : List (Dn W)} {vs : List V} {k : Nat} {x : V}, OkL ds vs H → vs[k]? = some x → ∃ d, d ∈ ds ∧ d.ok x H
  | [], [], _, _, _, e => by simp at e
  | d :: ds, v :: vs, 0, x, h, e => by
    have : v = x := by simpa using e
    subst this
    exact ⟨d, List.mem_cons_self, h.1⟩
  | d :: ds, v :: vs, k + 1, x, h, e => by
    obtain ⟨d', m, r⟩ := OkL.at (ds := ds) (vs := vs) (k := k) h.2 (by simpa using e)
    exact ⟨d', List.mem_cons_of_mem _ m, r⟩
  | [], _ :: _, _, _, h, _ => h.elim
  | _ :: _, [], _, _, h, _ => h.elim
theorem EnvL.st {H H' : Hp} (l : W.L H H') {Ds : EnvT W} {σ : L2.St} (h : EnvL Ds σ H) : EnvL Ds σ H' := ⟨h.1, fun i d e lt => by
  obtain ⟨v, e1, o⟩ := h.2 i d e lt
  exact ⟨v, e1, d.st l o⟩⟩
theorem EnvL.get {H : Hp} {d : Dn W} {Ds : EnvT W} {σ : L2.St} {i : Nat} (h : EnvL Ds σ H) (e : Ds.get i = some d) (hi : Nat.ble (i + 1) Ds.n = true) : ∃ v, σ[i]? = some (some v) ∧ d.ok v H := h.2 i d e (by rw [h.1]; exact Nat.le_of_ble_eq_true hi)
theorem EnvL.set {H : Hp} {d : Dn W} {v : V} (hv : d.ok v H) {Ds : EnvT W} {σ : L2.St} {i : Nat} (h : EnvL Ds σ H) : EnvL (Ds.set i (some d)) (σ.set i (some v)) H := by
  refine ⟨by rw [List.length_set]; exact h.1, fun j d' e lt => ?_⟩
  rw [List.length_set] at lt
  have e : (bif Nat.beq i j then some d else getE Ds.l j) = some d' := e
  by_cases k : i = j
  · subst k
    rw [Nat.beq_refl] at e
    have e : some d = some d' := e
    cases e
    exact ⟨v, by rw [List.getElem?_set_self lt], hv⟩
  · rw [show Nat.beq i j = false from Bool.eq_false_iff.mpr fun z => k (Nat.eq_of_beq_eq_true z)] at e
    obtain ⟨u, e1, o⟩ := h.2 j d' e lt
    exact ⟨u, by rw [List.getElem?_set_ne k]; exact e1, o⟩
theorem getE_filter {p : Nat × Dn W → Bool} : ∀ {l : List (Nat × Dn W)} {i : Nat} {d : Dn W}, getE (l.filter p) i = some d → (∀ x : Nat × Dn W, x.1 = i → p x = true) → getE l i = some d
  | [], _, _, e, _ => e
  | (j, c) :: l, i, d, e, h => by
    cases k : Nat.beq j i with
    | true =>
      have : p (j, c) = true := h _ (Nat.eq_of_beq_eq_true k)
      rw [List.filter_cons_of_pos this] at e
      have e : (bif Nat.beq j i then some c else getE (l.filter p) i) = some d := e
      rw [k] at e
      show (bif Nat.beq j i then some c else getE l i) = some d
      rw [k]
      exact e
    | false =>
      show (bif Nat.beq j i then some c else getE l i) = some d
      rw [k]
      cases q : p (j, c) with
      | true =>
        rw [List.filter_cons_of_pos q] at e
        have e : (bif Nat.beq j i then some c else getE (l.filter p) i) = some d := e
        rw [k] at e
        exact getE_filter (l := l) e h
      | false =>
        rw [List.filter_cons_of_neg (by simp [q])] at e
        exact getE_filter (l := l) e h
theorem getE_gone : ∀ {l : List (Nat × Dn W)} {i : Nat}, getE (l.filter fun p => !(Nat.beq p.1 i)) i = none
  | [], _ => rfl
  | (j, c) :: l, i => by
    cases k : Nat.beq j i with
    | true =>
      rw [List.filter_cons_of_neg (by simp [k])]
      exact getE_gone
    | false =>
      rw [List.filter_cons_of_pos (by simp [k])]
      show (bif Nat.beq j i then some c else _) = none
      rw [k]
      exact getE_gone (l := l)
theorem EnvL.dropS {H : Hp} {Ds : EnvT W} {σ : L2.St} {i : Nat} {s : Option V} (h : EnvL Ds σ H) : EnvL (Ds.set i none) (σ.set i s) H := by
  refine ⟨by rw [List.length_set]; exact h.1, fun j d e lt => ?_⟩
  rw [List.length_set] at lt
  have e : getE (Ds.l.filter fun p => !(Nat.beq p.1 i)) j = some d := e
  by_cases k : i = j
  · subst k
    rw [getE_gone] at e
    cases e
  · have e2 : getE Ds.l j = some d := getE_filter e fun x hx => by
      rw [hx, show Nat.beq j i = false from Bool.eq_false_iff.mpr fun z => k (Nat.eq_of_beq_eq_true z).symm]
      rfl
    obtain ⟨v, e1, o⟩ := h.2 j d e2 lt
    exact ⟨v, by rw [List.getElem?_set_ne k]; exact e1, o⟩
theorem EnvL.drop {H : Hp} {Ds : EnvT W} {σ : L2.St} {i : Nat} (h : EnvL Ds σ H) : EnvL (Ds.set i none) σ H := by
  refine ⟨h.1, fun j d e lt => ?_⟩
  have e : getE (Ds.l.filter fun p => !(Nat.beq p.1 i)) j = some d := e
  by_cases k : i = j
  · subst k
    rw [getE_gone] at e
    cases e
  · exact h.2 j d (getE_filter e fun x hx => by
      rw [hx, show Nat.beq j i = false from Bool.eq_false_iff.mpr fun z => k (Nat.eq_of_beq_eq_true z).symm]
      rfl) lt
def forget (Ds : EnvT W) : List Nat → EnvT W
  | [] => Ds
  | i :: is => (forget Ds is).set i none
theorem EnvL.forget {H : Hp} {Ds : EnvT W} {σ : L2.St} (h : EnvL Ds σ H) : ∀ is : List Nat, EnvL (Vf.forget Ds is) σ H
  | [] => h
  | i :: is => (EnvL.forget h is).drop
def envGo : Nat → List (Dn W) → List (Nat × Dn W)
  | _, [] => []
  | k, d :: ds => (k, d) :: envGo (k + 1) ds
def envOf (ds : List (Dn W)) (m : Nat) : EnvT W := ⟨ds.length + m, envGo 0 ds⟩
theorem envGo_get {H : Hp} : ∀ {ds : List (Dn W)} {vs : List V} {k i : Nat} {d : Dn W}, OkL ds vs H → getE (envGo k ds) i = some d → ∃ v, k ≤ i ∧ vs[i - k]? = some v ∧ d.ok v H
  | [], _, _, _, _, _, e => by cases e
  | d :: ds, v :: vs, k, i, d', ⟨o, r⟩, e => by
    have e : (bif Nat.beq k i then some d else getE (envGo (k + 1) ds) i) = some d' := e
    by_cases q : k = i
    · subst q
      rw [Nat.beq_refl] at e
      have e : some d = some d' := e
      cases e
      exact ⟨v, Nat.le_refl _, by rw [Nat.sub_self]; rfl, o⟩
    · rw [show Nat.beq k i = false from Bool.eq_false_iff.mpr fun z => q (Nat.eq_of_beq_eq_true z)] at e
      obtain ⟨u, h1, h2, h3⟩ := envGo_get (ds := ds) (vs := vs) r e
      refine ⟨u, by omega, ?_, h3⟩
      rw [show i - k = (i - (k + 1)) + 1 by omega]
      exact h2
  | _ :: _, [], _, _, _, o, _ => o.elim
theorem EnvL.start {H : Hp} {m : Nat} {ds : List (Dn W)} {vs : List V} (h : OkL ds vs H) : EnvL (envOf ds m) (vs.map some ++ List.replicate m none) H := by
  refine ⟨?_, fun i d e _ => ?_⟩
  · rw [List.length_append, List.length_map, List.length_replicate, h.length]
    rfl
  · obtain ⟨v, _, h2, h3⟩ := envGo_get h e
    rw [Nat.sub_zero] at h2
    refine ⟨v, ?_, h3⟩
    have lt : i < vs.length := (List.getElem?_eq_some_iff.mp h2).1
    rw [List.getElem?_append_left (by rw [List.length_map]; exact lt), List.getElem?_map, h2]
    rfl
/-! ### what readings mean -/
def EV (Ds : EnvT W) (te : TE) (d : Dn W) : Prop := ∀ (σ : L2.St) (H : Hp) (Q : VK), W.inv H → EnvL Ds σ H → (∀ v H', W.L H H' → d.ok v H' → Q v H') → te σ H Q
def AV (Ds : EnvT W) (ta : TA) (ds : List (Dn W)) : Prop := ∀ (σ : L2.St) (H : Hp) (Q : List V → Hp → Prop), W.inv H → EnvL Ds σ H → (∀ vs H', W.L H H' → OkL ds vs H' → Q vs H') → ta σ H Q
def AX {ι : Type} (Ds : EnvT W) (ta : TA) (P : ι → Prop) (ds : ι → List (Dn W)) : Prop := ∀ (σ : L2.St) (H : Hp) (Q : List V → Hp → Prop), W.inv H → EnvL Ds σ H → (∀ i vs H', P i → W.L H H' → OkL (ds i) vs H' → Q vs H') → ta σ H Q
def TV (Ds : EnvT W) (tt : TT) (b : Bool) : Prop := ∀ (σ : L2.St) (H : Hp) (R : Bool → Hp → Prop), W.inv H → EnvL Ds σ H → (∀ H', W.L H H' → R b H') → tt σ H R
/-- a test whose answer is any -/
def TX (Ds : EnvT W) (tt : TT) : Prop := ∀ (σ : L2.St) (H : Hp) (R : Bool → Hp → Prop), W.inv H → EnvL Ds σ H → (∀ b H', W.L H H' → R b H') → tt σ H R
def OpD (r : R2) (d1 d2 d : Dn W) : Prop := ∀ (x y : V) (H : Hp) (Q : VK), W.inv H → d1.ok x H → d2.ok y H → (∀ v H', W.L H H' → d.ok v H' → Q v H') → r x y H Q
def UnD (r : V → Hp → VK → Prop) (d1 d : Dn W) : Prop := ∀ (x : V) (H : Hp) (Q : VK), W.inv H → d1.ok x H → (∀ v H', W.L H H' → d.ok v H' → Q v H') → r x H Q
def SpD (sp : Sp) (dvs : List V) (ds : List (Dn W)) (d : Dn W) : Prop := ∀ (vs : List V) (H : Hp) (Q : VK), W.inv H → OkL ds vs H → (∀ v H', W.L H H' → d.ok v H' → Q v H') → sp (vs ++ dvs) H Q E0
def CrD (r : List V → Hp → VK → Prop) (ds : List (Dn W)) (d : Dn W) : Prop := ∀ (vs : List V) (H : Hp) (Q : VK), W.inv H → OkL ds vs H → (∀ v H', W.L H H' → d.ok v H' → Q v H') → r vs H Q
def SV (Ds : EnvT W) (ts : TS) (d : Dn W) : Prop := ∀ (D : Ends) (σ : L2.St) (H : Hp), W.inv H → EnvL Ds σ H → (∀ v H', W.L H H' → d.ok v H' → D.rt v H') → ts D σ H
def NV (Ds : EnvT W) (ts : TS) (Es : EnvT W) : Prop := ∀ (D : Ends) (σ : L2.St) (H : Hp), W.inv H → EnvL Ds σ H → (∀ σ' H', W.L H H' → EnvL Es σ' H' → D.nx σ' H') → ts D σ H
/-- a block that may fall through or return -/
def BV (Ds : EnvT W) (ts : TS) (Es : EnvT W) (d : Dn W) : Prop := ∀ (D : Ends) (σ : L2.St) (H : Hp), W.inv H → EnvL Ds σ H → (∀ σ' H', W.L H H' → EnvL Es σ' H' → D.nx σ' H') → (∀ v H', W.L H H' → d.ok v H' → D.rt v H') → ts D σ H
/-! ### meanings -/
def dV (v0 : V) : Dn W := ⟨fun v _ => v = v0, fun _ h => h⟩
def dLst (xs : List V) : Dn W := ⟨fun v H => ∃ a, v = .ref a ∧ W.F a ∧ H a = some (.lst xs), fun l ⟨a, e, g, h⟩ => ⟨a, e, g, W.keep g l h⟩⟩
def dTup (xs : List V) : Dn W := ⟨fun v H => ∃ a, v = .ref a ∧ W.F a ∧ H a = some (.tup xs), fun l ⟨a, e, g, h⟩ => ⟨a, e, g, W.keep g l h⟩⟩
def dLD (ds : List (Dn W)) : Dn W := ⟨fun v H => ∃ a xs, v = .ref a ∧ W.F a ∧ H a = some (.lst xs) ∧ OkL ds xs H, fun l ⟨a, xs, e, g, h, k⟩ => ⟨a, xs, e, g, W.keep g l h, k.st l⟩⟩
def dTD (ds : List (Dn W)) : Dn W := ⟨fun v H => ∃ a xs, v = .ref a ∧ W.F a ∧ H a = some (.tup xs) ∧ OkL ds xs H, fun l ⟨a, xs, e, g, h, k⟩ => ⟨a, xs, e, g, W.keep g l h, k.st l⟩⟩
def dEx {ι : Type} (P : ι → Prop) (f : ι → Dn W) : Dn W := ⟨fun v H => ∃ i, P i ∧ (f i).ok v H, fun l ⟨i, p, h⟩ => ⟨i, p, (f i).st l h⟩⟩
/-- a list of the script's numbers, or such, that is read alone -/
def dSq (K : PySem.W.Frag) (xs : List V) : Dn W := ⟨fun v H => ∃ a, v = .ref a ∧ (∀ H', W.L H H' → SqL K H' a xs), fun l ⟨a, e, h⟩ => ⟨a, e, fun H' l' => h H' (W.trans l l')⟩⟩
/-- a room of n places with the plain basis B -/
structure RoomF (n : Nat) (B : List Nat) : Prop where
  pl : Plain B
  n1 : 1 ≤ n
  n24 : n ≤ 24
  lt : ∀ c ∈ B, c < 2 ^ n
def dRoom (C : Addr) (n : Nat) (B : List Nat) : Dn W := ⟨fun v H => ∃ a dx b, v = .ref a ∧ W.F a ∧ W.F b ∧ H a = some (.ins C dx (rf n b)) ∧ H b = some (.lst (vs B)) ∧ RoomF n B,
  fun l ⟨a, dx, b, e, g1, g2, h1, h2, f⟩ => ⟨a, dx, b, e, g1, g2, W.keep g1 l h1, W.keep g2 l h2, f⟩⟩
abbrev dI (i : Int) : Dn W := dV (.int i)
abbrev dN (n : Nat) : Dn W := dV (.int (n : Int))
abbrev dB (b : Bool) : Dn W := dV (.bl b)
abbrev dS (x : Str) : Dn W := dV (.str x)
abbrev dVs (l : List Nat) : Dn W := dLst (vs l)
abbrev dBs (l : List Bool) : Dn W := dLst (l.map V.bl)
/-! ### rules -/
section
variable {Ds Es Fs : EnvT W} {d d1 d2 d3 : Dn W} {ds : List (Dn W)} {te ta tb : TE} {t tr tk : TA} {tt t1 t2 : TT} {b b1 b2 : Bool} {i j l : Nat} {r : R2} {ts tu : TS}
theorem ev_wk {d' : Dn W} (h : EV Ds te d) (k : ∀ v H, d.ok v H → d'.ok v H) : EV Ds te d' := fun σ H Q iv en q => h σ H Q iv en fun v H' l o => q v H' l (k v H' o)
theorem ev_eq {d' : Dn W} (h : EV Ds te d) (k : d = d') : EV Ds te d' := k ▸ h
theorem ev_var (h : Ds.get i = some d) (hi : Nat.ble (i + 1) Ds.n = true := by rfl) : EV Ds (tVar i) d := fun σ H Q iv en q => by
  obtain ⟨v, e, o⟩ := en.get h hi
  exact ⟨v, e, q v H (W.refl H) o⟩
theorem ev_c {v : V} : EV Ds (tC v) (dV v) := fun σ H Q iv en q => q v H (W.refl H) rfl
theorem ev_cn (n : Nat) : EV Ds (tC (.int (n : Int))) (dN n) := ev_c
theorem ev_ex (h : EV Ds te d) : EV Ds te (dEx (fun _ : Unit => True) fun _ => d) := ev_wk h fun v H o => ⟨(), trivial, o⟩
theorem ev_exw {ι κ : Type} {P : ι → Prop} {f : ι → Dn W} {P' : κ → Prop} {f' : κ → Dn W} (h : EV Ds te (dEx P f)) (g : ι → κ) (k : ∀ x, P x → P' (g x) ∧ f x = f' (g x)) : EV Ds te (dEx P' f') :=
  ev_wk h fun v H ⟨x, p, o⟩ => ⟨g x, (k x p).1, (k x p).2 ▸ o⟩
theorem ev_in {κ : Type} {P' : κ → Prop} {f' : κ → Dn W} (x : κ) (p : P' x) (h : EV Ds te (f' x)) : EV Ds te (dEx P' f') := ev_wk h fun v H o => ⟨x, p, o⟩
theorem ev_op (o : OpD r d1 d2 d) (ha : EV Ds ta d1) (hb : EV Ds tb d2) : EV Ds (tOp r ta tb) d := fun σ H Q iv en q =>
  ha σ H _ iv en fun x H1 l1 o1 => hb σ H1 _ (W.step l1 iv) (en.st l1) fun y H2 l2 o2 => o x y H2 Q (W.step l2 (W.step l1 iv)) (d1.st l2 o1) o2 fun v H3 l3 o3 => q v H3 (W.trans l1 (W.trans l2 l3)) o3
theorem ev_opX {ι κ : Type} {P : ι → Prop} {f : ι → Dn W} {P' : κ → Prop} {f' : κ → Dn W} {g : ι → κ → Dn W} (o : ∀ x y, P x → P' y → OpD r (f x) (f' y) (g x y)) (ha : EV Ds ta (dEx P f)) (hb : EV Ds tb (dEx P' f')) :
    EV Ds (tOp r ta tb) (dEx (fun z : ι × κ => P z.1 ∧ P' z.2) fun z => g z.1 z.2) :=
  ev_op (d1 := dEx P f) (d2 := dEx P' f') (fun x y H Q iv ⟨i, p, o1⟩ ⟨j, p', o2⟩ q => o i j p p' x y H Q iv o1 o2 fun v H' l o3 => q v H' l ⟨(i, j), ⟨p, p'⟩, o3⟩) ha hb
theorem ev_opL {ι : Type} {P : ι → Prop} {f : ι → Dn W} {g : ι → Dn W} (o : ∀ x, P x → OpD r (f x) d2 (g x)) (ha : EV Ds ta (dEx P f)) (hb : EV Ds tb d2) : EV Ds (tOp r ta tb) (dEx P g) :=
  ev_op (d1 := dEx P f) (fun x y H Q iv ⟨i, p, o1⟩ o2 q => o i p x y H Q iv o1 o2 fun v H' l o3 => q v H' l ⟨i, p, o3⟩) ha hb
theorem ev_opR {κ : Type} {P' : κ → Prop} {f' : κ → Dn W} {g : κ → Dn W} (o : ∀ y, P' y → OpD r d1 (f' y) (g y)) (ha : EV Ds ta d1) (hb : EV Ds tb (dEx P' f')) : EV Ds (tOp r ta tb) (dEx P' g) :=
  ev_op (d2 := dEx P' f') (fun x y H Q iv o1 ⟨j, p', o2⟩ q => o j p' x y H Q iv o1 o2 fun v H' l o3 => q v H' l ⟨j, p', o3⟩) ha hb
theorem ev_un {r : V → Hp → VK → Prop} (o : UnD r d1 d) (ha : EV Ds ta d1) : EV Ds (tUn r ta) d := fun σ H Q iv en q =>
  ha σ H _ iv en fun x H1 l1 o1 => o x H1 Q (W.step l1 iv) o1 fun v H2 l2 o2 => q v H2 (W.trans l1 l2) o2
/-- two meanings of a dEx behind one another -/
theorem ev_flat {ι κ : Type} {P : ι → Prop} {P' : ι → κ → Prop} {f : ι → κ → Dn W} (h : EV Ds te (dEx P fun x => dEx (P' x) (f x))) : EV Ds te (dEx (fun z : ι × κ => P z.1 ∧ P' z.1 z.2) fun z => f z.1 z.2) :=
  ev_wk h fun v H ⟨i, p, j, p', o⟩ => ⟨(i, j), ⟨p, p'⟩, o⟩
theorem av_nil : AV Ds tNil ([] : List (Dn W)) := fun σ H Q iv en q => q [] H (W.refl H) trivial
theorem av_cons (ha : EV Ds ta d) (hr : AV Ds tr ds) : AV Ds (tCons ta tr) (d :: ds) := fun σ H Q iv en q =>
  ha σ H _ iv en fun x H1 l1 o1 => hr σ H1 _ (W.step l1 iv) (en.st l1) fun xs H2 l2 o2 => q (x :: xs) H2 (W.trans l1 l2) ⟨d.st l2 o1, o2⟩
theorem ax_of (h : AV Ds t ds) : AX Ds t (fun _ : Unit => True) fun _ => ds := fun σ H Q iv en q => h σ H Q iv en fun vs H' l o => q () vs H' trivial l o
theorem ax_consX {ι κ : Type} {P : ι → Prop} {f : ι → Dn W} {P' : κ → Prop} {dr : κ → List (Dn W)} (ha : EV Ds ta (dEx P f)) (hr : AX Ds tr P' dr) : AX Ds (tCons ta tr) (fun z : ι × κ => P z.1 ∧ P' z.2) fun z => f z.1 :: dr z.2 := fun σ H Q iv en q =>
  ha σ H _ iv en fun x H1 l1 ⟨i, p, o1⟩ => hr σ H1 _ (W.step l1 iv) (en.st l1) fun j xs H2 p' l2 o2 => q (i, j) (x :: xs) H2 ⟨p, p'⟩ (W.trans l1 l2) ⟨(f i).st l2 o1, o2⟩
theorem ax_consL {ι : Type} {P : ι → Prop} {f : ι → Dn W} (ha : EV Ds ta (dEx P f)) (hr : AV Ds tr ds) : AX Ds (tCons ta tr) P fun z => f z :: ds := fun σ H Q iv en q =>
  ha σ H _ iv en fun x H1 l1 ⟨i, p, o1⟩ => hr σ H1 _ (W.step l1 iv) (en.st l1) fun xs H2 l2 o2 => q i (x :: xs) H2 p (W.trans l1 l2) ⟨(f i).st l2 o1, o2⟩
theorem ax_consR {κ : Type} {P' : κ → Prop} {dr : κ → List (Dn W)} (ha : EV Ds ta d) (hr : AX Ds tr P' dr) : AX Ds (tCons ta tr) P' fun z => d :: dr z := fun σ H Q iv en q =>
  ha σ H _ iv en fun x H1 l1 o1 => hr σ H1 _ (W.step l1 iv) (en.st l1) fun j xs H2 p' l2 o2 => q j (x :: xs) H2 p' (W.trans l1 l2) ⟨d.st l2 o1, o2⟩
theorem ev_call {sp : Sp} {dvs : List V} (h : SpD sp dvs ds d) (ha : AV Ds t ds) : EV Ds (tCall sp dvs E0 t) d := fun σ H Q iv en q =>
  ha σ H _ iv en fun xs H1 l1 o1 => h xs H1 Q (W.step l1 iv) o1 fun v H2 l2 o2 => q v H2 (W.trans l1 l2) o2
theorem ev_callX {ι : Type} {P : ι → Prop} {dr : ι → List (Dn W)} {f : ι → Dn W} {sp : Sp} {dvs : List V} (h : ∀ x, P x → SpD sp dvs (dr x) (f x)) (ha : AX Ds t P dr) : EV Ds (tCall sp dvs E0 t) (dEx P f) := fun σ H Q iv en q =>
  ha σ H _ iv en fun x xs H1 p l1 o1 => h x p xs H1 Q (W.step l1 iv) o1 fun v H2 l2 o2 => q v H2 (W.trans l1 l2) ⟨x, p, o2⟩
/-- of defs that ask for no repr under way -/
theorem ev_gn {sp : Sp} (h : SpD sp [] ds d) (ha : AV Ds t ds) : EV Ds (fun σ H Q => t σ H fun vs H1 => sp vs H1 Q E0) d := fun σ H Q iv en q =>
  ha σ H _ iv en fun xs H1 l1 o1 => by
    have := h xs H1 Q (W.step l1 iv) o1 fun v H2 l2 o2 => q v H2 (W.trans l1 l2) o2
    rwa [List.append_nil] at this
theorem ev_gnX {ι : Type} {P : ι → Prop} {dr : ι → List (Dn W)} {f : ι → Dn W} {sp : Sp} (h : ∀ x, P x → SpD sp [] (dr x) (f x)) (ha : AX Ds t P dr) : EV Ds (fun σ H Q => t σ H fun vs H1 => sp vs H1 Q E0) (dEx P f) := fun σ H Q iv en q =>
  ha σ H _ iv en fun x xs H1 p l1 o1 => by
    have := h x p xs H1 Q (W.step l1 iv) o1 fun v H2 l2 o2 => q v H2 (W.trans l1 l2) ⟨x, p, o2⟩
    rwa [List.append_nil] at this
theorem ev_cb {r : List V → Hp → VK → Prop} (h : CrD r ds d) (ha : AV Ds t ds) : EV Ds (tCB r t) d := fun σ H Q iv en q =>
  ha σ H _ iv en fun xs H1 l1 o1 => h xs H1 Q (W.step l1 iv) o1 fun v H2 l2 o2 => q v H2 (W.trans l1 l2) o2
theorem ev_cbX {ι : Type} {P : ι → Prop} {dr : ι → List (Dn W)} {f : ι → Dn W} {r : List V → Hp → VK → Prop} (h : ∀ x, P x → CrD r (dr x) (f x)) (ha : AX Ds t P dr) : EV Ds (tCB r t) (dEx P f) := fun σ H Q iv en q =>
  ha σ H _ iv en fun x xs H1 p l1 o1 => h x p xs H1 Q (W.step l1 iv) o1 fun v H2 l2 o2 => q v H2 (W.trans l1 l2) ⟨x, p, o2⟩
/-- a call by names alone: ds in the sequence as written, es in that of the parameters -/
theorem ev_callKw {n : Nat} {sp : Sp} {gV : List V → List V → List V} {es : List (Dn W)} (h : SpD sp [] es d) (hp : ∀ vs H, OkL ds vs H → OkL es (gV [] vs) H) (hn : ds.length = n) (ha : AV Ds tk ds) :
    EV Ds (fun σ H Q => tk σ H fun zs H1 => zs.length = n ∧ sp (gV [] zs) H1 Q E0) d := fun σ H Q iv en q =>
  ha σ H _ iv en fun xs H1 l1 o1 => ⟨o1.length.trans hn, by
    have := h (gV [] xs) H1 Q (W.step l1 iv) (hp xs H1 o1) fun v H2 l2 o2 => q v H2 (W.trans l1 l2) o2
    rwa [List.append_nil] at this⟩
theorem ev_and (ha : EV Ds ta (dB b1)) (hb : b1 = true → EV Ds tb (dB b2)) : EV Ds (tAndV ta tb) (dB (b1 && b2)) := fun σ H Q iv en q =>
  ha σ H _ iv en fun x H1 l1 o1 => ⟨b1, o1, by
    cases b1 with
    | true => exact (hb rfl) σ H1 Q (W.step l1 iv) (en.st l1) fun v H2 l2 o2 => q v H2 (W.trans l1 l2) (by rw [o2]; rfl)
    | false => exact q _ H1 l1 rfl⟩
theorem ev_andT (ha : EV Ds ta (dB true)) (hb : EV Ds tb d) : EV Ds (tAndV ta tb) d := fun σ H Q iv en q =>
  ha σ H _ iv en fun x H1 l1 o1 => ⟨true, o1, (if_pos rfl).mpr (hb σ H1 Q (W.step l1 iv) (en.st l1) fun v H2 l2 o2 => q v H2 (W.trans l1 l2) o2)⟩
theorem ev_or (ha : EV Ds ta (dB b1)) (hb : b1 = false → EV Ds tb (dB b2)) : EV Ds (tOrV ta tb) (dB (b1 || b2)) := fun σ H Q iv en q =>
  ha σ H _ iv en fun x H1 l1 o1 => ⟨b1, o1, by
    cases b1 with
    | false => exact (hb rfl) σ H1 Q (W.step l1 iv) (en.st l1) fun v H2 l2 o2 => q v H2 (W.trans l1 l2) (by rw [o2]; rfl)
    | true => exact q _ H1 l1 rfl⟩
theorem ev_not (ha : EV Ds ta (dB b)) : EV Ds (tNotV ta) (dB (!b)) := fun σ H Q iv en q => ha σ H _ iv en fun x H1 l1 o1 => ⟨b, o1, q _ H1 l1 rfl⟩
theorem ev_if (hc : TV Ds tt b) (ha : b = true → EV Ds ta d) (hb : b = false → EV Ds tb d) : EV Ds (tIf tt ta tb) d := fun σ H Q iv en q =>
  hc σ H _ iv en fun H1 l1 => by
    cases b with
    | true => exact (if_pos rfl).mpr ((ha rfl) σ H1 Q (W.step l1 iv) (en.st l1) fun v H2 l2 o2 => q v H2 (W.trans l1 l2) o2)
    | false => exact (if_neg Bool.false_ne_true).mpr ((hb rfl) σ H1 Q (W.step l1 iv) (en.st l1) fun v H2 l2 o2 => q v H2 (W.trans l1 l2) o2)
theorem ev_ifX (hc : TX Ds tt) (ha : EV Ds ta d) (hb : EV Ds tb d) : EV Ds (tIf tt ta tb) d := fun σ H Q iv en q =>
  hc σ H _ iv en fun b H1 l1 => by
    cases b with
    | true => exact (if_pos rfl).mpr (ha σ H1 Q (W.step l1 iv) (en.st l1) fun v H2 l2 o2 => q v H2 (W.trans l1 l2) o2)
    | false => exact (if_neg Bool.false_ne_true).mpr (hb σ H1 Q (W.step l1 iv) (en.st l1) fun v H2 l2 o2 => q v H2 (W.trans l1 l2) o2)
theorem tx_of (h : TV Ds tt b) : TX Ds tt := fun σ H R iv en q => h σ H R iv en fun H' l => q b H' l
theorem tx_B {ι : Type} {P : ι → Prop} {f : ι → Bool} (h : EV Ds te (dEx P fun x => dB (f x))) : TX Ds (tB te) := fun σ H R iv en q => h σ H _ iv en fun v H1 l1 ⟨x, _, o1⟩ => ⟨f x, o1, q _ H1 l1⟩
theorem tx_test {ι : Type} {P : ι → Prop} {f : ι → Bool} (h : EV Ds te (dEx P fun x => dB (f x))) : TX Ds (tTest te) := fun σ H R iv en q => h σ H _ iv en fun v H1 l1 ⟨x, _, o1⟩ => ⟨f x, o1, q _ H1 l1⟩
theorem tv_B (h : EV Ds te (dB b)) : TV Ds (tB te) b := fun σ H R iv en q => h σ H _ iv en fun v H1 l1 o1 => ⟨b, o1, q H1 l1⟩
theorem tv_test (h : EV Ds te (dB b)) : TV Ds (tTest te) b := fun σ H R iv en q => h σ H _ iv en fun v H1 l1 o1 => ⟨b, o1, q H1 l1⟩
theorem tv_int {n : Nat} (h : EV Ds te (dN n)) : TV Ds (tInt te) (decide (n ≠ 0)) := fun σ H R iv en q => h σ H _ iv en fun v H1 l1 o1 => ⟨n, o1, q H1 l1⟩
theorem tv_or (ha : TV Ds t1 b1) (hb : b1 = false → TV Ds t2 b2) : TV Ds (tOr t1 t2) (b1 || b2) := fun σ H R iv en q => ha σ H _ iv en fun H1 l1 => by
  cases b1 with
  | true => exact q H1 l1
  | false => exact hb rfl σ H1 R (W.step l1 iv) (en.st l1) fun H2 l2 => q H2 (W.trans l1 l2)
theorem tv_orF (ha : TV Ds t1 false) (hb : TV Ds t2 false) : TV Ds (tOr t1 t2) false := fun σ H R iv en q => ha σ H _ iv en fun H1 l1 => hb σ H1 R (W.step l1 iv) (en.st l1) fun H2 l2 => q H2 (W.trans l1 l2)
theorem tv_andT (ha : TV Ds t1 true) (hb : TV Ds t2 b) : TV Ds (tAnd t1 t2) b := fun σ H R iv en q => ha σ H _ iv en fun H1 l1 => hb σ H1 R (W.step l1 iv) (en.st l1) fun H2 l2 => q H2 (W.trans l1 l2)
theorem tv_and (ha : TV Ds t1 b1) (hb : b1 = true → TV Ds t2 b2) : TV Ds (tAnd t1 t2) (b1 && b2) := fun σ H R iv en q => ha σ H _ iv en fun H1 l1 => by
  cases b1 with
  | false => exact q H1 l1
  | true => exact hb rfl σ H1 R (W.step l1 iv) (en.st l1) fun H2 l2 => q H2 (W.trans l1 l2)
theorem tv_not (ha : TV Ds t1 b) : TV Ds (tNot t1) (!b) := fun σ H R iv en q => ha σ H _ iv en fun H1 l1 => q H1 l1
theorem tv_eq {b' : Bool} (e : b = b') (h : TV Ds tt b) : TV Ds tt b' := e ▸ h
theorem tv_yes : TV Ds tYes true := fun σ H R iv en q => q H (W.refl H)
/-! statements -/
theorem sv_ret (h : EV Ds te d) : SV Ds (tRet te) d := fun D σ H iv en q => h σ H D.rt iv en q
theorem sv_seq (h : NV Ds ts Es) (k : SV Es tu d) : SV Ds (tSeq ts tu) d := fun D σ H iv en q =>
  h { D with nx := tu D } σ H iv en fun σ' H' l' en' => k D σ' H' (W.step l' iv) en' fun v H2 l2 o2 => q v H2 (W.trans l' l2) o2
theorem sv_seqB (h : BV Ds ts Es d) (k : SV Es tu d) : SV Ds (tSeq ts tu) d := fun D σ H iv en q =>
  h { D with nx := tu D } σ H iv en (fun σ' H' l' en' => k D σ' H' (W.step l' iv) en' fun v H2 l2 o2 => q v H2 (W.trans l' l2) o2) q
theorem nv_seq (h : NV Ds ts Es) (k : NV Es tu Fs) : NV Ds (tSeq ts tu) Fs := fun D σ H iv en q =>
  h { D with nx := tu D } σ H iv en fun σ' H' l' en' => k D σ' H' (W.step l' iv) en' fun σ2 H2 l2 e2 => q σ2 H2 (W.trans l' l2) e2
theorem bv_seq (h : NV Ds ts Es) (k : BV Es tu Fs d) : BV Ds (tSeq ts tu) Fs d := fun D σ H iv en q r =>
  h { D with nx := tu D } σ H iv en fun σ' H' l' en' => k D σ' H' (W.step l' iv) en' (fun σ2 H2 l2 e2 => q σ2 H2 (W.trans l' l2) e2) fun v H2 l2 o2 => r v H2 (W.trans l' l2) o2
theorem bv_of (h : NV Ds ts Es) : BV Ds ts Es d := fun D σ H iv en q _ => h D σ H iv en q
theorem bv_sv (h : SV Ds ts d) : BV Ds ts Es d := fun D σ H iv en _ r => h D σ H iv en r
theorem nv_next : NV Ds tNext Ds := fun D σ H iv en q => q σ H (W.refl H) en
theorem nv_set (h : EV Ds te d) : NV Ds (tAsg te (gName i)) (Ds.set i (some d)) := fun D σ H iv en q => h σ H _ iv en fun v H1 l1 o1 => q _ H1 l1 ((en.st l1).set o1)
theorem nv_drop (h : EV Ds te d) : NV Ds (tDrop te) Ds := fun D σ H iv en q => h σ H _ iv en fun v H1 l1 o1 => q σ H1 l1 (en.st l1)
theorem sv_setx {ι : Type} {P : ι → Prop} {f : ι → Dn W} (h : EV Ds te (dEx P f)) (k : ∀ x, P x → SV (Ds.set i (some (f x))) tu d) : SV Ds (tSeq (tAsg te (gName i)) tu) d := fun D σ H iv en q =>
  h σ H _ iv en fun v H1 l1 ⟨x, px, o1⟩ => k x px D _ H1 (W.step l1 iv) ((en.st l1).set o1) fun v H2 l2 o2 => q v H2 (W.trans l1 l2) o2
theorem nv_setx {ι : Type} {P : ι → Prop} {f : ι → Dn W} (h : EV Ds te (dEx P f)) (k : ∀ x, P x → NV (Ds.set i (some (f x))) tu Es) : NV Ds (tSeq (tAsg te (gName i)) tu) Es := fun D σ H iv en q =>
  h σ H _ iv en fun v H1 l1 ⟨x, px, o1⟩ => k x px D _ H1 (W.step l1 iv) ((en.st l1).set o1) fun v H2 l2 o2 => q v H2 (W.trans l1 l2) o2
theorem nv_par (h : AV Ds t [d1, d2]) : NV Ds (tPar i j t) ((Ds.set i (some d1)).set j (some d2)) := fun D σ H iv en q => h σ H _ iv en fun vs H1 l1 o1 => by
  match vs, o1 with
  | [x, y], ⟨o1, o2, _⟩ => exact ⟨x, y, rfl, q _ H1 l1 (((en.st l1).set o1).set o2)⟩
theorem sv_parx {ι : Type} {P : ι → Prop} {f g : ι → Dn W} (h : AX Ds t P fun x => [f x, g x]) (k : ∀ x, P x → SV ((Ds.set i (some (f x))).set j (some (g x))) tu d) : SV Ds (tSeq (tPar i j t) tu) d := fun D σ H iv en q => h σ H _ iv en fun x vs H1 px l1 o1 => by
  match vs, o1 with
  | [u, v], ⟨o1, o2, _⟩ => exact ⟨u, v, rfl, k x px D _ H1 (W.step l1 iv) (((en.st l1).set o1).set o2) fun v H2 l2 o2 => q v H2 (W.trans l1 l2) o2⟩
theorem nv_par3 (h : AV Ds t [d1, d2, d3]) : NV Ds (tPar3 i j l t) (((Ds.set i (some d1)).set j (some d2)).set l (some d3)) := fun D σ H iv en q => h σ H _ iv en fun vs H1 l1 o1 => by
  match vs, o1 with
  | [x, y, z], ⟨o1, o2, o3, _⟩ => exact ⟨x, y, z, rfl, q _ H1 l1 ((((en.st l1).set o1).set o2).set o3)⟩
theorem sv_par3x {ι : Type} {P : ι → Prop} {f g h3 : ι → Dn W} (h : AX Ds t P fun x => [f x, g x, h3 x]) (k : ∀ x, P x → SV (((Ds.set i (some (f x))).set j (some (g x))).set l (some (h3 x))) tu d) : SV Ds (tSeq (tPar3 i j l t) tu) d := fun D σ H iv en q => h σ H _ iv en fun x vs H1 px l1 o1 => by
  match vs, o1 with
  | [u, v, w], ⟨o1, o2, o3, _⟩ => exact ⟨u, v, w, rfl, k x px D _ H1 (W.step l1 iv) ((((en.st l1).set o1).set o2).set o3) fun v H2 l2 o2 => q v H2 (W.trans l1 l2) o2⟩
/-- names of a tuple's parts, four and more -/
def setAll (Ds : EnvT W) : List Nat → List (Dn W) → EnvT W
  | i :: is, d :: ds => setAll (Ds.set i (some d)) is ds
  | _, _ => Ds
def gNames : List Nat → TGs
  | [] => gNil
  | i :: is => gCons (gName i) (gNames is)
theorem unp_go {H : Hp} {Q : L2.St → Hp → Prop} : ∀ {is : List Nat} {ds : List (Dn W)} {xs : List V} {Ds : EnvT W} {σ : L2.St}, is.length = ds.length → OkL ds xs H → EnvL Ds σ H → (∀ σ', EnvL (setAll Ds is ds) σ' H → Q σ' H) → gNames is xs σ H Q
  | [], [], [], _, σ, _, _, en, q => ⟨rfl, q σ en⟩
  | i :: is, d :: ds, x :: xs, Ds, σ, hl, ⟨o, os⟩, en, q => ⟨x, xs, rfl, unp_go (is := is) (ds := ds) (by simpa using hl) os (en.set o) q⟩
  | [], d :: ds, _, _, _, hl, _, _, _ => by simp at hl
  | i :: is, [], _, _, _, hl, _, _, _ => by simp at hl
  | [], [], _ :: _, _, _, _, o, _, _ => o.elim
  | _ :: _, _ :: _, [], _, _, _, o, _, _ => o.elim
theorem ev_tup (h : AV Ds t ds) (hn : ds.length ≤ 100000) : EV Ds (tTup t) (dTD ds) := fun σ H Q iv en q => h σ H _ iv en fun vs H1 l1 o1 => by
  refine ⟨?_, fun p np => q _ _ (W.trans l1 (W.put (W.step l1 iv) (W.refl _) np)) ⟨p, vs, rfl, W.fresh (W.step l1 iv) np, upd_same, o1.st (W.put (W.step l1 iv) (W.refl _) np)⟩⟩
  rw [o1.length]
  exact Nat.le_of_lt (sl_lt hn)
theorem ev_tupX {ι : Type} {P : ι → Prop} {dr : ι → List (Dn W)} (h : AX Ds t P dr) (hn : ∀ x, (dr x).length ≤ 100000) : EV Ds (tTup t) (dEx P fun x => dTD (dr x)) := fun σ H Q iv en q => h σ H _ iv en fun x vs H1 px l1 o1 => by
  refine ⟨?_, fun p np => q _ _ (W.trans l1 (W.put (W.step l1 iv) (W.refl _) np)) ⟨x, px, p, vs, rfl, W.fresh (W.step l1 iv) np, upd_same, o1.st (W.put (W.step l1 iv) (W.refl _) np)⟩⟩
  rw [o1.length]
  exact Nat.le_of_lt (sl_lt (hn x))
theorem nv_unp {K : PySem.W.Frag} {n : Nat} {is : List Nat} (h : EV Ds te (dTD ds)) (h1 : ds.length = n) (h2 : is.length = ds.length) : NV Ds (tAsg te (gTup K n (gNames is))) (setAll Ds is ds) := fun D σ H iv en q => h σ H _ iv en fun v H1 l1 ⟨a, xs, e, g, h3, o1⟩ => by
  subst e
  exact ⟨a, xs, rfl, .inl (.inl h3), o1.length.trans h1, unp_go h2 o1 (en.st l1) fun σ' e' => q σ' H1 l1 e'⟩
theorem sv_unpx {K : PySem.W.Frag} {n : Nat} {is : List Nat} {ι : Type} {P : ι → Prop} {dr : ι → List (Dn W)} (h : EV Ds te (dEx P fun x => dTD (dr x))) (h1 : ∀ x, (dr x).length = n) (h2 : is.length = n) (k : ∀ x, P x → SV (setAll Ds is (dr x)) tu d) : SV Ds (tSeq (tAsg te (gTup K n (gNames is))) tu) d :=
  fun D σ H iv en q => h σ H _ iv en fun v H1 l1 ⟨x, px, a, xs, e, g, h3, o1⟩ => by
  subst e
  exact ⟨a, xs, rfl, .inl (.inl h3), o1.length.trans (h1 x), unp_go (h2.trans (h1 x).symm) o1 (en.st l1) fun σ' e' => k x px D σ' H1 (W.step l1 iv) e' fun v H2 l2 o2 => q v H2 (W.trans l1 l2) o2⟩
theorem nv_ifF (h : TV Ds tt false) : NV Ds (tIfS tt ts tNext) Ds := fun D σ H iv en q => h σ H _ iv en fun H1 l1 => q σ H1 l1 (en.st l1)
theorem nv_if {b : Bool} (h : TV Ds tt b) (h1 : b = true → NV Ds ts Es) (h2 : b = false → NV Ds tu Es) : NV Ds (tIfS tt ts tu) Es := fun D σ H iv en q => h σ H _ iv en fun H1 l1 => by
  cases b with
  | true => exact h1 rfl D σ H1 (W.step l1 iv) (en.st l1) fun σ2 H2 l2 e2 => q σ2 H2 (W.trans l1 l2) e2
  | false => exact h2 rfl D σ H1 (W.step l1 iv) (en.st l1) fun σ2 H2 l2 e2 => q σ2 H2 (W.trans l1 l2) e2
theorem sv_if {b : Bool} (h : TV Ds tt b) (h1 : b = true → SV Ds ts d) (h2 : b = false → SV Ds tu d) : SV Ds (tIfS tt ts tu) d := fun D σ H iv en q => h σ H _ iv en fun H1 l1 => by
  cases b with
  | true => exact h1 rfl D σ H1 (W.step l1 iv) (en.st l1) fun v H2 l2 o2 => q v H2 (W.trans l1 l2) o2
  | false => exact h2 rfl D σ H1 (W.step l1 iv) (en.st l1) fun v H2 l2 o2 => q v H2 (W.trans l1 l2) o2
/-- if t: return .., and on -/
theorem sv_ifR {b : Bool} (h : TV Ds tt b) (h1 : b = true → SV Ds ts d) (h2 : b = false → SV Ds tu d) : SV Ds (tSeq (tIfS tt ts tNext) tu) d := fun D σ H iv en q => h σ H _ iv en fun H1 l1 => by
  cases b with
  | true => exact h1 rfl { D with nx := tu D } σ H1 (W.step l1 iv) (en.st l1) fun v H2 l2 o2 => q v H2 (W.trans l1 l2) o2
  | false => exact h2 rfl D σ H1 (W.step l1 iv) (en.st l1) fun v H2 l2 o2 => q v H2 (W.trans l1 l2) o2
theorem bv_ifR {b : Bool} (h : TV Ds tt b) (h1 : b = true → SV Ds ts d) : BV Ds (tIfS tt ts tNext) Ds d := fun D σ H iv en q r => h σ H _ iv en fun H1 l1 => by
  cases b with
  | true => exact h1 rfl D σ H1 (W.step l1 iv) (en.st l1) fun v H2 l2 o2 => r v H2 (W.trans l1 l2) o2
  | false => exact q σ H1 l1 (en.st l1)
theorem nv_wk (is : List Nat) (h : NV Ds ts Es) (e : forget Es is = Fs) : NV Ds ts Fs := fun D σ H iv en q => h D σ H iv en fun σ' H' l' e' => q σ' H' l' (e ▸ e'.forget is)
theorem nv_pre (is : List Nat) (h : NV (forget Ds is) ts Es) : NV Ds ts Es := fun D σ H iv en q => h D σ H iv (en.forget is) q
theorem sv_pre (is : List Nat) (h : SV (forget Ds is) ts d) : SV Ds ts d := fun D σ H iv en q => h D σ H iv (en.forget is) q
theorem sv_eq {d' : Dn W} (h : SV Ds ts d) (k : ∀ v H, d.ok v H → d'.ok v H) : SV Ds ts d' := fun D σ H iv en q => h D σ H iv en fun v H' l o => q v H' l (k v H' o)
theorem sv_roomF {C : Addr} {n : Nat} {B : List Nat} (i : Nat) (e : Ds.get i = some (dRoom C n B)) (h : RoomF n B → SV Ds ts d) (hi : Nat.ble (i + 1) Ds.n = true := by rfl) : SV Ds ts d := fun D σ H iv en q => by
  obtain ⟨v, _, a, dx, b, _, _, _, _, _, f⟩ := en.get e hi
  exact h f D σ H iv en q
theorem nv_roomF {C : Addr} {n : Nat} {B : List Nat} (i : Nat) (e : Ds.get i = some (dRoom C n B)) (h : RoomF n B → NV Ds ts Es) (hi : Nat.ble (i + 1) Ds.n = true := by rfl) : NV Ds ts Es := fun D σ H iv en q => by
  obtain ⟨v, _, a, dx, b, _, _, _, _, _, f⟩ := en.get e hi
  exact h f D σ H iv en q
/-- for over a list: the body falls through, what it names is forgotten -/
theorem nv_for {K : PySem.W.Frag} {tl : TE} {xs : List V} (is : List Nat) (hl : EV Ds tl (dLst xs)) (he : forget Ds is = Fs) (hb : ∀ x ∈ xs, NV (Fs.set i (some (dV x))) ts Fs) :
    NV Ds (tFor (iList K tl) (gName i) ts) Fs := fun D σ H iv en q =>
  hl σ H _ iv en fun v H1 l1 ⟨a, e, g, h⟩ => by
    subst e
    refine ⟨a, rfl, ⟨xs, .inl (.inl h)⟩, ?_⟩
    refine for_list (K := K) (a := a) (xs := xs) (fun k σ' H' => W.L H1 H' ∧ EnvL Fs σ' H') ⟨W.refl H1, he ▸ (en.st l1).forget is⟩ (fun k σ' H' _ hP => .inl (.inl (W.keep g hP.1 h))) (fun k x σ' H' hx hP => ?_) fun σ' H' hP => q σ' H' (W.trans l1 hP.1) hP.2
    have iv' := W.step hP.1 (W.step l1 iv)
    exact hb x (List.mem_of_getElem? hx) _ _ H' iv' (hP.2.set rfl) fun σ2 H2 l2 e2 => ⟨W.trans hP.1 l2, e2⟩
theorem nv_forD {K : PySem.W.Frag} {tl : TE} (is : List Nat) (hl : EV Ds tl (dLD ds)) (he : forget Ds is = Fs) (hb : ∀ d ∈ ds, NV (Fs.set i (some d)) ts Fs) :
    NV Ds (tFor (iList K tl) (gName i) ts) Fs := fun D σ H iv en q =>
  hl σ H _ iv en fun v H1 l1 ⟨a, xs, e, g, h, o⟩ => by
    subst e
    refine ⟨a, rfl, ⟨xs, .inl (.inl h)⟩, ?_⟩
    refine for_list (K := K) (a := a) (xs := xs) (fun k σ' H' => W.L H1 H' ∧ EnvL Fs σ' H') ⟨W.refl H1, he ▸ (en.st l1).forget is⟩ (fun k σ' H' _ hP => .inl (.inl (W.keep g hP.1 h))) (fun k x σ' H' hx hP => ?_) fun σ' H' hP => q σ' H' (W.trans l1 hP.1) hP.2
    have iv' := W.step hP.1 (W.step l1 iv)
    obtain ⟨d, hd, ok⟩ := (o.st hP.1).at hx
    exact hb d hd _ _ H' iv' (hP.2.set ok) fun σ2 H2 l2 e2 => ⟨W.trans hP.1 l2, e2⟩
/-- a for that looks for something and returns it -/
theorem bv_for {K : PySem.W.Frag} {tl : TE} {xs : List V} (is : List Nat) (hl : EV Ds tl (dLst xs)) (he : forget Ds is = Fs) (hb : ∀ x ∈ xs, BV (Fs.set i (some (dV x))) ts Fs d) :
    BV Ds (tFor (iList K tl) (gName i) ts) Fs d := fun D σ H iv en q r =>
  hl σ H _ iv en fun v H1 l1 ⟨a, e, g, h⟩ => by
    subst e
    refine ⟨a, rfl, ⟨xs, .inl (.inl h)⟩, ?_⟩
    refine for_list (K := K) (a := a) (xs := xs) (fun k σ' H' => W.L H1 H' ∧ EnvL Fs σ' H') ⟨W.refl H1, he ▸ (en.st l1).forget is⟩ (fun k σ' H' _ hP => .inl (.inl (W.keep g hP.1 h))) (fun k x σ' H' hx hP => ?_) fun σ' H' hP => q σ' H' (W.trans l1 hP.1) hP.2
    have iv' := W.step hP.1 (W.step l1 iv)
    exact hb x (List.mem_of_getElem? hx) _ _ H' iv' (hP.2.set rfl) (fun σ2 H2 l2 e2 => ⟨W.trans hP.1 l2, e2⟩) fun v H2 l2 o2 => r v H2 (W.trans (W.trans l1 hP.1) l2) o2
/-- the same, with what is known once it was not found up to there -/
theorem sv_find {K : PySem.W.Frag} {tl : TE} {xs : List V} {p : V → Bool} (is : List Nat) (hl : EV Ds tl (dLst xs)) (he : forget Ds is = Fs) (hb : ∀ x ∈ xs, (p x = true → SV (Fs.set i (some (dV x))) ts d) ∧ (p x = false → NV (Fs.set i (some (dV x))) ts Fs))
    (hn : (∀ x ∈ xs, p x = false) → SV Fs tu d) : SV Ds (tSeq (tFor (iList K tl) (gName i) ts) tu) d := fun D σ H iv en q =>
  hl σ H _ iv en fun v H1 l1 ⟨a, e, g, h⟩ => by
    subst e
    refine ⟨a, rfl, ⟨xs, .inl (.inl h)⟩, ?_⟩
    refine for_list (K := K) (a := a) (xs := xs) (fun k σ' H' => W.L H1 H' ∧ EnvL Fs σ' H' ∧ ∀ x ∈ xs.take k, p x = false) ⟨W.refl H1, he ▸ (en.st l1).forget is, fun _ k => (List.not_mem_nil k).elim⟩ (fun k σ' H' _ hP => .inl (.inl (W.keep g hP.1 h))) (fun k x σ' H' hx hP => ?_) fun σ' H' hP =>
      hn (by have := hP.2.2; rwa [List.take_length] at this) D σ' H' (W.step hP.1 (W.step l1 iv)) hP.2.1 fun v H2 l2 o2 => q v H2 (W.trans (W.trans l1 hP.1) l2) o2
    obtain ⟨hP1, hP2, hP3⟩ := hP
    have iv' := W.step hP1 (W.step l1 iv)
    have hb' := hb x (List.mem_of_getElem? hx)
    cases px : p x with
    | true => exact hb'.1 px _ _ H' iv' (hP2.set rfl) fun v H2 l2 o2 => q v H2 (W.trans (W.trans l1 hP1) l2) o2
    | false =>
      refine hb'.2 px _ _ H' iv' (hP2.set rfl) fun σ2 H2 l2 e2 => ⟨W.trans hP1 l2, e2, fun y hy => ?_⟩
      rw [List.take_add_one, hx] at hy
      rcases List.mem_append.mp hy with hy | hy
      · exact hP3 y hy
      · have : y = x := by simpa using hy
        rw [this, px]
theorem nv_forR {ta : TA} {n : Nat} (is : List Nat) (hl : AV Ds ta [dN n]) (h62 : n < 2 ^ 62) (he : forget Ds is = Fs) (hb : ∀ x < n, NV (Fs.set i (some (dN x))) ts Fs) :
    NV Ds (tFor (iRng1 ta) (gName i) ts) Fs := fun D σ H iv en q =>
  hl σ H _ iv en fun vs H1 l1 o1 => by
    match vs, o1 with
    | [v], ⟨o1, _⟩ =>
      refine ⟨(n : Int), by rw [show v = V.int (n : Int) from o1], by omega, by omega, ?_⟩
      refine for_range (lo := 0) (n := (n : Int).toNat) (fun k σ' H' => W.L H1 H' ∧ EnvL Fs σ' H') ⟨W.refl H1, he ▸ (en.st l1).forget is⟩ (fun k σ' H' hk hP => ?_) fun σ' H' hP => q σ' H' (W.trans l1 hP.1) hP.2
      have iv' := W.step hP.1 (W.step l1 iv)
      rw [Int.toNat_natCast] at hk
      exact hb k hk _ _ H' iv' (hP.2.set (show V.int (0 + (k : Int)) = V.int (k : Int) by rw [Int.zero_add])) fun σ2 H2 l2 e2 => ⟨W.trans hP.1 l2, e2⟩
end
end Vf

set_option Elab.async false
set_option linter.all false
set_option maxRecDepth 100000
set_option maxHeartbeats 4000000
set_option pp.maxSteps 400
namespace Vf
open PySem PySem.Spec PyProof.Rows L2
/-! ### more operators on numbers that are not negative -/
section
variable {X : Cx}
theorem op_leN : OpR X (compareOp .LtE) (fun x y H Q => ∃ a b : Nat, x = .int a ∧ y = .int b ∧ Q (.bl (decide (a ≤ b))) H) := by
  rintro pins s σ H x y v u Q I rx ry ⟨a, b, rfl, rfl, q⟩
  refine op_le pins s σ H _ _ v u Q I rx ry ⟨a, b, rfl, rfl, ?_⟩
  have e : decide ((a : Int) ≤ b) = decide (a ≤ b) := decide_eq_decide.mpr (by omega)
  show Q (.bl (decide ((a : Int) ≤ b))) H
  rw [e]
  exact q
theorem op_geN : OpR X (compareOp .GtE) (fun x y H Q => ∃ a b : Nat, x = .int a ∧ y = .int b ∧ Q (.bl (decide (b ≤ a))) H) := by
  rintro pins s σ H x y v u Q I rx ry ⟨a, b, rfl, rfl, q⟩
  refine op_ge pins s σ H _ _ v u Q I rx ry ⟨a, b, rfl, rfl, ?_⟩
  have e : decide ((b : Int) ≤ a) = decide (b ≤ a) := decide_eq_decide.mpr (by omega)
  show Q (.bl (decide ((b : Int) ≤ a))) H
  rw [e]
  exact q
theorem op_shlNN : OpR X (binaryOp .LShift) (fun x y H Q => ∃ a k : Nat, x = .int a ∧ y = .int (k : Int) ∧ a < 2 ^ 64 ∧ k ≤ 1000 ∧ Q (.int ((a <<< k : Nat) : Int)) H) := by
  rintro pins s σ H x y v u Q I rx ry ⟨a, k, rfl, rfl, ha, hk, q⟩
  refine op_shl pins s σ H _ _ v u Q I rx ry ⟨a, k, rfl, rfl, ⟨by omega, by omega, ?_⟩, ?_⟩
  · show (a : Int).natAbs < 2 ^ 64
    rw [Int.natAbs_natCast]
    exact ha
  · have e : (a : Int) * 2 ^ (k : Int).toNat = ((a <<< k : Nat) : Int) := by
      rw [Int.toNat_natCast, Nat.shiftLeft_eq, Int.natCast_mul, Int.natCast_pow]
      rfl
    show Q (.int ((a : Int) * 2 ^ (k : Int).toNat)) H
    rw [e]
    exact q
theorem op_orN : OpR X (binaryOp .BitOr) (fun x y H Q => ∃ a b : Nat, x = .int a ∧ y = .int b ∧ Q (.int ((a ||| b : Nat) : Int)) H) := by
  rintro pins s σ H x y v u Q I rx ry ⟨a, b, rfl, rfl, q⟩
  refine op_or pins s σ H _ _ v u Q I rx ry ⟨a, b, rfl, rfl, ?_⟩
  show Q (.int (Builtin.bitOr a b)) H
  rw [bitOr_nn (by omega) (by omega)]
  exact q
/-- a & ~b : the places of a that are off in b -/
theorem op_andNot : OpR X (binaryOp .BitAnd) (fun x y H Q => ∃ (a : Nat) (j : Int), x = .int a ∧ y = .int j ∧ Q (.int (Builtin.bitAnd a j)) H) := by
  rintro pins s σ H x y v u Q I rx ry ⟨a, j, rfl, rfl, q⟩
  exact op_and pins s σ H _ _ v u Q I rx ry ⟨a, j, rfl, rfl, q⟩
end
variable {W : Wd}
/-! ### meanings of operators -/
section
variable {a b k n m : Nat} {l l2 : List Nat} {x y : Str} {p q : Bool}
theorem od_addN : OpD (W := W) (fun x y H Q => ∃ n m : Nat, x = .int (n : Int) ∧ y = .int (m : Int) ∧ Q (.int ((n + m : Nat) : Int)) H) (dN a) (dN b) (dN (a + b)) := fun x y H Q iv e1 e2 q => ⟨a, b, e1, e2, q _ H (W.refl H) rfl⟩
theorem od_subN (h : b ≤ a) : OpD (W := W) (fun x y H Q => ∃ n m : Nat, x = .int (n : Int) ∧ y = .int (m : Int) ∧ m ≤ n ∧ Q (.int ((n - m : Nat) : Int)) H) (dN a) (dN b) (dN (a - b)) := fun x y H Q iv e1 e2 q => ⟨a, b, e1, e2, h, q _ H (W.refl H) rfl⟩
theorem od_mulN (h : a ≤ 4294967296) : OpD (W := W) (fun x y H Q => ∃ n m : Nat, x = .int (n : Int) ∧ y = .int (m : Int) ∧ n ≤ 4294967296 ∧ Q (.int ((n * m : Nat) : Int)) H) (dN a) (dN b) (dN (a * b)) := fun x y H Q iv e1 e2 q => ⟨a, b, e1, e2, h, q _ H (W.refl H) rfl⟩
theorem od_fdivN (h1 : 1 ≤ b) (h2 : b < 1073741824) : OpD (W := W) (fun x y H Q => ∃ n m : Nat, x = .int (n : Int) ∧ y = .int (m : Int) ∧ (1 ≤ m ∧ m < 1073741824) ∧ Q (.int ((n / m : Nat) : Int)) H) (dN a) (dN b) (dN (a / b)) := fun x y H Q iv e1 e2 q => ⟨a, b, e1, e2, ⟨h1, h2⟩, q _ H (W.refl H) rfl⟩
theorem od_modN (h1 : 0 < b) : OpD (W := W) (fun x y H Q => ∃ n m : Nat, x = .int (n : Int) ∧ y = .int (m : Int) ∧ 0 < m ∧ Q (.int ((n % m : Nat) : Int)) H) (dN a) (dN b) (dN (a % b)) := fun x y H Q iv e1 e2 q => ⟨a, b, e1, e2, h1, q _ H (W.refl H) rfl⟩
theorem od_andN : OpD (W := W) (fun x y H Q => ∃ n m : Nat, x = .int (n : Int) ∧ y = .int (m : Int) ∧ Q (.int ((n &&& m : Nat) : Int)) H) (dN a) (dN b) (dN (a &&& b)) := fun x y H Q iv e1 e2 q => ⟨a, b, e1, e2, q _ H (W.refl H) rfl⟩
theorem od_xorN : OpD (W := W) (fun x y H Q => ∃ n m : Nat, x = .int (n : Int) ∧ y = .int (m : Int) ∧ Q (.int ((n ^^^ m : Nat) : Int)) H) (dN a) (dN b) (dN (a ^^^ b)) := fun x y H Q iv e1 e2 q => ⟨a, b, e1, e2, q _ H (W.refl H) rfl⟩
theorem od_orN : OpD (W := W) (fun x y H Q => ∃ n m : Nat, x = .int (n : Int) ∧ y = .int (m : Int) ∧ Q (.int ((n ||| m : Nat) : Int)) H) (dN a) (dN b) (dN (a ||| b)) := fun x y H Q iv e1 e2 q => ⟨a, b, e1, e2, q _ H (W.refl H) rfl⟩
theorem od_shrN : OpD (W := W) (fun x y H Q => ∃ n m : Nat, x = .int (n : Int) ∧ y = .int (m : Int) ∧ Q (.int ((n / 2 ^ m : Nat) : Int)) H) (dN a) (dN b) (dN (a / 2 ^ b)) := fun x y H Q iv e1 e2 q => ⟨a, b, e1, e2, q _ H (W.refl H) rfl⟩
theorem od_pow2 (h : k ≤ 1000) : OpD (W := W) (fun x y H Q => ∃ k : Nat, x = .int 1 ∧ y = .int (k : Int) ∧ k ≤ 1000 ∧ Q (.int ((2 ^ k : Nat) : Int)) H) (dN 1) (dN k) (dN (2 ^ k)) := fun x y H Q iv e1 e2 q => ⟨k, e1, e2, h, q _ H (W.refl H) rfl⟩
theorem od_shlN (h1 : a < 2 ^ 64) (h : k ≤ 1000) : OpD (W := W) (fun x y H Q => ∃ a k : Nat, x = .int a ∧ y = .int (k : Int) ∧ a < 2 ^ 64 ∧ k ≤ 1000 ∧ Q (.int ((a <<< k : Nat) : Int)) H) (dN a) (dN k) (dN (a <<< k)) := fun x y H Q iv e1 e2 q => ⟨a, k, e1, e2, h1, h, q _ H (W.refl H) rfl⟩
theorem od_ltN : OpD (W := W) (fun x y H Q => ∃ a b : Nat, x = .int a ∧ y = .int b ∧ Q (.bl (decide (a < b))) H) (dN a) (dN b) (dB (decide (a < b))) := fun x y H Q iv e1 e2 q => ⟨a, b, e1, e2, q _ H (W.refl H) rfl⟩
theorem od_gtN : OpD (W := W) (fun x y H Q => ∃ a b : Nat, x = .int a ∧ y = .int b ∧ Q (.bl (decide (b < a))) H) (dN a) (dN b) (dB (decide (b < a))) := fun x y H Q iv e1 e2 q => ⟨a, b, e1, e2, q _ H (W.refl H) rfl⟩
theorem od_leN : OpD (W := W) (fun x y H Q => ∃ a b : Nat, x = .int a ∧ y = .int b ∧ Q (.bl (decide (a ≤ b))) H) (dN a) (dN b) (dB (decide (a ≤ b))) := fun x y H Q iv e1 e2 q => ⟨a, b, e1, e2, q _ H (W.refl H) rfl⟩
theorem od_geN : OpD (W := W) (fun x y H Q => ∃ a b : Nat, x = .int a ∧ y = .int b ∧ Q (.bl (decide (b ≤ a))) H) (dN a) (dN b) (dB (decide (b ≤ a))) := fun x y H Q iv e1 e2 q => ⟨a, b, e1, e2, q _ H (W.refl H) rfl⟩
theorem od_eqN : OpD (W := W) (fun x y H Q => ∃ a b : Nat, x = .int a ∧ y = .int b ∧ Q (.bl (decide (a = b))) H) (dN a) (dN b) (dB (decide (a = b))) := fun x y H Q iv e1 e2 q => ⟨a, b, e1, e2, q _ H (W.refl H) rfl⟩
theorem od_neN : OpD (W := W) (fun x y H Q => ∃ a b : Nat, x = .int a ∧ y = .int b ∧ Q (.bl (!decide (a = b))) H) (dN a) (dN b) (dB (!decide (a = b))) := fun x y H Q iv e1 e2 q => ⟨a, b, e1, e2, q _ H (W.refl H) rfl⟩
theorem od_eqS : OpD (W := W) rEq (dS x) (dS y) (dB (decide (x = y))) := fun u v H Q iv e1 e2 q => by
  rw [show u = V.str x from e1, show v = V.str y from e2]
  refine ⟨rfl, q _ H (W.refl H) ?_⟩
  exact congrArg V.bl (decide_eq_decide.mpr ⟨fun z => by injection z, fun z => by rw [z]⟩)
theorem od_neS : OpD (W := W) rNe (dS x) (dS y) (dB (!decide (x = y))) := fun u v H Q iv e1 e2 q => by
  rw [show u = V.str x from e1, show v = V.str y from e2]
  refine ⟨rfl, q _ H (W.refl H) ?_⟩
  exact congrArg (fun b => V.bl (!b)) (decide_eq_decide.mpr ⟨fun z => by injection z, fun z => by rw [z]⟩)
theorem od_eqB : OpD (W := W) rEq (dB p) (dB q) (dB (decide (p = q))) := fun u v H Q iv e1 e2 k => by
  rw [show u = V.bl p from e1, show v = V.bl q from e2]
  refine ⟨rfl, k _ H (W.refl H) ?_⟩
  exact congrArg V.bl (decide_eq_decide.mpr ⟨fun z => by injection z, fun z => by rw [z]⟩)
theorem od_neB : OpD (W := W) rNe (dB p) (dB q) (dB (!decide (p = q))) := fun u v H Q iv e1 e2 k => by
  rw [show u = V.bl p from e1, show v = V.bl q from e2]
  refine ⟨rfl, k _ H (W.refl H) ?_⟩
  exact congrArg (fun b => V.bl (!b)) (decide_eq_decide.mpr ⟨fun z => by injection z, fun z => by rw [z]⟩)
theorem od_isB : OpD (W := W) rIsB (dB p) (dB q) (dB (decide (p = q))) := fun u v H Q iv e1 e2 k => ⟨p, q, e1, e2, k _ H (W.refl H) rfl⟩
theorem od_isN : OpD (W := W) (fun x y H Q => y = .non ∧ Q (.bl (decide (x = .non))) H) (dN a) (dV .non) (dB false) := fun u v H Q iv e1 e2 k => ⟨e2, k _ H (W.refl H) (by rw [show u = V.int (a : Int) from e1]; rfl)⟩
theorem od_isNN : OpD (W := W) (fun x y H Q => y = .non ∧ Q (.bl (decide (x = .non))) H) (dV .non) (dV .non) (dB true) := fun u v H Q iv e1 e2 k => ⟨e2, k _ H (W.refl H) (by rw [show u = V.non from e1]; rfl)⟩
theorem od_notNN : OpD (W := W) (fun x y H Q => y = .non ∧ Q (.bl (!decide (x = .non))) H) (dV .non) (dV .non) (dB false) := fun u v H Q iv e1 e2 k => ⟨e2, k _ H (W.refl H) (by rw [show u = V.non from e1]; rfl)⟩
theorem od_notN : OpD (W := W) (fun x y H Q => y = .non ∧ Q (.bl (!decide (x = .non))) H) (dN a) (dV .non) (dB true) := fun u v H Q iv e1 e2 k => ⟨e2, k _ H (W.refl H) (by rw [show u = V.int (a : Int) from e1]; rfl)⟩
theorem od_eqL {K : PySem.W.Frag} : OpD (W := W) (rEqD K) (dVs l) (dVs l2) (dB (decide (l = l2))) := fun u v H Q iv ⟨a, e1, g1, h1⟩ ⟨b, e2, g2, h2⟩ k => by
  subst e1 e2
  exact eqD_vs (SqL.of h1) (SqL.of h2) (k _ H (W.refl H) rfl)
theorem od_neL {K : PySem.W.Frag} : OpD (W := W) (rNeD K) (dVs l) (dVs l2) (dB (!decide (l = l2))) := fun u v H Q iv ⟨a, e1, g1, h1⟩ ⟨b, e2, g2, h2⟩ k => by
  subst e1 e2
  exact neD_vs (SqL.of h1) (SqL.of h2) (k _ H (W.refl H) rfl)
theorem od_inL {K : PySem.W.Frag} : OpD (W := W) (rIn K false) (dN a) (dVs l) (dB (decide (a ∈ l))) := fun u v H Q iv e1 ⟨b, e2, g2, h2⟩ k => by
  subst e2
  rw [show u = V.int (a : Int) from e1]
  refine ⟨b, _, rfl, .inl (SqL.of h2), rfl, flatV_vs l, ?_⟩
  rw [if_neg (by simp), inV_vs]
  exact k _ H (W.refl H) rfl
theorem od_ninL {K : PySem.W.Frag} : OpD (W := W) (rIn K true) (dN a) (dVs l) (dB (!decide (a ∈ l))) := fun u v H Q iv e1 ⟨b, e2, g2, h2⟩ k => by
  subst e2
  rw [show u = V.int (a : Int) from e1]
  refine ⟨b, _, rfl, .inl (SqL.of h2), rfl, flatV_vs l, ?_⟩
  rw [if_pos rfl, inV_vs]
  exact k _ H (W.refl H) rfl
theorem od_cat (h : l.length + l2.length ≤ 100000) : OpD (W := W) rCat (dVs l) (dVs l2) (dVs (l ++ l2)) := fun u v H Q iv ⟨a, e1, g1, h1⟩ ⟨b, e2, g2, h2⟩ k => by
  subst e1 e2
  refine ⟨a, b, _, _, rfl, rfl, h1, h2, by rw [len_vs, len_vs]; exact Nat.le_of_lt (sl_lt h), fun p np => k _ _ (W.put iv (W.refl H) np) ⟨p, rfl, W.fresh iv np, ?_⟩⟩
  rw [upd_same, vs_append]
theorem od_catG {xs ys : List V} (h : xs.length + ys.length ≤ 100000) : OpD (W := W) rCat (dLst xs) (dLst ys) (dLst (xs ++ ys)) := fun u v H Q iv ⟨a, e1, g1, h1⟩ ⟨b, e2, g2, h2⟩ k => by
  subst e1 e2
  exact ⟨a, b, _, _, rfl, rfl, h1, h2, Nat.le_of_lt (sl_lt h), fun p np => k _ _ (W.put iv (W.refl H) np) ⟨p, rfl, W.fresh iv np, upd_same⟩⟩
theorem od_ixL {K : PySem.W.Frag} (h : l[k]? = some a) : OpD (W := W) (rIxL K) (dVs l) (dN k) (dN a) := fun u v H Q iv ⟨p, e1, g1, h1⟩ e2 q => by
  subst e1
  rw [show v = V.int (k : Int) from e2]
  refine ⟨p, _, k, .int (a : Int), rfl, rfl, SqL.of h1, atI_nat (j := k) ?_, q _ H (W.refl H) rfl⟩
  unfold Vf.vs
  rw [List.getElem?_map, h]
  rfl
end
/-! ### literals -/
section
variable {Ds : EnvT W} {t : TA} {te : TE} {i : Nat}
theorem ok_dVs {H : Hp} : ∀ {l : List Nat} {vs : List V}, OkL (l.map fun n => (dN n : Dn W)) vs H → vs = Vf.vs l
  | [], [], _ => rfl
  | n :: l, v :: vs, ⟨h, r⟩ => by
    rw [ok_dVs (l := l) r, show v = V.int (n : Int) from h]
    rfl
  | [], _ :: _, h => h.elim
  | _ :: _, [], h => h.elim
theorem ok_dBs {H : Hp} : ∀ {l : List Bool} {vs : List V}, OkL (l.map fun n => (dB n : Dn W)) vs H → vs = l.map V.bl
  | [], [], _ => rfl
  | n :: l, v :: vs, ⟨h, r⟩ => by
    rw [ok_dBs (l := l) r, show v = V.bl n from h]
    rfl
  | [], _ :: _, h => h.elim
  | _ :: _, [], h => h.elim
/-- [e, ..] of numbers: l is told -/
theorem ev_lstN (l : List Nat) (h : AV Ds t (l.map fun n => dN n)) (hn : l.length ≤ 100000 := by exact Nat.le_of_ble_eq_true rfl) : EV Ds (tLst t) (dVs l) := fun σ H Q iv en q => h σ H _ iv en fun vs H1 l1 o1 => by
  have iv1 := W.step l1 iv
  have e := ok_dVs o1
  subst e
  exact ⟨by rw [len_vs]; exact Nat.le_of_lt (sl_lt hn), fun p np => q _ _ (W.trans l1 (W.put iv1 (W.refl _) np)) ⟨p, rfl, W.fresh iv1 np, upd_same⟩⟩
theorem ev_lstB (l : List Bool) (h : AV Ds t (l.map fun n => dB n)) (hn : l.length ≤ 100000 := by exact Nat.le_of_ble_eq_true rfl) : EV Ds (tLst t) (dBs l) := fun σ H Q iv en q => h σ H _ iv en fun vs H1 l1 o1 => by
  have iv1 := W.step l1 iv
  have e := ok_dBs o1
  subst e
  exact ⟨by rw [List.length_map]; exact Nat.le_of_lt (sl_lt hn), fun p np => q _ _ (W.trans l1 (W.put iv1 (W.refl _) np)) ⟨p, rfl, W.fresh iv1 np, upd_same⟩⟩
theorem ev_lstNX {ι : Type} {P : ι → Prop} (l : ι → List Nat) (h : AX Ds t P fun x => (l x).map fun n => dN n) (hn : ∀ x, (l x).length ≤ 100000 := by intro x; exact Nat.le_of_ble_eq_true rfl) : EV Ds (tLst t) (dEx P fun x => dVs (l x)) := fun σ H Q iv en q => h σ H _ iv en fun x vs H1 px l1 o1 => by
  have iv1 := W.step l1 iv
  have e := ok_dVs o1
  subst e
  exact ⟨by rw [len_vs]; exact Nat.le_of_lt (sl_lt (hn x)), fun p np => q _ _ (W.trans l1 (W.put iv1 (W.refl _) np)) ⟨x, px, p, rfl, W.fresh iv1 np, upd_same⟩⟩
theorem ev_lst {ds : List (Dn W)} (h : AV Ds t ds) (hn : ds.length ≤ 100000 := by exact Nat.le_of_ble_eq_true rfl) : EV Ds (tLst t) (dLD ds) := fun σ H Q iv en q => h σ H _ iv en fun vs H1 l1 o1 => by
  refine ⟨?_, fun p np => q _ _ (W.trans l1 (W.put (W.step l1 iv) (W.refl _) np)) ⟨p, vs, rfl, W.fresh (W.step l1 iv) np, upd_same, o1.st (W.put (W.step l1 iv) (W.refl _) np)⟩⟩
  rw [o1.length]
  exact Nat.le_of_lt (sl_lt hn)
end
end Vf

set_option Elab.async false
set_option linter.all false
set_option maxRecDepth 100000
set_option maxHeartbeats 4000000
set_option pp.maxSteps 400
namespace Vf
open PySem PySem.Spec PyProof.Rows L2
/-! ### the promises -/
def Sq (H : Hp) (a : Addr) (xs : List V) : Prop := H a = some (.lst xs) ∨ H a = some (.tup xs)
theorem Sq.same {H H' : Hp} {a : Addr} {xs : List V} (s : Same H H') (h : Sq H a xs) : Sq H' a xs := h.imp (s _ _) (s _ _)
theorem Sq.len {K : PySem.W.Frag} {H : Hp} {a : Addr} {xs : List V} (h : Sq H a xs) : (SqL K H a xs ∨ SqT K H a xs) := h.imp (fun e => SqL.of e) (fun e => .inl (.inl e))
def roomText (n : Nat) (B : List Nat) : Str := ((((Str.empty ++ ("Room(" : Str)) ++ (toString (n : Int) : Str)) ++ (", " : Str)) ++ txt (vs B)) ++ (")" : Str)
def sp_is_integer : Sp := fun vs H Q _ => ∃ i : Int, vs = [.int i] ∧ Q (.bl true) H
def sp_is_count : Sp := fun vs H Q _ => ∃ i : Int, vs = [.int i] ∧ Q (.bl (decide (0 ≤ i))) H
def sp_is_list : Sp := fun vs H Q _ => ∃ (a : Addr) (xs : List V), vs = [.ref a] ∧ Sq H a xs ∧ ∀ H', Same H H' → Q (.bl true) H'
def sp_is_places : Sp := fun vs H Q _ => ∃ n : Nat, vs = [.int n] ∧ 1 ≤ n ∧ n ≤ 24 ∧ Q (.bl true) H
def sp_check_places : Sp := fun vs H Q _ => ∃ n : Nat, vs = [.int n] ∧ 1 ≤ n ∧ n ≤ 24 ∧ Q .non H
def sp_is_word : Sp := fun vs H Q _ => ∃ n m : Nat, vs = [.int n, .int m] ∧ 1 ≤ n ∧ n ≤ 24 ∧ Q (.bl (decide (m < 2 ^ n))) H
def sp_check_word : Sp := fun vs H Q _ => ∃ m n : Nat, vs = [.int m, .int n] ∧ 1 ≤ n ∧ n ≤ 24 ∧ m < 2 ^ n ∧ Q .non H
def sp_highest : Sp := fun vs0 H Q _ => ∃ m : Nat, vs0 = [.int (m : Int)] ∧ m ≠ 0 ∧ m < 2 ^ 64 ∧ Q (.int ((2 ^ m.log2 : Nat) : Int)) H
def sp_rest_of : Sp := fun vs0 H Q _ => ∃ (v : Nat) (b : Addr) (B : List Nat), vs0 = [.int (v : Int), .ref b] ∧ H b = some (.lst (vs B)) ∧ (∀ c ∈ B, c ≠ 0 ∧ c < 2 ^ 64) ∧ Q (.int ((restOf v B : Nat) : Int)) H
def sp_put_in : Sp := fun vs0 H Q _ => ∃ (r : Nat) (b : Addr) (B : List Nat), vs0 = [.int (r : Int), .ref b] ∧ H b = some (.lst (vs B)) ∧ r ≠ 0 ∧ r < 2 ^ 64 ∧ B.length ≤ 1000 ∧
  ∀ (H' : Hp) (p : Addr) (D : List Nat), Same H H' → H p = none → H' p = some (.lst (vs D)) → D.Perm (B.map (clear1 r) ++ [r]) → D.Pairwise (· ≥ ·) → Q (.ref p) H'
def sp_sums_of : Sp := fun vs0 H Q _ => ∃ (b : Addr) (B : List Nat), vs0 = [.ref b] ∧ H b = some (.lst (vs B)) ∧ Piv B ∧ B.length ≤ 12 ∧
  ∀ (H' : Hp) (p : Addr) (L : List Nat), Same H H' → H p = none → H' p = some (.lst (vs L)) → L.Perm (sumsOf B) → L.Pairwise (· ≤ ·) → Q (.ref p) H'
def sp_plain_basis : Sp := fun vs0 H Q _ => ∃ (a : Addr) (ws : List Nat), vs0 = [.ref a] ∧ Sq H a (vs ws) ∧ (∀ v ∈ ws, v < 2 ^ 64) ∧ ws.length ≤ 1000 ∧
  ∀ (H' : Hp) (p : Addr) (B : List Nat), Same H H' → H p = none → H' p = some (.lst (vs B)) → Plain B → (∀ v, span B v ↔ span ws v) → B.length ≤ ws.length → Q (.ref p) H'
def sp_check_words : Sp := fun vs0 H Q _ => ∃ (n : Nat) (a : Addr) (ws : List Nat), vs0 = [.int (n : Int), .ref a] ∧ Sq H a (vs ws) ∧ 1 ≤ n ∧ n ≤ 24 ∧ (∀ v ∈ ws, v < 2 ^ n) ∧ ws.length ≤ 48 ∧ ∀ H', Same H H' → Q .non H'
def sp_init (C : Addr) : Sp := fun vs0 H Q _ => ∃ (x dx : Addr) (n : Nat) (a : Addr) (ws : List Nat), vs0 = [.ref x, .int (n : Int), .ref a] ∧ H x = some (.ins C dx []) ∧ Sq H a (vs ws) ∧ 1 ≤ n ∧ n ≤ 24 ∧ (∀ v ∈ ws, v < 2 ^ n) ∧ ws.length ≤ 48 ∧
  ∀ (H' : Hp) (B : List Nat), But x H H' → RoomNew C H H' x n B → (∀ v, span B v ↔ span ws v) → B.length ≤ ws.length → Q .non H'
def sp_places (C : Addr) : Sp := fun vs0 H Q _ => ∃ (x : Addr) (n : Nat) (B : List Nat), vs0 = [.ref x] ∧ RoomAt C H x n B ∧ Q (.int (n : Int)) H
def sp_dimension (C : Addr) : Sp := fun vs0 H Q _ => ∃ (x : Addr) (n : Nat) (B : List Nat), vs0 = [.ref x] ∧ RoomAt C H x n B ∧ Q (.int ((B.length : Nat) : Int)) H
def sp_basis (C : Addr) : Sp := fun vs0 H Q _ => ∃ (x : Addr) (n : Nat) (B : List Nat), vs0 = [.ref x] ∧ RoomAt C H x n B ∧ ∀ (H' : Hp) (p : Addr), Same H H' → H p = none → H' p = some (.lst (vs B)) → Q (.ref p) H'
def sp_has (C : Addr) : Sp := fun vs0 H Q _ => ∃ (x : Addr) (n : Nat) (B : List Nat) (m : Nat), vs0 = [.ref x, .int (m : Int)] ∧ RoomAt C H x n B ∧ m < 2 ^ n ∧ Q (.bl (decide (restOf m B = 0))) H
def sp_words (C : Addr) : Sp := fun vs0 H Q _ => ∃ (x : Addr) (n : Nat) (B : List Nat), vs0 = [.ref x] ∧ RoomAt C H x n B ∧ B.length ≤ 8 ∧
  ∀ (H' : Hp) (p : Addr) (L : List Nat), Same H H' → H p = none → H' p = some (.lst (vs L)) → L.Perm (sumsOf B) → L.Pairwise (· ≤ ·) → Q (.ref p) H'
def sp_eq (K : PySem.W.Frag) (C : Addr) : Sp := fun vs0 H Q _ => ∃ (x : Addr) (n : Nat) (B : List Nat) (y : V), vs0 = [.ref x, y] ∧ RoomAt C H x n B ∧
  ((∃ (z : Addr) (m : Nat) (D : List Nat), y = .ref z ∧ RoomAt C H z m D ∧ Q (.bl (decide (n = m ∧ B = D))) H) ∨ (∃ t, TyX K H y t ∧ PySem.W.kitOne K t (.ref C) = some false ∧ Q (.bl false) H))
def sp_repr (C : Addr) (g : List Code) : Sp := fun vs0 H Q _ => ∃ (x dx b : Addr) (n : Nat) (B : List Nat), vs0 = [.ref x] ∧ H x = some (.ins C dx (rf n b)) ∧ H b = some (.lst (vs B)) ∧ 1 ≤ n ∧ n ≤ 24 ∧ (∀ c ∈ B, c < 2 ^ n) ∧ B.length ≤ 100 ∧ Clear g b ∧ Q (.str (roomText n B)) H
def sp_pot (K : PySem.W.Frag) : Sp := fun vs0 H Q _ => ∃ (a : Addr) (ns : List Int) (k : Nat), vs0 = [.ref a, .int (k : Int)] ∧ SqL K H a (ns.map V.int) ∧ k < 1000 ∧
  ∀ H' p, Same H H' → H p = none → Pot H' p → Q (.ref p) H'
def sp_draw : Sp := fun vs0 H Q _ => ∃ (p : Addr) (n : Nat), vs0 = [.ref p, .int (n : Int)] ∧ Pot H p ∧ 0 < n ∧ n < 1073741824 ∧
  ∀ (H' : Hp) (d : Nat), But p H H' → Pot H' p → d < n → Q (.int (d : Int)) H'
def sp_mixed : Sp := fun vs0 H Q _ => ∃ (p a : Addr) (l : List V), vs0 = [.ref p, .ref a] ∧ Pot H p ∧ a ≠ p ∧ H a = some (.lst l) ∧ l.length ≤ 1000 ∧
  ∀ (H' : Hp) (r : Addr) (l' : List V), But p H H' → Pot H' p → H r = none → H' r = some (.lst l') → l'.Perm l → Q (.ref r) H'
def sp_pick : Sp := fun vs0 H Q _ => ∃ (p a : Addr) (l : List Nat), vs0 = [.ref p, .ref a] ∧ Pot H p ∧ a ≠ p ∧ H a = some (.lst (vs l)) ∧ 0 < l.length ∧ l.length ≤ 1000 ∧
  ∀ (H' : Hp) (v : Nat), But p H H' → Pot H' p → v ∈ l → Q (.int (v : Int)) H'
def sp_lwords : Sp := fun vs0 H Q _ => ∃ (p : Addr) (n m : Nat), vs0 = [.ref p, .int (n : Int), .int (m : Int)] ∧ Pot H p ∧ n ≤ 24 ∧ m ≤ 100 ∧
  ∀ (H' : Hp) (a : Addr) (l : List Nat), But p H H' → Pot H' p → H a = none → a ≠ p → H' a = some (.lst (vs l)) → l.length = m → (∀ v ∈ l, v < 2 ^ n) → Q (.ref a) H'
def sp_span : Sp := fun vs0 H Q _ => ∃ (a : Addr) (ws : List Nat) (n : Nat), vs0 = [.ref a] ∧ H a = some (.lst (vs ws)) ∧ (∀ w ∈ ws, w < 2 ^ n) ∧ n ≤ 12 ∧
  ∀ (H' : Hp) (p : Addr) (L : List Nat), Same H H' → H p = none → H' p = some (.lst (vs L)) → (∀ v, v ∈ L ↔ span ws v) → L.Pairwise (· < ·) → Q (.ref p) H'
def sp_lbasis : Sp := fun vs0 H Q _ => ∃ (a : Addr) (L B : List Nat), vs0 = [.ref a] ∧ H a = some (.lst (vs L)) ∧ L.length ≤ 1000 ∧ L.Pairwise (· < ·) ∧ Plain B ∧ (∀ v, v ∈ L ↔ span B v) ∧
  ∀ (H' : Hp) (p : Addr), Same H H' → H p = none → H' p = some (.lst (vs B)) → Q (.ref p) H'
def sp_is (C : Addr) : Sp := fun vs0 H Q _ => ∃ (x : Addr) (n : Nat) (B : List Nat) (a : Addr) (L : List Nat), vs0 = [.ref x, .int (n : Int), .ref a] ∧ RoomAt C H x n B ∧ B.length ≤ 100 ∧ H a = some (.lst (vs L)) ∧ L.length ≤ 1000 ∧ L.Pairwise (· < ·) ∧ (∀ v, v ∈ L ↔ span B v) ∧
  ∀ H', Same H H' → Q (.bl true) H'
def sp_weight : Sp := fun vs H Q _ => ∃ m : Nat, vs = [.int m] ∧ m < 2 ^ 24 ∧ Q (.int (pc m : Nat)) H
def sp_are_even : Sp := fun vs H Q _ => ∃ a b : Nat, vs = [.int a, .int b] ∧ a < 2 ^ 24 ∧ b < 2 ^ 24 ∧ Q (.bl (decide (pc (a &&& b) % 2 = 0))) H
def sp_places_of : Sp := fun vs0 H Q _ => ∃ m : Nat, vs0 = [.int m] ∧ m < 2 ^ 24 ∧ ∀ H' p, Same H H' → H p = none → H' p = some (.lst (vs (spots m))) → Q (.ref p) H'
def sp_are_spots : Sp := fun vs0 H Q _ => ∃ (a : Addr) (l : List Nat) (N : Nat), vs0 = [.int (N : Int), .ref a] ∧ Sq H a (vs l) ∧ l.Nodup ∧ (∀ i ∈ l, i < N) ∧ l.length ≤ 24 ∧ ∀ H', Same H H' → Q (.bl true) H'
def sp_word_of : Sp := fun vs0 H Q _ => ∃ (a : Addr) (l : List Nat), vs0 = [.ref a] ∧ Sq H a (vs l) ∧ l.Nodup ∧ (∀ i ∈ l, i < 24) ∧ l.length ≤ 24 ∧ ∀ H', Same H H' → Q (.int (((l.map (2 ^ ·)).sum : Nat) : Int)) H'

variable {W : Wd}
/-! ### what they mean -/
section
variable {C : Addr} {K : PySem.W.Frag} {n m : Nat} {B ws l : List Nat}
theorem room_at {v : V} {H : Hp} (h : (dRoom C n B : Dn W).ok v H) : ∃ a, v = .ref a ∧ RoomAt C H a n B := by
  obtain ⟨a, dx, b, e, _, _, h1, h2, f⟩ := h
  exact ⟨a, e, dx, b, h1, h2, f.pl, f.n1, f.n24, f.lt⟩
theorem made_keep {H1 : Hp} {x dx : Addr} (hx : H1 x = none) (hdx : H1 dx = none) : Same H1 (upd (upd H1 dx (.own x)) x (.ins C dx [])) := fun b o e => by
  rw [upd_ne (ne_of_none e hx), upd_ne (ne_of_none e hdx)]
  exact e
theorem made_sq {H1 : Hp} {x dx a : Addr} {xs : List V} (hS : Sq H1 a xs) (hx : H1 x = none) (hdx : H1 dx = none) : Sq (upd (upd H1 dx (.own x)) x (.ins C dx [])) a xs := hS.imp (made_keep hx hdx _ _) (made_keep hx hdx _ _)
theorem made {H1 H2 : Hp} {x dx : Addr} {n : Nat} {B : List Nat} (hx : H1 x = none) (hdx : H1 dx = none) (b2 : But x (upd (upd H1 dx (.own x)) x (.ins C dx [])) H2) (rm : RoomNew C (upd (upd H1 dx (.own x)) x (.ins C dx [])) H2 x n B) :
    Same H1 H2 ∧ RoomNew C H1 H2 x n B := by
  refine ⟨fun b o e => b2 _ _ (ne_of_none e hx) (made_keep hx hdx b o e), ?_⟩
  obtain ⟨d, b, e1, e2, r1, r2, r3, r4, n0⟩ := rm
  refine ⟨d, b, e1, e2, r1, r2, r3, r4, ?_⟩
  cases k : H1 b with
  | none => rfl
  | some o =>
    rw [made_keep (C := C) hx hdx b o k] at n0
    cases n0
theorem RoomNew.dn {H0 H : Hp} {a : Addr} {n : Nat} {B : List Nat} (h : RoomNew C H0 H a n B) (iv : W.inv H0) (l : W.L H0 H) (na : H0 a = none) : (dRoom C n B : Dn W).ok (.ref a) H := by
  obtain ⟨dx, b, e1, e2, r1, r2, r3, r4, n0⟩ := h
  exact ⟨a, dx, b, rfl, W.fresh iv na, W.fresh iv n0, e1, e2, r1, r2, r3, r4⟩
/-- Room(n, ws) -/
theorem bas_of {ws B : List Nat} (pl : Plain B) (sp : ∀ v, span B v ↔ span ws v) : B = bas ws := bas_uniq pl sp
theorem mk_run {H1 : Hp} {a : Addr} {Q : VK} (h1 : 1 ≤ n) (h24 : n ≤ 24) (hw : ∀ v ∈ ws, v < 2 ^ n) (hl : ws.length ≤ 48) (iv : W.inv H1) (eA : Sq H1 a (vs ws)) (q : ∀ v H', W.L H1 H' → (dRoom C n (bas ws) : Dn W).ok v H' → Q v H') :
    ∀ x dx, H1 x = none → H1 dx = none → dx ≠ x → sp_init C [.ref x, .int (n : Int), .ref a] (upd (upd H1 dx (.own x)) x (.ins C dx [])) (fun v H2 => v = .non ∧ Q (.ref x) H2) E0 := by
  intro x dx hx hdx _
  refine ⟨x, dx, n, a, ws, rfl, upd_same, made_sq eA hx hdx, h1, h24, hw, hl, fun H' B b rm sp _ => ⟨rfl, ?_⟩⟩
  obtain ⟨sm, rm2⟩ := made hx hdx b rm
  have pl : Plain B := by
    obtain ⟨_, _, _, _, p, _⟩ := rm
    exact p
  have e := bas_of pl sp
  subst e
  exact q _ _ (W.same sm) (rm2.dn iv (W.same sm) hx)
theorem ev_makeG {Ds : EnvT W} {t : TA} {dl : Dn W} (h1 : 1 ≤ n) (h24 : n ≤ 24) (hw : ∀ v ∈ ws, v < 2 ^ n) (hl : ws.length ≤ 48) (hs : ∀ v H, dl.ok v H → ∃ a, v = .ref a ∧ Sq H a (vs ws)) (ha : AV Ds t [dN n, dl]) :
    EV Ds (tMake C (sp_init C) [] E0 t) (dRoom C n (bas ws)) := fun σ H Q iv en q =>
  ha σ H _ iv en fun xs H1 l1 o1 => by
    match xs, o1 with
    | [v, u], ⟨e1, o2, _⟩ =>
      obtain ⟨a, rfl, eA⟩ := hs _ _ o2
      rw [show v = V.int (n : Int) from e1]
      exact mk_run h1 h24 hw hl (W.step l1 iv) eA fun v H' l o => q v H' (W.trans l1 l) o
theorem ev_makeKG {Ds : EnvT W} {tk : TA} {dl : Dn W} (h1 : 1 ≤ n) (h24 : n ≤ 24) (hw : ∀ v ∈ ws, v < 2 ^ n) (hl : ws.length ≤ 48) (hs : ∀ v H, dl.ok v H → ∃ a, v = .ref a ∧ Sq H a (vs ws)) (ha : AV Ds tk [dl, dN n]) :
    EV Ds (tMakeK C 0 2 (sp_init C) (fun us zs => us ++ zs.reverse) E0 tNil tk) (dRoom C n (bas ws)) := fun σ H Q iv en q =>
  ha σ H _ iv en fun xs H1 l1 o1 => by
    match xs, o1 with
    | [u, v], ⟨o2, e1, _⟩ =>
      obtain ⟨a, rfl, eA⟩ := hs _ _ o2
      rw [show v = V.int (n : Int) from e1]
      exact ⟨rfl, rfl, mk_run h1 h24 hw hl (W.step l1 iv) eA fun v H' l o => q v H' (W.trans l1 l) o⟩
theorem sq_vs {v : V} {H : Hp} (h : (dVs ws : Dn W).ok v H) : ∃ a, v = .ref a ∧ Sq H a (vs ws) := by
  obtain ⟨a, e, _, h⟩ := h
  exact ⟨a, e, .inl h⟩
theorem sq_tup {v : V} {H : Hp} (h : (dTup (vs ws) : Dn W).ok v H) : ∃ a, v = .ref a ∧ Sq H a (vs ws) := by
  obtain ⟨a, e, _, h⟩ := h
  exact ⟨a, e, .inr h⟩
theorem ev_make {Ds : EnvT W} {t : TA} (h1 : 1 ≤ n) (h24 : n ≤ 24) (hw : ∀ v ∈ ws, v < 2 ^ n) (hl : ws.length ≤ 48) (ha : AV Ds t [dN n, dVs ws]) : EV Ds (tMake C (sp_init C) [] E0 t) (dRoom C n (bas ws)) :=
  ev_makeG h1 h24 hw hl (fun _ _ => sq_vs) ha
theorem ev_makeX {Ds : EnvT W} {t : TA} {ι : Type} {P : ι → Prop} {f : ι → Nat} {g : ι → List Nat} (h : ∀ x, P x → (1 ≤ f x ∧ f x ≤ 24 ∧ (∀ v ∈ g x, v < 2 ^ f x) ∧ (g x).length ≤ 48)) (ha : AX Ds t P fun x => [dN (f x), dVs (g x)]) :
    EV Ds (tMake C (sp_init C) [] E0 t) (dEx P fun x => dRoom C (f x) (bas (g x))) := fun σ H Q iv en q =>
  ha σ H _ iv en fun x xs H1 px l1 o1 => by
    match xs, o1 with
    | [v, u], ⟨e1, o2, _⟩ =>
      obtain ⟨h1, h24, hw, hl⟩ := h x px
      obtain ⟨a, rfl, eA⟩ := sq_vs o2
      rw [show v = V.int (f x : Int) from e1]
      exact mk_run h1 h24 hw hl (W.step l1 iv) eA fun v H' l o => q v H' (W.trans l1 l) ⟨x, px, o⟩
/-! properties, methods -/
section
variable {Ds : EnvT W} {te ta tb : TE} {t tk : TA} {d : Dn W} {ds : List (Dn W)}
theorem ev_prop {sp : Sp} (h : SpD sp [] [dRoom C n B] d) (ha : EV Ds te (dRoom C n B)) : EV Ds (tProp C sp [] E0 te) d := fun σ H Q iv en q =>
  ha σ H _ iv en fun v H1 l1 o1 => by
    obtain ⟨a, dx, b, e, g1, g2, h1, h2, f⟩ := id o1
    subst e
    refine ⟨a, dx, _, rfl, h1, ?_⟩
    exact h [.ref a] H1 Q (W.step l1 iv) ⟨o1, trivial⟩ fun v H' l o => q v H' (W.trans l1 l) o
theorem ev_meth {m : Str} {sp : Sp} (hm : ∀ n b, (rf n b).lookup m = none) (h : SpD sp [] (dRoom C n B :: ds) d) (ha : EV Ds te (dRoom C n B)) (ht : AV Ds t ds) : EV Ds (tMeth C m sp [] E0 te t) d := fun σ H Q iv en q =>
  ha σ H _ iv en fun v H1 l1 o1 => by
    obtain ⟨a, dx, b, e, g1, g2, h1, h2, f⟩ := id o1
    subst e
    refine ⟨a, dx, _, rfl, h1, hm n b, ?_⟩
    refine ht σ H1 _ (W.step l1 iv) (en.st l1) fun vs H2 l2 o2 => ?_
    have := h (.ref a :: vs) H2 Q (W.step l2 (W.step l1 iv)) ⟨(dRoom C n B).st l2 o1, o2⟩ fun v H' l o => q v H' (W.trans l1 (W.trans l2 l)) o
    exact this
theorem ev_methX {m : Str} {sp : Sp} {ι : Type} {P : ι → Prop} {dr : ι → List (Dn W)} {f : ι → Dn W} (hm : ∀ n b, (rf n b).lookup m = none) (h : ∀ x, P x → SpD sp [] (dRoom C n B :: dr x) (f x)) (ha : EV Ds te (dRoom C n B)) (ht : AX Ds t P dr) : EV Ds (tMeth C m sp [] E0 te t) (dEx P f) := fun σ H Q iv en q =>
  ha σ H _ iv en fun v H1 l1 o1 => by
    obtain ⟨a, dx, b, e, g1, g2, h1, h2, f⟩ := id o1
    subst e
    refine ⟨a, dx, _, rfl, h1, hm n b, ?_⟩
    refine ht σ H1 _ (W.step l1 iv) (en.st l1) fun x vs H2 px l2 o2 => ?_
    exact h x px (.ref a :: vs) H2 Q (W.step l2 (W.step l1 iv)) ⟨(dRoom C n B).st l2 o1, o2⟩ fun v H' l o => q v H' (W.trans l1 (W.trans l2 l)) ⟨x, px, o⟩
theorem ev_methK1 {m : Str} {sp : Sp} {gV : List V → List V → List V} (hg : ∀ x z, gV [x] [z] = [x, z]) (hm : ∀ n b, (rf n b).lookup m = none) {d1 : Dn W} (h : SpD sp [] [dRoom C n B, d1] d) (ha : EV Ds te (dRoom C n B)) (ht : AV Ds tk [d1]) : EV Ds (tMethKw C m 1 sp gV te tk) d := fun σ H Q iv en q =>
  ha σ H _ iv en fun v H1 l1 o1 => by
    obtain ⟨a, dx, b, e, g1, g2, h1, h2, f⟩ := id o1
    subst e
    refine ⟨a, dx, _, rfl, h1, hm n b, ?_⟩
    refine ht σ H1 _ (W.step l1 iv) (en.st l1) fun vs H2 l2 o2 => ?_
    match vs, o2 with
    | [z], ⟨o3, _⟩ =>
      rw [hg]
      exact ⟨rfl, h [.ref a, z] H2 Q (W.step l2 (W.step l1 iv)) ⟨(dRoom C n B).st l2 o1, o3, trivial⟩ fun v H' l o => q v H' (W.trans l1 (W.trans l2 l)) o⟩
theorem sd_places : SpD (sp_places C) [] [(dRoom C n B : Dn W)] (dN n) := fun vs H Q iv o q => by
  match vs, o with
  | [v], ⟨o, _⟩ =>
    obtain ⟨a, rfl, r⟩ := room_at o
    exact ⟨a, n, B, rfl, r, q _ H (W.refl H) rfl⟩
theorem sd_dimension : SpD (sp_dimension C) [] [(dRoom C n B : Dn W)] (dN B.length) := fun vs H Q iv o q => by
  match vs, o with
  | [v], ⟨o, _⟩ =>
    obtain ⟨a, rfl, r⟩ := room_at o
    exact ⟨a, n, B, rfl, r, q _ H (W.refl H) rfl⟩
theorem sd_basis : SpD (sp_basis C) [] [(dRoom C n B : Dn W)] (dVs B) := fun vs H Q iv o q => by
  match vs, o with
  | [v], ⟨o, _⟩ =>
    obtain ⟨a, rfl, r⟩ := room_at o
    exact ⟨a, n, B, rfl, r, fun H' p s np e => q _ H' (W.same s) ⟨p, rfl, W.fresh iv np, e⟩⟩
theorem sd_has (h : m < 2 ^ n) : SpD (sp_has C) [] [(dRoom C n B : Dn W), dN m] (dB (decide (restOf m B = 0))) := fun vs H Q iv o q => by
  match vs, o with
  | [v, u], ⟨o, e, _⟩ =>
    obtain ⟨a, rfl, r⟩ := room_at o
    rw [show u = V.int (m : Int) from e]
    exact ⟨a, n, B, m, rfl, r, h, q _ H (W.refl H) rfl⟩
/-- the words of a room, sorted -/
noncomputable def wordsOf (B : List Nat) : List Nat := ((sumsOf B).mergeSort fun a b => decide (a ≤ b))
theorem sort_ok (M : List Nat) : (M.mergeSort fun a b => decide (a ≤ b)).Perm M ∧ (M.mergeSort fun a b => decide (a ≤ b)).Pairwise (· ≤ ·) := by
  refine ⟨List.mergeSort_perm M _, ?_⟩
  have h := List.pairwise_mergeSort (le := fun a b : Nat => decide (a ≤ b)) (fun a b c h1 h2 => decide_eq_true (Nat.le_trans (of_decide_eq_true h1) (of_decide_eq_true h2))) (fun a b => by
    rcases Nat.le_total a b with h | h
    · rw [decide_eq_true h, Bool.true_or]
    · rw [decide_eq_true h, Bool.or_true]) M
  exact h.imp fun h => of_decide_eq_true h
theorem sort_uniq {L M : List Nat} (p : L.Perm M) (o : L.Pairwise (· ≤ ·)) : L = M.mergeSort fun a b => decide (a ≤ b) :=
  List.Perm.eq_of_pairwise (fun a b _ _ h1 h2 => Nat.le_antisymm h1 h2) o (sort_ok M).2 (p.trans (sort_ok M).1.symm)
theorem sd_words (h : B.length ≤ 8) : SpD (sp_words C) [] [(dRoom C n B : Dn W)] (dVs (wordsOf B)) := fun vs H Q iv o q => by
  match vs, o with
  | [v], ⟨o, _⟩ =>
    obtain ⟨a, rfl, r⟩ := room_at o
    refine ⟨a, n, B, rfl, r, h, fun H' p L s np e pm od => q _ H' (W.same s) ⟨p, rfl, W.fresh iv np, ?_⟩⟩
    rw [e, sort_uniq pm od]
    rfl
/-! comparisons -/
theorem own_rooms {X : Cx} {H : Hp} {Q : VK} {x z : Addr} {n m : Nat} {B D : List Nat} {neg : Bool} (hx : RoomAt C H x n B) (hz : RoomAt C H z m D) (q : Q (.bl (if neg then !decide (n = m ∧ B = D) else decide (n = m ∧ B = D))) H) :
    rOwn X C (sp_eq X.K C) neg (.ref x) (.ref z) H Q := by
  obtain ⟨dx, b, e1, _⟩ := id hx
  obtain ⟨dz, d, e2, _⟩ := id hz
  refine ⟨⟨x, dx, _, .ref C, rfl, e1, tyL_ins e2, by simp [PySem.W.notFirst], ⟨x, n, B, .ref z, rfl, hx, .inl ⟨z, m, D, rfl, hz, _, rfl, q⟩⟩⟩⟩
theorem od_eqR {X : Cx} {D : List Nat} : OpD (W := W) (rOwn X C (sp_eq X.K C) false) (dRoom C n B) (dRoom C m D) (dB (decide (n = m ∧ B = D))) := fun u v H Q iv o1 o2 q => by
  obtain ⟨a, rfl, r1⟩ := room_at o1
  obtain ⟨b, rfl, r2⟩ := room_at o2
  exact own_rooms r1 r2 (q _ H (W.refl H) rfl)
theorem od_neR {X : Cx} {D : List Nat} : OpD (W := W) (rOwn X C (sp_eq X.K C) true) (dRoom C n B) (dRoom C m D) (dB (!decide (n = m ∧ B = D))) := fun u v H Q iv o1 o2 q => by
  obtain ⟨a, rfl, r1⟩ := room_at o1
  obtain ⟨b, rfl, r2⟩ := room_at o2
  exact own_rooms r1 r2 (q _ H (W.refl H) rfl)
/-! isinstance(x, Room) -/
theorem cd_isRoom (R : RKn K C) : CrD (W := W) (rIsi K) [dRoom C n B, dV (.ref C)] (dB true) := fun vs H Q iv o q => by
  match vs, o with
  | [v, u], ⟨o, e, _⟩ =>
    obtain ⟨a, dx, b, e1, _, _, h1, _, _⟩ := o
    subst e1
    rw [show u = V.ref C from e]
    exact ⟨.ref a, .ref C, .ref C, .ref C, true, rfl, .own C, .base (.ins h1 R.cl R.ca R.cn R.ct R.cm), if_pos (beq_self_eq_true _), q _ H (W.refl H) rfl⟩
end
/-! the law's own -/
section
variable {p : Addr} {k : Nat}
theorem sd_draw (hp : IsPot W p) (h1 : 0 < n) (h2 : n < 1073741824) : SpD (W := W) sp_draw [] [dV (.ref p), dN n] (dEx (fun d => d < n) dN) := fun vs H Q iv o q => by
  match vs, o with
  | [v, u], ⟨e1, e2, _⟩ =>
    rw [show v = V.ref p from e1, show u = V.int (n : Int) from e2]
    exact ⟨p, n, rfl, hp.has iv, h1, h2, fun H' d b hP hd => q _ H' (hp.put b hP) ⟨d, hd, rfl⟩⟩
theorem sd_pick (hp : IsPot W p) (h1 : 0 < l.length) (h2 : l.length ≤ 1000) : SpD (W := W) sp_pick [] [dV (.ref p), dVs l] (dEx (fun d => d ∈ l) dN) := fun vs H Q iv o q => by
  match vs, o with
  | [v, u], ⟨e1, ⟨a, e2, g, h⟩, _⟩ =>
    subst e2
    rw [show v = V.ref p from e1]
    exact ⟨p, a, l, rfl, hp.has iv, hp.ne g, h, h1, h2, fun H' d b hP hd => q _ H' (hp.put b hP) ⟨d, hd, rfl⟩⟩
theorem sd_lwords (hp : IsPot W p) (h1 : n ≤ 24) (h2 : m ≤ 100) : SpD (W := W) sp_lwords [] [dV (.ref p), dN n, dN m] (dEx (fun l => l.length = m ∧ ∀ v ∈ l, v < 2 ^ n) dVs) := fun vs H Q iv o q => by
  match vs, o with
  | [v, u, w], ⟨e1, e2, e3, _⟩ =>
    rw [show v = V.ref p from e1, show u = V.int (n : Int) from e2, show w = V.int (m : Int) from e3]
    exact ⟨p, n, m, rfl, hp.has iv, h1, h2, fun H' a l b hP na _ e hl hv => q _ H' (hp.put b hP) ⟨l, ⟨hl, hv⟩, a, rfl, W.fresh iv na, e⟩⟩
theorem perm_toV {l : List Nat} {l' : List V} (h : l'.Perm (vs l)) : ∃ k : List Nat, l' = vs k ∧ k.Perm l := perm_vs h
theorem sd_mixed (hp : IsPot W p) (h2 : l.length ≤ 1000) : SpD (W := W) sp_mixed [] [dV (.ref p), dVs l] (dEx (fun k => k.Perm l) dVs) := fun vs H Q iv o q => by
  match vs, o with
  | [v, u], ⟨e1, ⟨a, e2, g, h⟩, _⟩ =>
    subst e2
    rw [show v = V.ref p from e1]
    refine ⟨p, a, _, rfl, hp.has iv, hp.ne g, h, by rw [len_vs]; exact h2, fun H' r l' b hP nr e pm => ?_⟩
    obtain ⟨k, rfl, pk⟩ := perm_vs pm
    exact q _ H' (hp.put b hP) ⟨k, pk, r, rfl, W.fresh iv nr, e⟩
/-- all words of the room that ws make, sorted -/
def SpanL (ws L : List Nat) : Prop := (∀ v, v ∈ L ↔ span ws v) ∧ L.Pairwise (· < ·)
theorem sd_span {n : Nat} (h : ∀ w ∈ ws, w < 2 ^ n) (hn : n ≤ 12) : SpD (W := W) sp_span [] [dVs ws] (dEx (fun L => SpanL ws L) dVs) := fun vs H Q iv o q => by
  match vs, o with
  | [v], ⟨⟨a, e, g, h'⟩, _⟩ =>
    subst e
    exact ⟨a, ws, n, rfl, h', h, hn, fun H' p L s np e mem asc => q _ H' (W.same s) ⟨L, ⟨mem, asc⟩, p, rfl, W.fresh iv np, e⟩⟩
theorem sd_lbasis {L : List Nat} (h1 : L.length ≤ 1000) (h2 : L.Pairwise (· < ·)) (pl : Plain B) (mem : ∀ v, v ∈ L ↔ span B v) : SpD (W := W) sp_lbasis [] [dVs L] (dVs B) := fun vs H Q iv o q => by
  match vs, o with
  | [v], ⟨⟨a, e, g, h'⟩, _⟩ =>
    subst e
    exact ⟨a, L, B, rfl, h', h1, h2, pl, mem, fun H' p s np e => q _ H' (W.same s) ⟨p, rfl, W.fresh iv np, e⟩⟩
theorem plain_len24 (f : RoomF n B) : B.length ≤ 24 := Nat.le_trans (plain_len f.pl f.lt) f.n24
theorem sd_is {L : List Nat} (h1 : L.length ≤ 1000) (h : SpanL B L) : SpD (W := W) (sp_is C) [] [dRoom C n B, dN n, dVs L] (dB true) := fun vs H Q iv o q => by
  match vs, o with
  | [v, u, w], ⟨o1, e2, ⟨a, e, g, h'⟩, _⟩ =>
    obtain ⟨_, _, _, _, _, _, _, _, f⟩ := id o1
    obtain ⟨x, rfl, r⟩ := room_at o1
    subst e
    rw [show u = V.int (n : Int) from e2]
    exact ⟨x, n, B, a, L, rfl, r, by have := plain_len24 f; omega, h', h1, h.2, h.1, fun H' s => q _ H' (W.same s) rfl⟩
end
end
end Vf

set_option Elab.async false
set_option linter.all false
set_option maxRecDepth 100000
set_option maxHeartbeats 4000000
set_option pp.maxSteps 400
namespace Vf
open PySem PySem.Spec PyProof.Rows L2
variable {W : Wd}
section
variable {Ds Es Fs : EnvT W} {d d1 d2 d3 : Dn W} {ds : List (Dn W)} {te ta tb tl : TE} {t tr tk : TA} {tt t1 t2 : TT} {b b1 b2 : Bool} {i j : Nat} {K : PySem.W.Frag} {n : Nat}
/-! ### comprehensions -/
theorem env_lc {σ : L2.St} {H : Hp} {x : V} {dx : Dn W} (ok : dx.ok x H) (en : EnvL Ds σ H) : EnvL (Ds.set i (some dx)) ((wipe σ [i]).set i (some x)) H := by
  unfold wipe wipe
  rw [List.set_set]
  exact EnvL.set ok en
theorem wipe_lc {σ : L2.St} {x : V} : wipe ((wipe σ [i]).set i (some x)) [i] = wipe σ [i] := by
  show ((σ.set i none).set i (some x)).set i none = σ.set i none
  rw [List.set_set, List.set_set]
theorem ev_lc {xs : List V} {p : V → Bool} {g : V → V} (hl : EV Ds tl (dLst xs)) (hz : xs.length ≤ 100000) (ht : ∀ x ∈ xs, TV (Ds.set i (some (dV x))) tt (p x))
    (hb : ∀ x ∈ xs, p x = true → EV (Ds.set i (some (dV x))) te (dV (g x))) : EV Ds (tLc (iList K tl) (gName i) tt te [i]) (dLst ((xs.filter p).map g)) := fun σ H Q iv en q =>
  hl σ H _ iv en fun v H1 l1 ⟨a, e, ga, h⟩ => by
    subst e
    have iv1 := W.step l1 iv
    refine ⟨a, rfl, ⟨xs, .inl (.inl h)⟩, fun D nD => ?_⟩
    refine lc_list (K := K) (a := a) (xs := xs) (fun k H' => W.L H1 H' ∧ H' D = some (.lst (((xs.take k).filter p).map g))) ⟨W.put iv1 (W.refl H1) nD, upd_same⟩ (fun k H' _ hP => .inl (.inl (W.keep ga hP.1 h))) (fun k x H' hx hP => ?_)
      fun H' hP => q _ H' (W.trans l1 hP.1) ⟨D, rfl, W.fresh iv1 nD, by rw [hP.2, List.take_length]⟩
    obtain ⟨lP, eD⟩ := hP
    have xm := List.mem_of_getElem? hx
    have en' : EnvL (Ds.set i (some (dV x))) ((wipe σ [i]).set i (some x)) H' := env_lc rfl (en.st (W.trans l1 lP))
    have tk : (xs.take (k + 1)).filter p = (xs.take k).filter p ++ [x].filter p := by
      rw [List.take_add_one, hx, List.filter_append]
      rfl
    refine ⟨wipe_lc, ?_⟩
    refine ht x xm _ H' _ (W.step lP iv1) en' fun H2 l2 => ?_
    cases hp : p x with
    | true =>
      refine (if_pos rfl).mpr (hb x xm hp _ H2 _ (W.step l2 (W.step lP iv1)) (en'.st l2) fun y H3 l3 o3 => ?_)
      have eD3 := W.keep (W.fresh iv1 nD) l3 (W.keep (W.fresh iv1 nD) l2 eD)
      refine ⟨_, eD3, ?_, W.put iv1 (W.trans lP (W.trans l2 l3)) nD, ?_⟩
      · rw [List.length_map]
        refine sl_lt (Nat.le_trans (List.length_filter_le _ _) ?_)
        rw [List.length_take]
        omega
      · rw [upd_same, tk, List.map_append, (show y = g x from o3), List.filter_cons_of_pos hp]
        rfl
    | false =>
      refine (if_neg Bool.false_ne_true).mpr ⟨W.trans lP l2, ?_⟩
      rw [tk, List.filter_cons_of_neg (by simp [hp]), List.filter_nil, List.append_nil]
      exact W.keep (W.fresh iv1 nD) l2 eD
/-- a tuple walked -/
theorem ev_lcT {xs : List V} {p : V → Bool} {g : V → V} (hl : EV Ds tl (dTup xs)) (hz : xs.length ≤ 100000) (ht : ∀ x ∈ xs, TV (Ds.set i (some (dV x))) tt (p x))
    (hb : ∀ x ∈ xs, p x = true → EV (Ds.set i (some (dV x))) te (dV (g x))) : EV Ds (tLc (iTup K tl) (gName i) tt te [i]) (dLst ((xs.filter p).map g)) := fun σ H Q iv en q =>
  hl σ H _ iv en fun v H1 l1 ⟨a, e, ga, h⟩ => by
    subst e
    have iv1 := W.step l1 iv
    refine ⟨a, rfl, ⟨xs, .inl (.inl h)⟩, fun D nD => ?_⟩
    refine lc_tup (K := K) (a := a) (xs := xs) (fun k H' => W.L H1 H' ∧ H' D = some (.lst (((xs.take k).filter p).map g))) ⟨W.put iv1 (W.refl H1) nD, upd_same⟩ (fun k H' _ hP => .inl (.inl (W.keep ga hP.1 h))) (fun k x H' hx hP => ?_)
      fun H' hP => q _ H' (W.trans l1 hP.1) ⟨D, rfl, W.fresh iv1 nD, by rw [hP.2, List.take_length]⟩
    obtain ⟨lP, eD⟩ := hP
    have xm := List.mem_of_getElem? hx
    have en' : EnvL (Ds.set i (some (dV x))) ((wipe σ [i]).set i (some x)) H' := env_lc rfl (en.st (W.trans l1 lP))
    have tk : (xs.take (k + 1)).filter p = (xs.take k).filter p ++ [x].filter p := by
      rw [List.take_add_one, hx, List.filter_append]
      rfl
    refine ⟨wipe_lc, ?_⟩
    refine ht x xm _ H' _ (W.step lP iv1) en' fun H2 l2 => ?_
    cases hp : p x with
    | true =>
      refine (if_pos rfl).mpr (hb x xm hp _ H2 _ (W.step l2 (W.step lP iv1)) (en'.st l2) fun y H3 l3 o3 => ?_)
      have eD3 := W.keep (W.fresh iv1 nD) l3 (W.keep (W.fresh iv1 nD) l2 eD)
      refine ⟨_, eD3, ?_, W.put iv1 (W.trans lP (W.trans l2 l3)) nD, ?_⟩
      · rw [List.length_map]
        refine sl_lt (Nat.le_trans (List.length_filter_le _ _) ?_)
        rw [List.length_take]
        omega
      · rw [upd_same, tk, List.map_append, (show y = g x from o3), List.filter_cons_of_pos hp]
        rfl
    | false =>
      refine (if_neg Bool.false_ne_true).mpr ⟨W.trans lP l2, ?_⟩
      rw [tk, List.filter_cons_of_neg (by simp [hp]), List.filter_nil, List.append_nil]
      exact W.keep (W.fresh iv1 nD) l2 eD
theorem ev_lcR {p : Nat → Bool} {g : Nat → V} (hl : AV Ds t [dN n]) (hz : n ≤ 100000) (ht : ∀ x < n, TV (Ds.set i (some (dN x))) tt (p x))
    (hb : ∀ x < n, p x = true → EV (Ds.set i (some (dN x))) te (dV (g x))) : EV Ds (tLc (iRng1 t) (gName i) tt te [i]) (dLst (((List.range n).filter p).map g)) := fun σ H Q iv en q =>
  hl σ H _ iv en fun vs H1 l1 o1 => by
    match vs, o1 with
    | [v], ⟨o1, _⟩ =>
      have iv1 := W.step l1 iv
      refine ⟨(n : Int), by rw [show v = V.int (n : Int) from o1], by omega, by omega, fun D nD => ?_⟩
      refine lc_range (lo := 0) (n := (n : Int).toNat) (fun k H' => W.L H1 H' ∧ H' D = some (.lst (((List.range k).filter p).map g))) ⟨W.put iv1 (W.refl H1) nD, upd_same⟩ (fun k H' hk hP => ?_)
        fun H' hP => q _ H' (W.trans l1 hP.1) ⟨D, rfl, W.fresh iv1 nD, by rw [hP.2, Int.toNat_natCast]⟩
      obtain ⟨lP, eD⟩ := hP
      rw [Int.toNat_natCast] at hk
      have en' : EnvL (Ds.set i (some (dN k))) ((wipe σ [i]).set i (some (.int (0 + (k : Int))))) H' := env_lc (show V.int (0 + (k : Int)) = V.int (k : Int) by rw [Int.zero_add]) (en.st (W.trans l1 lP))
      have tk : (List.range (k + 1)).filter p = (List.range k).filter p ++ [k].filter p := by
        rw [List.range_succ, List.filter_append]
      refine ⟨wipe_lc, ?_⟩
      refine ht k hk _ H' _ (W.step lP iv1) en' fun H2 l2 => ?_
      cases hp : p k with
      | true =>
        refine (if_pos rfl).mpr (hb k hk hp _ H2 _ (W.step l2 (W.step lP iv1)) (en'.st l2) fun y H3 l3 o3 => ?_)
        have eD3 := W.keep (W.fresh iv1 nD) l3 (W.keep (W.fresh iv1 nD) l2 eD)
        refine ⟨_, eD3, ?_, W.put iv1 (W.trans lP (W.trans l2 l3)) nD, ?_⟩
        · rw [List.length_map]
          refine sl_lt (Nat.le_trans (List.length_filter_le _ _) ?_)
          rw [List.length_range]
          omega
        · rw [upd_same, tk, List.map_append, (show y = g k from o3), List.filter_cons_of_pos hp]
          rfl
      | false =>
        refine (if_neg Bool.false_ne_true).mpr ⟨W.trans lP l2, ?_⟩
        rw [tk, List.filter_cons_of_neg (by simp [hp]), List.filter_nil, List.append_nil]
        exact W.keep (W.fresh iv1 nD) l2 eD
/-! special kinds: numbers over numbers -/
def nOf : V → Nat
  | .int i => i.toNat
  | _ => 0
theorem nOf_int (n : Nat) : nOf (.int (n : Int)) = n := rfl
theorem filt_vs (l : List Nat) (p : Nat → Bool) : (vs l).filter (fun x => p (nOf x)) = vs (l.filter p) := by
  unfold vs
  rw [List.filter_map]
  rfl
theorem ev_lcN {l : List Nat} {p : Nat → Bool} {g : Nat → V} (hl : EV Ds tl (dVs l)) (hz : l.length ≤ 100000) (ht : ∀ x ∈ l, TV (Ds.set i (some (dN x))) tt (p x))
    (hb : ∀ x ∈ l, p x = true → EV (Ds.set i (some (dN x))) te (dV (g x))) : EV Ds (tLc (iList K tl) (gName i) tt te [i]) (dLst ((l.filter p).map g)) := by
  have h := ev_lc (K := K) (i := i) (tt := tt) (te := te) (p := fun x => p (nOf x)) (g := fun x => g (nOf x)) hl (by rw [len_vs]; exact hz) (fun x hx => by
    obtain ⟨c, hc, rfl⟩ := List.mem_map.mp hx
    exact ht c hc) fun x hx hp => by
    obtain ⟨c, hc, rfl⟩ := List.mem_map.mp hx
    exact hb c hc hp
  rw [filt_vs] at h
  unfold vs at h
  rw [List.map_map] at h
  exact h
theorem filt_true {α : Type} (l : List α) : l.filter (fun _ => true) = l := List.filter_eq_self.mpr fun _ _ => rfl
/-- [x for x in l if ..] -/
theorem ev_lcF {l : List Nat} {p : Nat → Bool} (hl : EV Ds tl (dVs l)) (hz : l.length ≤ 100000) (hi : ∀ d, (Ds.set i (some d)).get i = some d) (ht : ∀ x ∈ l, TV (Ds.set i (some (dN x))) tt (p x)) (hn : Nat.ble (i + 1) Ds.n = true := by rfl) : EV Ds (tLc (iList K tl) (gName i) tt (tVar i) [i]) (dVs (l.filter p)) :=
  ev_lcN hl hz ht fun x hx _ => ev_var (hi _) hn
/-- [f(x) for x in l] -/
theorem ev_lcM {l : List Nat} {g : Nat → Nat} (hl : EV Ds tl (dVs l)) (hz : l.length ≤ 100000) (hb : ∀ x ∈ l, EV (Ds.set i (some (dN x))) te (dN (g x))) : EV Ds (tLc (iList K tl) (gName i) tYes te [i]) (dVs (l.map g)) := by
  have h := ev_lcN (K := K) (i := i) (tt := tYes) (te := te) (p := fun _ => true) (g := fun x => .int (g x : Int)) hl hz (fun x hx => tv_yes) fun x hx _ => hb x hx
  rw [filt_true] at h
  unfold dVs vs
  rw [List.map_map]
  exact h
theorem ev_lcFM {l : List Nat} {p : Nat → Bool} {g : Nat → Nat} (hl : EV Ds tl (dVs l)) (hz : l.length ≤ 100000) (ht : ∀ x ∈ l, TV (Ds.set i (some (dN x))) tt (p x)) (hb : ∀ x ∈ l, p x = true → EV (Ds.set i (some (dN x))) te (dN (g x))) : EV Ds (tLc (iList K tl) (gName i) tt te [i]) (dVs ((l.filter p).map g)) := by
  have h := ev_lcN (K := K) (i := i) (tt := tt) (te := te) (p := p) (g := fun x => .int (g x : Int)) hl hz ht hb
  unfold dVs vs
  rw [List.map_map]
  exact h
/-- [test of x for x in l] -/
theorem ev_lcB {l : List Nat} {g : Nat → Bool} (hl : EV Ds tl (dVs l)) (hz : l.length ≤ 100000) (hb : ∀ x ∈ l, EV (Ds.set i (some (dN x))) te (dB (g x))) : EV Ds (tLc (iList K tl) (gName i) tYes te [i]) (dBs (l.map g)) := by
  have h := ev_lcN (K := K) (i := i) (tt := tYes) (te := te) (p := fun _ => true) (g := fun x => .bl (g x)) hl hz (fun x hx => tv_yes) fun x hx _ => hb x hx
  rw [filt_true] at h
  unfold dBs
  rw [List.map_map]
  exact h
theorem ev_lcRM {g : Nat → Nat} (hl : AV Ds t [dN n]) (hz : n ≤ 100000) (hb : ∀ x < n, EV (Ds.set i (some (dN x))) te (dN (g x))) : EV Ds (tLc (iRng1 t) (gName i) tYes te [i]) (dVs ((List.range n).map g)) := by
  have h := ev_lcR (i := i) (tt := tYes) (te := te) (p := fun _ => true) (g := fun x => .int (g x : Int)) hl hz (fun x hx => tv_yes) fun x hx _ => hb x hx
  rw [filt_true] at h
  unfold dVs vs
  rw [List.map_map]
  exact h
theorem ev_lcRB {g : Nat → Bool} (hl : AV Ds t [dN n]) (hz : n ≤ 100000) (hb : ∀ x < n, EV (Ds.set i (some (dN x))) te (dB (g x))) : EV Ds (tLc (iRng1 t) (gName i) tYes te [i]) (dBs ((List.range n).map g)) := by
  have h := ev_lcR (i := i) (tt := tYes) (te := te) (p := fun _ => true) (g := fun x => .bl (g x)) hl hz (fun x hx => tv_yes) fun x hx _ => hb x hx
  rw [filt_true] at h
  unfold dBs
  rw [List.map_map]
  exact h
theorem ev_lcRF {p : Nat → Bool} (hl : AV Ds t [dN n]) (hz : n ≤ 100000) (hi : ∀ d, (Ds.set i (some d)).get i = some d) (ht : ∀ x < n, TV (Ds.set i (some (dN x))) tt (p x)) (hn : Nat.ble (i + 1) Ds.n = true := by rfl) : EV Ds (tLc (iRng1 t) (gName i) tt (tVar i) [i]) (dVs ((List.range n).filter p)) :=
  ev_lcR hl hz ht fun x hx _ => ev_var (hi _) hn
/-! ### built-ins -/
theorem cd_len {l : List V} : CrD (W := W) (fun xs H Q => ∃ p ys, xs = [.ref p] ∧ (SqL K H p ys ∨ SqT K H p ys) ∧ Q (.int ys.length) H) [dLst l] (dN l.length) := fun vs H Q iv o q => by
  match vs, o with
  | [v], ⟨⟨p, e, g, h⟩, _⟩ =>
    subst e
    exact ⟨p, _, rfl, .inl (SqL.of h), q _ H (W.refl H) rfl⟩
theorem cd_lenN {l : List Nat} : CrD (W := W) (fun xs H Q => ∃ p ys, xs = [.ref p] ∧ (SqL K H p ys ∨ SqT K H p ys) ∧ Q (.int ys.length) H) [dVs l] (dN l.length) := fun vs H Q iv o q => cd_len vs H Q iv o (by rw [len_vs]; exact q)
theorem cd_all {l : List Bool} : CrD (W := W) (rAll K) [dBs l] (dB (l.all id)) := fun vs H Q iv o q => by
  match vs, o with
  | [v], ⟨⟨p, e, g, h⟩, _⟩ =>
    subst e
    exact ⟨p, _, rfl, SqL.of h, q _ H (W.refl H) rfl⟩
theorem cd_any {l : List Bool} : CrD (W := W) (rAny K) [dBs l] (dB (l.any id)) := fun vs H Q iv o q => by
  match vs, o with
  | [v], ⟨⟨p, e, g, h⟩, _⟩ =>
    subst e
    exact ⟨p, _, rfl, SqL.of h, q _ H (W.refl H) rfl⟩
theorem sum_vs : ∀ l : List Nat, (l.map fun i : Nat => (i : Int)).sum = ((l.sum : Nat) : Int)
  | [] => rfl
  | x :: l => by
    rw [List.map_cons, List.sum_cons, List.sum_cons, sum_vs l]
    omega
theorem cd_sum {l : List Nat} : CrD (W := W) (rSum K) [dVs l] (dN l.sum) := fun vs H Q iv o q => by
  match vs, o with
  | [v], ⟨⟨p, e, g, h⟩, _⟩ =>
    subst e
    exact ⟨p, (l.map fun i : Nat => (i : Int)), rfl, SqL.of (by rw [h, vs_int]), q _ H (W.refl H) (by rw [sum_vs]; rfl)⟩
def sortN (l : List Nat) : List Nat := l.mergeSort fun a b => decide (a ≤ b)
theorem cd_sorted {l : List Nat} : CrD (W := W) (rSortedI K) [dVs l] (dVs (sortN l)) := fun vs H Q iv o q => by
  match vs, o with
  | [v], ⟨⟨p, e, g, h⟩, _⟩ =>
    subst e
    refine ⟨p, (l.map fun i : Nat => (i : Int)), rfl, SqL.of (by rw [h, vs_int]), fun ns' r pm od nr => ?_⟩
    obtain ⟨L, rfl, p2⟩ := back_vs pm
    have o2 : (L.map fun i : Nat => (i : Int)).Pairwise (· ≤ ·) := od
    rw [List.pairwise_map] at o2
    have o3 : L.Pairwise (· ≤ ·) := o2.imp fun h => by omega
    have e := sort_uniq p2 o3
    refine q _ _ (W.put iv (W.refl H) nr) ⟨r, rfl, W.fresh iv nr, ?_⟩
    rw [upd_same, ← vs_int, e]
    rfl
theorem cd_list {l : List V} : CrD (W := W) (fun xs H Q => ∃ p ys, xs = [.ref p] ∧ (SqL K H p ys ∨ SqT K H p ys) ∧ ∀ l, H l = none → Q (.ref l) (upd H l (.lst ys))) [dLst l] (dLst l) := fun vs H Q iv o q => by
  match vs, o with
  | [v], ⟨⟨p, e, g, h⟩, _⟩ =>
    subst e
    exact ⟨p, _, rfl, .inl (SqL.of h), fun r nr => q _ _ (W.put iv (W.refl H) nr) ⟨r, rfl, W.fresh iv nr, upd_same⟩⟩
theorem cd_tuple {l : List V} : CrD (W := W) (fun xs H Q => ∃ p ys, xs = [.ref p] ∧ ((SqL K H p ys ∧ ∀ l, H l = none → Q (.ref l) (upd H l (.tup ys))) ∨ (SqT K H p ys ∧ Q (.ref p) H))) [dLst l] (dTup l) := fun vs H Q iv o q => by
  match vs, o with
  | [v], ⟨⟨p, e, g, h⟩, _⟩ =>
    subst e
    exact ⟨p, _, rfl, .inl ⟨SqL.of h, fun r nr => q _ _ (W.put iv (W.refl H) nr) ⟨r, rfl, W.fresh iv nr, upd_same⟩⟩⟩
/-! ### data, for repr and comparisons -/
def DD (K : PySem.W.Frag) (d : Dn W) (e : PyData) : Prop := ∀ v H, d.ok v H → Dp K H v e
theorem dd_N (n : Nat) : DD K (dN n : Dn W) (.int (n : Int)) := fun v H o => by
  rw [show v = V.int (n : Int) from o]
  exact .int _
theorem dd_B (b : Bool) : DD K (dB b : Dn W) (.bool b) := fun v H o => by
  rw [show v = V.bl b from o]
  exact .bl _
theorem dd_non : DD K (dV .non : Dn W) .none := fun v H o => by
  rw [show v = V.non from o]
  exact .non
theorem dd_L (l : List Nat) : DD K (dVs l : Dn W) (.list ((vs l).map toD)) := fun v H ⟨a, e, g, h⟩ => by
  subst e
  exact .lst (SqL.of h) (dp_all (flat_vs l))
theorem dd_Bs (l : List Bool) : DD K (dBs l : Dn W) (.list ((l.map V.bl).map toD)) := fun v H ⟨a, e, g, h⟩ => by
  subst e
  refine .lst (SqL.of h) (dp_all fun x hx => ?_)
  obtain ⟨b, _, rfl⟩ := List.mem_map.mp hx
  rfl
inductive DDs (K : PySem.W.Frag) {W : Wd} : List (Dn W) → List PyData → Prop where
  | nil : DDs K [] []
  | cons {d : Dn W} {e : PyData} {ds : List (Dn W)} {es : List PyData} : DD K d e → DDs K ds es → DDs K (d :: ds) (e :: es)
theorem dd_all {H : Hp} {ds : List (Dn W)} {es : List PyData} (h : DDs K ds es) : ∀ {xs : List V}, OkL ds xs H → DpAll K H xs es := by
  induction h with
  | nil => intro xs o; cases xs with
    | nil => exact .nil
    | cons x xs => exact o.elim
  | cons h1 _ ih => intro xs o; cases xs with
    | nil => exact o.elim
    | cons x xs => exact .cons (h1 _ _ o.1) (ih o.2)
theorem dd_LD {es : List PyData} (h : DDs K ds es) : DD K (dLD ds) (.list es) := fun v H ⟨a, xs, e, g, h', o⟩ => by
  subst e
  exact .lst (SqL.of h') (dd_all h o)
theorem dd_TD {es : List PyData} (h : DDs K ds es) : DD K (dTD ds) (.tuple es) := fun v H ⟨a, xs, e, g, h', o⟩ => by
  subst e
  exact .tup (.inl (.inl h')) (dd_all h o)
/-- what repr can tell, its text not too long -/
structure Nice (dep n : Nat) (e : PyData) : Prop where
  sh : e.showable = true
  nd : e.hasDict = false
  dp : e.depth ≤ dep
  ln : e.shown.length ≤ n
theorem nice_int {i : Int} (h : i.natAbs.log2 < 1900) : Nice 0 1921 (.int i) := by
  have sm : small (.int i) = true := decide_eq_true h
  exact ⟨(small_show sm).1, (small_show sm).2, Nat.le_refl _, small_len sm⟩
theorem nice_nat {n : Nat} (h : n < 2 ^ 64) : Nice 0 1921 (.int (n : Int)) := nice_int (by
  show n.log2 < 1900
  by_cases h0 : n = 0
  · rw [h0]
    decide
  · exact Nat.lt_of_lt_of_le ((Nat.log2_lt h0).mpr h) (by decide))
theorem nice_bool (b : Bool) : Nice 0 1921 (.bool b) := by
  have sm : small (.bl b) = true := rfl
  exact ⟨(small_show sm).1, (small_show sm).2, Nat.le_refl _, small_len sm⟩
theorem nice_all {dep n : Nat} : ∀ {es : List PyData}, (∀ e ∈ es, Nice dep n e) → PyData.showableAll es = true ∧ PyData.hasDictAll es = false ∧ PyData.depthAll es ≤ dep ∧ ((PyData.shownAll es).map fun t => t.length + 2).sum ≤ es.length * (n + 2)
  | [], _ => ⟨rfl, rfl, Nat.zero_le _, Nat.zero_le _⟩
  | e :: es, h => by
    obtain ⟨a, b, c, d⟩ := nice_all (es := es) fun x hx => h x (List.mem_cons_of_mem _ hx)
    obtain ⟨h1, h2, h3, h4⟩ := h e List.mem_cons_self
    refine ⟨?_, ?_, ?_, ?_⟩
    · rw [PyData.showableAll, a, h1]
      rfl
    · rw [PyData.hasDictAll, b, h2]
      rfl
    · rw [PyData.depthAll]
      exact Nat.max_le.mpr ⟨h3, c⟩
    · rw [PyData.shownAll, List.map_cons, List.sum_cons, List.length_cons, Nat.succ_mul]
      omega
theorem nice_list {dep n : Nat} {es : List PyData} (h : ∀ e ∈ es, Nice dep n e) : Nice (dep + 1) (es.length * (n + 2) + 2) (.list es) := by
  obtain ⟨a, b, c, d⟩ := nice_all h
  refine ⟨?_, ?_, ?_, ?_⟩
  · rw [PyData.showable]
    exact a
  · rw [PyData.hasDict]
    exact b
  · rw [PyData.depth]
    omega
  · rw [PyData.shown]
    unfold listText
    rw [strLen_append]
    have h4 := text_len (PyData.shownAll es) 0 "["
    have e1 : (("[" : String) : Str).length = 1 := rfl
    have e2 : (("]" : String) : Str).length = 1 := rfl
    omega
theorem Nice.wk {dep n dep' n' : Nat} {e : PyData} (h : Nice dep n e) (h1 : dep ≤ dep' := by omega) (h2 : n ≤ n' := by omega) : Nice dep' n' e := ⟨h.sh, h.nd, Nat.le_trans h.dp h1, Nat.le_trans h.ln h2⟩
theorem nice_vs {l : List Nat} (h : ∀ v ∈ l, v < 2 ^ 64) : Nice 1 (l.length * 1923 + 2) (.list ((vs l).map toD)) := by
  have := nice_list (dep := 0) (n := 1921) (es := (vs l).map toD) fun e he => by
    obtain ⟨x, hx, rfl⟩ := List.mem_map.mp he
    obtain ⟨v, hv, rfl⟩ := List.mem_map.mp hx
    exact nice_nat (h v hv)
  rw [List.length_map, len_vs] at this
  exact this
theorem nice_bs (l : List Bool) : Nice 1 (l.length * 1923 + 2) (.list ((l.map V.bl).map toD)) := by
  have := nice_list (dep := 0) (n := 1921) (es := (l.map V.bl).map toD) fun e he => by
    obtain ⟨x, hx, rfl⟩ := List.mem_map.mp he
    obtain ⟨v, hv, rfl⟩ := List.mem_map.mp hx
    exact nice_bool v
  rw [List.length_map, List.length_map] at this
  exact this
/-! what repr tells -/
def RT (K : PySem.W.Frag) (C : Addr) (d : Dn W) (x : Str) : Prop := ∀ v H, W.inv H → d.ok v H → Tells K C (sp_repr C) H v x
theorem cd_repr {C : Addr} {x : Str} (h : RT K C d x) : CrD (W := W) (rReprA K C (sp_repr C)) [d] (dS x) := fun vs H Q iv o q => by
  match vs, o with
  | [v], ⟨o, _⟩ => exact ⟨⟨v, x, rfl, h v H iv o, q _ H (W.refl H) rfl⟩⟩
theorem rt_B {C : Addr} (b : Bool) : RT K C (dB b : Dn W) (if b then "True" else "False") := fun v H _ o => by
  rw [show v = V.bl b from o]
  exact .bl b
theorem rt_N {C : Addr} {n : Nat} (h : n < 2 ^ 64) : RT K C (dN n : Dn W) (toString (n : Int)) := fun v H _ o => by
  rw [show v = V.int (n : Int) from o]
  refine .int ?_
  show n.log2 < 1920
  by_cases h0 : n = 0
  · rw [h0]
    decide
  · exact Nat.lt_of_lt_of_le ((Nat.log2_lt h0).mpr h) (by decide)
theorem rt_data {C : Addr} {e : PyData} {dep n : Nat} (hd : DD K d e) (hr : ∀ v H, d.ok v H → ∃ a, v = .ref a) (nc : Nice dep n e) (h1 : dep ≤ 60) (h2 : n ≤ 16000000) : RT K C d e.shown := fun v H _ o => by
  obtain ⟨a, rfl⟩ := hr v H o
  exact .data (hd _ _ o) nc.sh nc.nd (Nat.le_trans nc.dp h1) (Nat.le_trans nc.ln (Nat.le_trans h2 (by decide)))
theorem ref_Lst {l : List V} : ∀ v H, (dLst l : Dn W).ok v H → ∃ a, v = .ref a := fun v H ⟨a, e, _⟩ => ⟨a, e⟩
theorem ref_LD : ∀ v H, (dLD ds).ok v H → ∃ a, v = .ref a := fun v H ⟨a, _, e, _⟩ => ⟨a, e⟩
theorem ref_TD : ∀ v H, (dTD ds).ok v H → ∃ a, v = .ref a := fun v H ⟨a, _, e, _⟩ => ⟨a, e⟩
theorem rt_L {C : Addr} {l : List Nat} (h : ∀ v ∈ l, v < 2 ^ 64) (hl : l.length ≤ 8000) : RT K C (dVs l : Dn W) (PyData.list ((vs l).map toD)).shown := rt_data (dd_L l) ref_Lst (nice_vs h) (by decide) (by omega)
theorem rt_Bs {C : Addr} {l : List Bool} (hl : l.length ≤ 8000) : RT K C (dBs l : Dn W) (PyData.list ((l.map V.bl).map toD)).shown := rt_data (dd_Bs l) ref_Lst (nice_bs l) (by decide) (by omega)
end
end Vf

set_option Elab.async false
set_option linter.all false
set_option maxRecDepth 100000
set_option maxHeartbeats 4000000
set_option pp.maxSteps 400
namespace Vf
open PySem PySem.Spec PyProof.Rows L2
variable {W : Wd}
/-! ### repr of rooms -/
section
variable {C : Addr} {K : PySem.W.Frag} {n : Nat} {B : List Nat}
theorem roomText_len {n : Nat} {B : List Nat} (n1 : 1 ≤ n) (n24 : n ≤ 24) (hB : ∀ c ∈ B, c < 2 ^ n) (lB : B.length ≤ 100) : (roomText n B).length ≤ 200000 := by
  have l1 := txt_len (small_vs fun c hc => lt24 n24 (hB c hc))
  rw [len_vs] at l1
  have l2 : ((toString (n : Int) : Str)).length ≤ 30 := by
    have e := int_text_length_le (a := (n : Int)) (k := 24) (by decide) (by
      show n.log2 < 24
      exact (Nat.log2_lt (by omega)).mpr (Nat.lt_of_le_of_lt n24 (by decide)))
    show (Str.ofString (toString (n : Int))).length ≤ 30
    rw [PySem.ofString_length]
    omega
  have k1 : (Str.empty).length = 0 := rfl
  have k2 : (("Room(" : Str)).length = 5 := rfl
  have k3 : ((", " : Str)).length = 2 := rfl
  have k4 : ((")" : Str)).length = 1 := rfl
  unfold roomText
  rw [strLen_append, strLen_append, strLen_append, strLen_append, strLen_append]
  omega
theorem rt_room : RT K C (dRoom C n B : Dn W) (roomText n B) := fun v H iv o => by
  obtain ⟨a, dx, b, e, g1, g2, h1, h2, f⟩ := o
  subst e
  exact .own h1 ⟨a, dx, b, n, B, rfl, h1, h2, f.n1, f.n24, f.lt, by have := plain_len24 f; omega, Clear.nil b, rfl, rfl⟩
def roomsD (C : Addr) (rs : List (Nat × List Nat)) : List (Dn W) := rs.map fun r => dRoom C r.1 r.2
def roomsT (rs : List (Nat × List Nat)) : List Str := rs.map fun r => roomText r.1 r.2
theorem okRooms {H : Hp} : ∀ {rs : List (Nat × List Nat)} {vs : List V}, OkL (roomsD (W := W) C rs) vs H → ∃ xs : List Addr, vs = xs.map V.ref ∧ xs.length = rs.length ∧
    ∀ (i : Nat) (x : Addr), xs[i]? = some x → ∃ r dx b, rs[i]? = some r ∧ H x = some (.ins C dx (rf r.1 b)) ∧ H b = some (.lst (Vf.vs r.2)) ∧ RoomF r.1 r.2
  | [], [], _ => ⟨[], rfl, rfl, fun i x e => by simp at e⟩
  | r :: rs, v :: vs, ⟨o, o2⟩ => by
    obtain ⟨a, dx, b, e, g1, g2, h1, h2, f⟩ := o
    obtain ⟨xs, e2, hl, k⟩ := okRooms (rs := rs) (vs := vs) o2
    subst e e2
    refine ⟨a :: xs, rfl, by rw [List.length_cons, List.length_cons, hl], fun i x hx => ?_⟩
    cases i with
    | zero =>
      cases hx
      exact ⟨r, dx, b, rfl, h1, h2, f⟩
    | succ i => exact k i x hx
  | [], _ :: _, o => o.elim
  | _ :: _, [], o => o.elim
theorem roomsT_len : ∀ {rs : List (Nat × List Nat)}, (∀ r ∈ rs, (roomText r.1 r.2).length ≤ 200000) → ((roomsT rs).map fun t => t.length + 2).sum ≤ rs.length * 200002
  | [], _ => Nat.zero_le _
  | r :: rs, h => by
    have h1 := roomsT_len (rs := rs) fun x hx => h x (List.mem_cons_of_mem _ hx)
    have h2 := h r List.mem_cons_self
    show ((roomText r.1 r.2).length + 2) + ((roomsT rs).map fun t => t.length + 2).sum ≤ (rs.length + 1) * 200002
    rw [Nat.succ_mul]
    omega
theorem rt_rooms (rs : List (Nat × List Nat)) (hl : rs.length ≤ 60) : RT K C (dLD (roomsD (W := W) C rs)) (listText (roomsT rs)) := fun v H iv o => by
  obtain ⟨a, xs0, e, g, h, o2⟩ := o
  subst e
  obtain ⟨xs, rfl, lx, hx⟩ := okRooms o2
  have small : ∀ r ∈ rs, (roomText r.1 r.2).length ≤ 200000 := fun r hr => by
    obtain ⟨i, hi, rfl⟩ := List.getElem_of_mem hr
    obtain ⟨r, dx, b, e1, _, _, f⟩ := hx i xs[i] (List.getElem?_eq_getElem (by omega))
    have : rs[i] = r := by
      rw [List.getElem?_eq_getElem hi] at e1
      exact Option.some.inj e1
    rw [this]
    exact roomText_len f.n1 f.n24 f.lt (by have := plain_len24 f; omega)
  refine .owns h (by rw [lx]; exact List.length_map _) (fun i x hi => ?_) ?_
  · obtain ⟨r, dx, b, e1, e2, e3, f⟩ := hx i x hi
    refine ⟨roomText r.1 r.2, dx, _, by unfold roomsT; rw [List.getElem?_map, e1]; rfl, e2, fun g' hg' => ⟨x, dx, b, r.1, r.2, rfl, e2, e3, f.n1, f.n24, f.lt, by have := plain_len24 f; omega, ?_, rfl, rfl⟩⟩
    obtain ⟨rest, rfl⟩ := hg'
    refine (Clear.nil b).cons ?_
    rintro rfl
    rw [h] at e3
    have e4 : xs.map V.ref = Vf.vs r.2 := by
      injection e3 with e3
      injection e3
    have m := List.mem_of_getElem? hi
    have : V.ref x ∈ Vf.vs r.2 := e4 ▸ List.mem_map_of_mem m
    obtain ⟨c, _, hc⟩ := List.mem_map.mp this
    cases hc
  · unfold listText
    rw [strLen_append]
    have h4 := text_len (roomsT rs) 0 "["
    have h5 := roomsT_len small
    have e1 : (("[" : String) : Str).length = 1 := rfl
    have e2 : (("]" : String) : Str).length = 1 := rfl
    have e3 : sizeLine = 16777216 := sizeLine_eq
    omega
end
/-! ### defs by what their bodies mean -/
def spW {ι : Type} (P : Wd → ι → Prop) (ds : (W : Wd) → ι → List (Dn W)) (d : (W : Wd) → ι → Dn W) : Sp := fun vs H Q _ => ∃ (W : Wd) (i : ι), P W i ∧ W.inv H ∧ OkL (ds W i) vs H ∧ ∀ v H', W.L H H' → (d W i).ok v H' → Q v H'
theorem spW_sd {ι : Type} {P : Wd → ι → Prop} {ds : (W : Wd) → ι → List (Dn W)} {d : (W : Wd) → ι → Dn W} {i : ι} (h : P W i) : SpD (spW P ds d) [] (ds W i) (d W i) := fun vs H Q iv o q => by
  rw [List.append_nil]
  exact ⟨W, i, h, iv, o, q⟩
section
variable {P : Program} {w : World} {K : PySem.W.Frag} {mg : Str → Option Value} {base : Heap} {x qual : Str} {st : Stmt} {f : Addr} {fd : FuncData} {N ps : List Str} {k : Nat}
  {ι : Type} {Pr : Wd → ι → Prop} {ds : (W : Wd) → ι → List (Dn W)} {d : (W : Wd) → ι → Dn W}
theorem fn_sv (F : Fun K x qual st f fd) (S : FnScope N ps (defScope st)) (len : ∀ W i, (ds W i).length = ps.length)
    (hb : ∀ (W : Wd) (i : ι), Pr W i → ∀ (cdv : Value) (A : Around) (outer : List Env) (s : Shared) (H : Hp) (E : XK), Room k (A.deeper (envOfC qual (defScope st) s.heap.objs.size f cdv)) →
      ∃ t, PSs (cxOf CX0 P w K mg base N qual (defScope st) f cdv A outer s H E).nox (defBody st) t ∧ SV (envOf (ds W i) (N.length - ps.length)) t (d W i)) : FnOk P w K mg base CX0 (k + 1) f fd ps (spW Pr ds d) := by
  refine F.ok S (fun vs H Q E h => ?_) (fun cdv A outer s H vs Q E hr h => ?_)
  · obtain ⟨W, i, _, _, o, _⟩ := h
    exact o.length.trans (len W i)
  · obtain ⟨W, i, p, iv, o, q⟩ := h
    obtain ⟨t, ht, sv⟩ := hb W i p cdv A outer s H E hr
    refine ⟨t, ht, sv _ _ H iv ?_ q⟩
    have l := o.length.trans (len W i)
    unfold L2.start
    rw [l]
    exact EnvL.start o
theorem fn_nv (F : Fun K x qual st f fd) (S : FnScope N ps (defScope st)) (len : ∀ W i, (ds W i).length = ps.length)
    (hb : ∀ (W : Wd) (i : ι), Pr W i → ∀ (cdv : Value) (A : Around) (outer : List Env) (s : Shared) (H : Hp) (E : XK), Room k (A.deeper (envOfC qual (defScope st) s.heap.objs.size f cdv)) →
      ∃ t, PSs (cxOf CX0 P w K mg base N qual (defScope st) f cdv A outer s H E).nox (defBody st) t ∧ ∃ Es, NV (envOf (ds W i) (N.length - ps.length)) t Es) : FnOk P w K mg base CX0 (k + 1) f fd ps (spW Pr ds fun _ _ => dV .non) := by
  refine F.ok S (fun vs H Q E h => ?_) (fun cdv A outer s H vs Q E hr h => ?_)
  · obtain ⟨W, i, _, _, o, _⟩ := h
    exact o.length.trans (len W i)
  · obtain ⟨W, i, p, iv, o, q⟩ := h
    obtain ⟨t, ht, _, sv⟩ := hb W i p cdv A outer s H E hr
    refine ⟨t, ht, sv _ _ H iv ?_ fun σ' H' l _ => q .non H' l rfl⟩
    have l := o.length.trans (len W i)
    unfold L2.start
    rw [l]
    exact EnvL.start o
theorem gn_sv (F : Fun K x qual st f fd) (S : FnScope N ps (defScope st)) (len : ∀ W i, (ds W i).length = ps.length)
    (hb : ∀ (W : Wd) (i : ι), Pr W i → ∀ (cdv : Value) (A : Around) (outer : List Env) (s : Shared) (H : Hp) (E : XK), (A.deeper (envOfC qual (defScope st) s.heap.objs.size f cdv)).guards = some [] → Room k (A.deeper (envOfC qual (defScope st) s.heap.objs.size f cdv)) →
      ∃ t, PSs (cxOf CX0 P w K mg base N qual (defScope st) f cdv A outer s H E).nox (defBody st) t ∧ SV (envOf (ds W i) (N.length - ps.length)) t (d W i)) : GnOk P w K mg base (k + 1) f fd ps (spW Pr ds d) := by
  refine gn_ok F S (fun vs H Q E h => ?_) (fun cdv A outer s H vs Q E hg hr h => ?_)
  · obtain ⟨W, i, _, _, o, _⟩ := h
    exact o.length.trans (len W i)
  · obtain ⟨W, i, p, iv, o, q⟩ := h
    obtain ⟨t, ht, sv⟩ := hb W i p cdv A outer s H E hg hr
    refine ⟨t, ht, sv _ _ H iv ?_ q⟩
    have l := o.length.trans (len W i)
    unfold L2.start
    rw [l]
    exact EnvL.start o
end
end Vf

set_option Elab.async false
set_option linter.all false
set_option maxRecDepth 100000
set_option maxHeartbeats 4000000
namespace Vf
open PySem PySem.Spec PyProof.Rows L2
section
variable {P : Program} {w : World} {K : PySem.W.Frag} {mg : Str → Option Value} {base : Heap} {C : Addr}
/-- where the loop stands -/
def PbI (H : Hp) (a : Addr) (ws : List Nat) (i : Nat) (σ : L2.St) (H' : Hp) : Prop := ∃ (b : Addr) (B : List Nat) (z z2 : Option V), σ = [some (.ref a), some (.ref b), z, z2] ∧ Same H H' ∧ H b = none ∧ H' b = some (.lst (vs B)) ∧
  Plain B ∧ (∀ v, span B v ↔ span (ws.take i) v) ∧ B.length ≤ i
theorem erase_perm {α : Type} : ∀ (l : List α) (d : Nat) (h : d < l.length), (l[d] :: l.eraseIdx d).Perm l
  | x :: l, 0, _ => .refl _
  | x :: l, d + 1, h => by
    have h2 : d < l.length := Nat.lt_of_succ_lt_succ h
    exact (List.Perm.swap x l[d] (l.eraseIdx d)).trans (.cons x (erase_perm l d h2))
theorem fm_lo (a : Int) {b : Int} (h : 0 < b) : 0 ≤ a.fmod b := by
  rw [Int.fmod_eq_emod_of_nonneg _ (by omega)]
  exact Int.emod_nonneg _ (by omega)
theorem pot_new {H : Hp} {p : Addr} {c : Int} {y : Nat} (h : y < 2147483648) : Pot (upd H p (.lst [.int (if c > 0 then c else 0), .int (y : Int)])) p := by
  refine ⟨c.toNat, y, ?_, h⟩
  have e : (if c > 0 then c else 0) = ((c.toNat : Nat) : Int) := by
    split <;> omega
  rw [upd_same, e]
theorem neg_t {p : Prop} [Decidable p] (h : p) : V.bl (if true = true then !decide p else decide p) = V.bl false := by
  rw [if_pos rfl, decide_eq_true h]
  rfl
theorem pos_f {p : Prop} [Decidable p] (h : ¬ p) : V.bl (if false = true then !decide p else decide p) = V.bl false := by
  rw [if_neg (by simp), decide_eq_false h]
theorem RoomNew.plain {C : Addr} {H0 H : Hp} {a : Addr} {n : Nat} {B : List Nat} (h : RoomNew C H0 H a n B) : Plain B := by
  obtain ⟨_, _, _, _, p, _⟩ := h
  exact p
theorem RoomNew.at {C : Addr} {H0 H : Hp} {a : Addr} {n : Nat} {B : List Nat} (h : RoomNew C H0 H a n B) : RoomAt C H a n B := by
  obtain ⟨dx, b, e1, e2, a1, a2, a3, a4, _⟩ := h
  exact ⟨dx, b, e1, e2, a1, a2, a3, a4⟩
theorem int_zero_add (i : Nat) : V.int (0 + (i : Int)) = V.int (i : Int) := by rw [Int.zero_add]
theorem odd_bit (m i : Nat) : decide ((m / 2 ^ i) &&& 1 ≠ 0) = m.testBit i := by
  rw [Nat.testBit_eq_decide_div_mod_eq, Nat.and_one_is_mod]
  rcases Nat.mod_two_eq_zero_or_one (m / 2 ^ i) with h | h <;> rw [h] <;> rfl
theorem nd_int {l : List Nat} (h : l.Nodup) : (l.map fun i : Nat => (i : Int)).Nodup := by
  unfold List.Nodup
  rw [List.pairwise_map]
  exact h.imp fun n z => n (by omega)
theorem sum_cast : ∀ l : List Nat, (l.map fun i : Nat => ((2 ^ i : Nat) : Int)).sum = (((l.map (2 ^ ·)).sum : Nat) : Int)
  | [] => rfl
  | x :: l => by
    rw [List.map_cons, List.sum_cons, sum_cast l, List.map_cons, List.sum_cons]
    omega
end
theorem span_card {ws l : List Nat} {n : Nat} (h : ∀ v ∈ ws, v < 2 ^ n) (mem : ∀ v, v ∈ l ↔ span ws v) (nd : l.Nodup) (hn : n ≤ 12) : l.length ≤ 4096 := by
  obtain ⟨m1, n1, l1⟩ := sums_ok (bas_plain ws).1
  have e : l.length = (sumsOf (bas ws)).length := len_same nd n1 fun x => by rw [mem, m1, bas_span]
  rw [e, l1]
  have := plain_len (bas_plain ws) (bas_lt h)
  exact Nat.le_trans (Nat.pow_le_pow_right (by decide) (Nat.le_trans this hn)) (by decide)
/-! ### more helps -/
abbrev kw1 : List V → List V → List V := fun _ zs => zs
abbrev kwA : List V → List V → List V := fun vs zs => vs ++ zs
abbrev kwR : List V → List V → List V := fun vs zs => vs ++ zs.reverse
abbrev kw2 : List V → List V → List V := fun _ zs => zs.reverse
theorem lt64 {n c : Nat} (h : n ≤ 24) (k : c < 2 ^ n) : c < 2 ^ 64 := Nat.lt_of_lt_of_le k (Nat.pow_le_pow_right (by decide) (by omega))
theorem pw_lt {n : Nat} (h : n ≤ 24) : 2 ^ n < 1073741824 := Nat.lt_of_le_of_lt (Nat.pow_le_pow_right (by decide) h) (by decide)
theorem pw_le {n m : Nat} (h : n ≤ m) : 2 ^ n ≤ 2 ^ m := Nat.pow_le_pow_right (by decide) h
variable {W : Wd}
section
variable {Ds : EnvT W} {d d1 d2 d3 : Dn W} {te : TE} {tt : TT} {b : Bool} {t tk : TA}
theorem ev_t (h : EV Ds te (dB b)) (e : b = true) : EV Ds te (dB true) := e ▸ h
theorem tv_f (h : TV Ds tt b) (e : b = false) : TV Ds tt false := e ▸ h
theorem tv_t (h : TV Ds tt b) (e : b = true) : TV Ds tt true := e ▸ h
theorem tv_nf (h : TV Ds tt true) : TV Ds (tNot tt) false := tv_not h
theorem ev_kw1 {sp : Sp} (h : SpD sp [] [d1] d) (ha : AV Ds tk [d1]) : EV Ds (fun σ H Q => tk σ H fun zs H1 => zs.length = 1 ∧ sp (kw1 [] zs) H1 Q E0) d := ev_callKw h (fun _ _ o => o) rfl ha
theorem ev_kw2 {sp : Sp} (h : SpD sp [] [d1, d2] d) (ha : AV Ds tk [d2, d1]) : EV Ds (fun σ H Q => tk σ H fun zs H1 => zs.length = 2 ∧ sp (kw2 [] zs) H1 Q E0) d := ev_callKw h (fun vs H o => by
  match vs, o with
  | [x, y], ⟨o1, o2, _⟩ => exact ⟨o2, o1, trivial⟩) rfl ha
theorem ev_tgn {sp : Sp} {ds : List (Dn W)} (h : SpD sp [] ds d) (ha : AV Ds t ds) : EV Ds (tGn sp t) d := ev_gn h ha
theorem ev_tgnX {sp : Sp} {ι : Type} {P : ι → Prop} {dr : ι → List (Dn W)} {f : ι → Dn W} (h : ∀ x, P x → SpD sp [] (dr x) (f x)) (ha : AX Ds t P dr) : EV Ds (tGn sp t) (dEx P f) := ev_gnX h ha
theorem forget_none (is : List Nat) (Ds : EnvT W) : forget Ds is = forget Ds is := rfl
end
end Vf

set_option Elab.async false
set_option linter.all false
set_option maxRecDepth 100000
set_option maxHeartbeats 4000000
namespace Vf
open PySem PySem.Spec PyProof.Rows L2
variable {W : Wd}
section
variable {Ds : EnvT W} {d d1 d2 d3 : Dn W} {te ta tb : TE} {tt : TT} {b : Bool} {t tk : TA} {ι : Type} {P : ι → Prop} {f : ι → Bool}
theorem tv_BX (h : EV Ds te (dEx P fun x => dB (f x))) (e : ∀ x, P x → f x = b) : TV Ds (tB te) b := fun σ H R iv en q => h σ H _ iv en fun v H1 l1 ⟨x, p, o1⟩ => ⟨b, by rw [← e x p]; exact o1, q H1 l1⟩
theorem tv_testX (h : EV Ds te (dEx P fun x => dB (f x))) (e : ∀ x, P x → f x = b) : TV Ds (tTest te) b := fun σ H R iv en q => h σ H _ iv en fun v H1 l1 ⟨x, p, o1⟩ => ⟨b, by rw [← e x p]; exact o1, q H1 l1⟩
theorem ev_tX (h : EV Ds te (dEx P fun x => dB (f x))) (e : ∀ x, P x → f x = b) : EV Ds te (dB b) := ev_wk h fun v H ⟨x, p, o⟩ => by rw [← e x p]; exact o
/-- a & ~b -/
theorem sub_mask (a : Nat) : ∀ b : Nat, (a &&& b) + (a ^^^ (a &&& b)) = a := by
  induction a using Nat.strongRecOn with
  | ind a ih =>
    intro b
    by_cases h0 : a = 0
    · subst h0
      rw [Nat.zero_and]
      rfl
    · have h := ih (a / 2) (by omega) (b / 2)
      have e1 : (a &&& b) / 2 = a / 2 &&& b / 2 := Nat.and_div_two
      have e2 : (a ^^^ (a &&& b)) / 2 = a / 2 ^^^ ((a &&& b) / 2) := Nat.xor_div_two
      rw [← e1, ← e2] at h
      have m1 : (a ^^^ (a &&& b)) % 2 = 1 ↔ ¬(a % 2 = 1 ↔ (a &&& b) % 2 = 1) := Nat.xor_mod_two_eq_one
      have m2 : (a &&& b) % 2 = 1 ↔ a % 2 = 1 ∧ b % 2 = 1 := Nat.and_mod_two_eq_one
      rcases Nat.mod_two_eq_zero_or_one a with k | k <;> rcases Nat.mod_two_eq_zero_or_one b with l | l <;> omega
theorem bitAnd_not (a b : Nat) : Builtin.bitAnd (a : Int) (Builtin.bitNot (b : Int)) = ((a ^^^ (a &&& b) : Nat) : Int) := by
  rw [PyProof.Rows.bitAnd_not, bitAnd_pp (by omega) (by omega), Int.toNat_natCast, Int.toNat_natCast]
  have := sub_mask a b
  omega
theorem ev_andNot {a b : Nat} (ha : EV Ds ta (dN a)) (hb : EV Ds tb (dN b)) :
    EV Ds (tOp (fun x y H Q => ∃ (a : Nat) (j : Int), x = .int a ∧ y = .int j ∧ Q (.int (Builtin.bitAnd a j)) H) ta (tUn (rU fun i => .int (Builtin.bitNot i)) tb)) (dN (a ^^^ (a &&& b))) := fun σ H Q iv en q =>
  ha σ H _ iv en fun x H1 l1 o1 => hb σ H1 _ (W.step l1 iv) (en.st l1) fun y H2 l2 o2 => ⟨b, o2, a, _, o1, rfl, by
    rw [bitAnd_not]
    exact q _ H2 (W.trans l1 l2) rfl⟩
end
/-! ### the law -/
theorem vals_rev : ∀ {xs : List V} {us : List Value}, Vals xs us → Vals xs.reverse us.reverse
  | [], _, .nil => .nil
  | x :: xs, u :: us, .cons r t => by
    rw [List.reverse_cons, List.reverse_cons]
    exact (vals_rev t).append (.cons r .nil)
def sp_law (K : PySem.W.Frag) : Sp := fun vs0 H Q _ => ∃ (a : Addr) (ns : List Int), vs0 = [.ref a] ∧ SqL K H a (ns.map V.int) ∧ ∀ H', Q (.bl true) H'
/-- a law's one cell -/
def sp_right : Sp := spW (ι := Addr) (fun W p => IsPot W p) (fun _ p => [dV (.ref p)]) fun _ _ => dB true
/-! ### the promises of the rooms made of rooms -/
section
variable {C : Addr} {n m : Nat} {A B ws : List Nat}
def sp_check_room (C : Addr) : Sp := spW (ι := Nat × List Nat) (fun _ _ => True) (fun _ i => [dRoom C i.1 i.2]) fun _ _ => dV .non
theorem sd_check_room : SpD (sp_check_room C) [] [(dRoom C n B : Dn W)] (dV .non) := spW_sd (i := (n, B)) trivial
def sp_check_two (C : Addr) : Sp := spW (ι := Nat × List Nat × List Nat) (fun _ _ => True) (fun _ i => [dRoom C i.1 i.2.1, dRoom C i.1 i.2.2]) fun _ _ => dV .non
theorem sd_check_two : SpD (sp_check_two C) [] [(dRoom C n A : Dn W), dRoom C n B] (dV .non) := spW_sd (i := (n, A, B)) trivial
theorem sd_plain_basis (h : ∀ v ∈ ws, v < 2 ^ 64) (hl : ws.length ≤ 1000) : SpD (W := W) sp_plain_basis [] [dVs ws] (dVs (bas ws)) := fun vs H Q iv o q => by
  match vs, o with
  | [v], ⟨⟨a, e, g, h'⟩, _⟩ =>
    subst e
    refine ⟨a, ws, rfl, .inl h', h, hl, fun H' p B s np e pl sp _ => q _ H' (W.same s) ⟨p, rfl, W.fresh iv np, ?_⟩⟩
    rw [e, bas_of pl sp]
/-- of so many places, what is off above -/
noncomputable def lowB (n : Nat) (ws : List Nat) : List Nat := (bas ws).filter fun w => decide (w < 2 ^ n)
theorem lowB_plain (n : Nat) (ws : List Nat) : Plain (lowB n ws) := plain_sub List.filter_sublist (bas_plain ws)
theorem lowB_lt {n : Nat} {ws : List Nat} : ∀ c ∈ lowB n ws, c < 2 ^ n := fun c hc => of_decide_eq_true (List.mem_filter.mp hc).2
theorem lowB_span (n : Nat) (ws : List Nat) (v : Nat) : span (lowB n ws) v ↔ span ws v ∧ v < 2 ^ n := by
  unfold lowB
  rw [low_span (bas_plain ws), bas_span]
theorem bas_lowB (n : Nat) (ws : List Nat) : bas (lowB n ws) = lowB n ws := bas_self (lowB_plain n ws)
structure LowP (i : Nat × List Nat) : Prop where
  n1 : 1 ≤ i.1
  n24 : i.1 ≤ 24
  lt : ∀ v ∈ i.2, v < 2 ^ 64
  len : i.2.length ≤ 1000
def sp_lower_room (C : Addr) : Sp := spW (ι := Nat × List Nat) (fun _ i => LowP i) (fun _ i => [dN i.1, dVs i.2]) fun _ i => dRoom C i.1 (lowB i.1 i.2)
theorem sd_lower_room (h1 : 1 ≤ n) (h24 : n ≤ 24) (h : ∀ v ∈ ws, v < 2 ^ 64) (hl : ws.length ≤ 1000) : SpD (sp_lower_room C) [] [(dN n : Dn W), dVs ws] (dRoom C n (lowB n ws)) := spW_sd (i := (n, ws)) ⟨h1, h24, h, hl⟩
def sp_sum_room (C : Addr) : Sp := spW (ι := Nat × List Nat × List Nat) (fun _ _ => True) (fun _ i => [dRoom C i.1 i.2.1, dRoom C i.1 i.2.2]) fun _ i => dRoom C i.1 (bas (i.2.1 ++ i.2.2))
theorem sd_sum_room : SpD (sp_sum_room C) [] [(dRoom C n A : Dn W), dRoom C n B] (dRoom C n (bas (A ++ B))) := spW_sd (i := (n, A, B)) trivial
def comB (n : Nat) (A B : List Nat) : List Nat := (A.map fun w => (w <<< n) ||| w) ++ B.map fun w => w <<< n
theorem comB_len (n : Nat) (A B : List Nat) : (comB n A B).length = A.length + B.length := by
  unfold comB
  rw [List.length_append, List.length_map, List.length_map]
theorem shl_lt {n w : Nat} (h24 : n ≤ 24) (h : w < 2 ^ n) : w <<< n < 2 ^ 64 := by
  rw [Nat.shiftLeft_eq]
  have h1 : 2 ^ n ≤ 2 ^ 24 := Nat.pow_le_pow_right (by decide) h24
  have h2 : w * 2 ^ n ≤ 2 ^ 24 * 2 ^ 24 := Nat.mul_le_mul (by omega) h1
  exact Nat.lt_of_le_of_lt h2 (by decide)
theorem comB_lt {n : Nat} {A B : List Nat} (h24 : n ≤ 24) (hA : ∀ w ∈ A, w < 2 ^ n) (hB : ∀ w ∈ B, w < 2 ^ n) : ∀ v ∈ comB n A B, v < 2 ^ 64 := fun v hv => by
  rcases List.mem_append.mp hv with h | h
  · obtain ⟨w, hw, rfl⟩ := List.mem_map.mp h
    exact Nat.or_lt_two_pow (shl_lt h24 (hA w hw)) (lt64 h24 (hA w hw))
  · obtain ⟨w, hw, rfl⟩ := List.mem_map.mp h
    exact shl_lt h24 (hB w hw)
def sp_common_room (C : Addr) : Sp := spW (ι := Nat × List Nat × List Nat) (fun _ _ => True) (fun _ i => [dRoom C i.1 i.2.1, dRoom C i.1 i.2.2]) fun _ i => dRoom C i.1 (lowB i.1 (comB i.1 i.2.1 i.2.2))
theorem sd_common_room : SpD (sp_common_room C) [] [(dRoom C n A : Dn W), dRoom C n B] (dRoom C n (lowB n (comB n A B))) := spW_sd (i := (n, A, B)) trivial
theorem comB_span (hA : ∀ a ∈ A, a < 2 ^ n) (v : Nat) : span (lowB n (comB n A B)) v ↔ span A v ∧ span B v := common_span hA v
def liesB (A B : List Nat) : Bool := (A.map fun w => decide (restOf w B = 0)).all id
def sp_lies_in (C : Addr) : Sp := spW (ι := Nat × List Nat × List Nat) (fun _ _ => True) (fun _ i => [dRoom C i.1 i.2.1, dRoom C i.1 i.2.2]) fun _ i => dB (liesB i.2.1 i.2.2)
theorem sd_lies_in : SpD (sp_lies_in C) [] [(dRoom C n A : Dn W), dRoom C n B] (dB (liesB A B)) := spW_sd (i := (n, A, B)) trivial
theorem liesB_iff (pl : Plain B) : liesB A B = true ↔ ∀ v, span A v → span B v := by
  unfold liesB
  rw [List.all_eq_true]
  constructor
  · intro h v
    refine span_sub fun w hw => ?_
    have := h _ (List.mem_map_of_mem hw)
    exact (rest_zero pl.1 w).mp (of_decide_eq_true this)
  · intro h x hx
    obtain ⟨w, hw, rfl⟩ := List.mem_map.mp hx
    exact decide_eq_true ((rest_zero pl.1 w).mpr (h w (span_mem hw)))
end
end Vf
namespace Vf
open PySem PySem.Spec PyProof.Rows L2
variable {W : Wd}
section
variable {C : Addr} {n m : Nat} {A B ws : List Nat}
theorem sd_check_word (h1 : 1 ≤ n) (h24 : n ≤ 24) (h : m < 2 ^ n) : SpD (W := W) sp_check_word [] [dN m, dN n] (dV .non) := fun vs H Q iv o q => by
  match vs, o with
  | [v, u], ⟨e1, e2, _⟩ =>
    rw [show v = V.int (m : Int) from e1, show u = V.int (n : Int) from e2]
    exact ⟨m, n, rfl, h1, h24, h, q _ H (W.refl H) rfl⟩
/-- the places of a that are off in w -/
def offB (w a : Nat) : Nat := a ^^^ (a &&& w)
theorem linF_off (w : Nat) : LinF (offB w) := linF_xor linF_id (linF_and w)
theorem offB_zero {w a : Nat} : offB w a = 0 ↔ a &&& w = a := ⟨fun h => (xor_zero_iff h).symm, fun h => by unfold offB; rw [h, Nat.xor_self]⟩
theorem offB_lt {w a n : Nat} (h : a < 2 ^ n) : offB w a < 2 ^ n := Nat.xor_lt_two_pow h (Nat.lt_of_le_of_lt Nat.and_le_left h)
def shoB (n : Nat) (B : List Nat) (w : Nat) : List Nat := B.map fun b => (offB w b <<< n) ||| b
def sp_shortened (C : Addr) : Sp := spW (ι := Nat × List Nat × Nat) (fun _ i => i.2.2 < 2 ^ i.1) (fun _ i => [dRoom C i.1 i.2.1, dN i.2.2]) fun _ i => dRoom C i.1 (lowB i.1 (shoB i.1 i.2.1 i.2.2))
theorem sd_shortened (h : m < 2 ^ n) : SpD (sp_shortened C) [] [(dRoom C n B : Dn W), dN m] (dRoom C n (lowB n (shoB n B m))) := spW_sd (i := (n, B, m)) h
theorem shoB_span (hB : ∀ a ∈ B, a < 2 ^ n) (v : Nat) : span (lowB n (shoB n B m)) v ↔ span B v ∧ v &&& m = v := by
  rw [lowB_span]
  unfold shoB
  rw [two_floors (linF_off m) hB, offB_zero]
theorem shoB_lt (h24 : n ≤ 24) (hB : ∀ w ∈ B, w < 2 ^ n) : ∀ v ∈ shoB n B m, v < 2 ^ 64 := fun v hv => by
  obtain ⟨w, hw, rfl⟩ := List.mem_map.mp hv
  exact Nat.or_lt_two_pow (shl_lt h24 (offB_lt (hB w hw))) (lt64 h24 (hB w hw))
def sp_cut (C : Addr) : Sp := spW (ι := Nat × List Nat × Nat) (fun _ i => i.2.2 < 2 ^ i.1) (fun _ i => [dRoom C i.1 i.2.1, dN i.2.2]) fun _ i => dRoom C i.1 (bas (i.2.1.map (· &&& i.2.2)))
theorem sd_cut (h : m < 2 ^ n) : SpD (sp_cut C) [] [(dRoom C n B : Dn W), dN m] (dRoom C n (bas (B.map (· &&& m)))) := spW_sd (i := (n, B, m)) h
theorem cutB_span (v : Nat) : span (bas (B.map (· &&& m))) v ↔ ∃ a, span B a ∧ v = a &&& m := by
  rw [bas_span, span_map (linF_and m)]
end
section
variable {Ds Es Fs : EnvT W} {ts tu : TS} {tl : TE} {i : Nat} {d : Dn W}
/-- a for over a list of numbers that is told in part alone -/
theorem nv_forX {K : PySem.W.Frag} {P : List Nat → Prop} (is : List Nat) (hl : EV Ds tl (dEx P dVs)) (he : forget Ds is = Fs) (hb : ∀ l, P l → ∀ x ∈ l, NV (Fs.set i (some (dN x))) ts Fs) :
    NV Ds (tFor (iList K tl) (gName i) ts) Fs := fun D σ H iv en q =>
  hl σ H _ iv en fun v H1 l1 ⟨l, pl, o⟩ => by
    obtain ⟨a, e, g, h⟩ := o
    subst e
    refine ⟨a, rfl, ⟨vs l, .inl (.inl h)⟩, ?_⟩
    refine for_list (K := K) (a := a) (xs := vs l) (fun k σ' H' => W.L H1 H' ∧ EnvL Fs σ' H') ⟨W.refl H1, he ▸ (en.st l1).forget is⟩ (fun k σ' H' _ hP => .inl (.inl (W.keep g hP.1 h))) (fun k x σ' H' hx hP => ?_) fun σ' H' hP => q σ' H' (W.trans l1 hP.1) hP.2
    have iv' := W.step hP.1 (W.step l1 iv)
    obtain ⟨c, hc, rfl⟩ := List.mem_map.mp (List.mem_of_getElem? hx)
    exact hb l pl c hc _ _ H' iv' (hP.2.set rfl) fun σ2 H2 l2 e2 => ⟨W.trans hP.1 l2, e2⟩
end
end Vf

set_option Elab.async false
set_option linter.all false
set_option maxRecDepth 100000
set_option maxHeartbeats 4000000
namespace Vf
/-! ### helps for the laws' rooms -/
theorem nd_t {p : Prop} [Decidable p] (h : p) : (!decide p) = false := by rw [decide_eq_true h]; rfl
theorem d_t {p : Prop} [Decidable p] (h : p) : decide p = true := decide_eq_true h
theorem SpanL.pos {ws L : List Nat} (h : SpanL ws L) : 0 < L.length := List.length_pos_of_mem ((h.1 0).mpr (span_zero ws))
theorem SpanL.len {ws L : List Nat} (h : SpanL ws L) : L.length = 2 ^ (bas ws).length := by
  obtain ⟨m1, n1, l1⟩ := sums_ok (bas_plain ws).1
  rw [← l1]
  exact len_same (h.2.imp fun k => Nat.ne_of_lt k) n1 fun x => by rw [h.1, m1, bas_span]
theorem plain_ex2 : ∀ ws : List Nat, ∃ B, Plain B ∧ (∀ v, span B v ↔ span ws v) ∧ B.length ≤ ws.length
  | [] => ⟨[], plain_nil, fun _ => Iff.rfl, Nat.le_refl _⟩
  | w :: ws => by
    obtain ⟨B, pl, sp, ln⟩ := plain_ex2 ws
    have e : ∀ v, span (restOf w B :: B) v ↔ span (w :: ws) v := fun v => by
      rw [rest_room pl.1, span_cons, span_cons, sp, sp]
    by_cases r0 : restOf w B = 0
    · refine ⟨B, pl, fun v => ?_, Nat.le_succ_of_le ln⟩
      rw [← e v, r0]
      exact ⟨span_sub fun x hx => span_mem (List.mem_cons_of_mem _ hx), span_sub fun x hx => (List.mem_cons.mp hx).elim (fun e => by rw [e]; exact span_zero B) span_mem⟩
    · obtain ⟨D, pm, ge⟩ := sort_desc (B.map (clear1 (restOf w B)) ++ [restOf w B])
      have pD := piv_perm pm.symm (put_piv pl.1 r0 fun x hx => rest_off pl.1 w hx)
      refine ⟨D, ⟨pD, ge_gt pD ge⟩, fun v => by rw [span_perm pm v, put_span, e v], ?_⟩
      rw [pm.length_eq, List.length_append, List.length_map]
      exact Nat.succ_le_succ ln
theorem bas_len (ws : List Nat) : (bas ws).length ≤ ws.length := by
  obtain ⟨B, pl, sp, ln⟩ := plain_ex2 ws
  rw [← bas_of pl sp]
  exact ln
theorem SpanL.le {ws L : List Nat} (h : SpanL ws L) (k : ws.length ≤ 8) : L.length ≤ 256 := by
  rw [h.len]
  exact Nat.le_trans (Nat.pow_le_pow_right (by decide) (Nat.le_trans (bas_len ws) k)) (by decide)
theorem SpanL.leN {ws L : List Nat} {n : Nat} (h : SpanL ws L) (k : ∀ w ∈ ws, w < 2 ^ n) (hn : n ≤ 12) : L.length ≤ 4096 := span_card k h.1 (h.2.imp fun k => Nat.ne_of_lt k) hn
theorem SpanL.congr {ws us L : List Nat} (h : SpanL ws L) (k : ∀ v, span ws v ↔ span us v) : SpanL us L := ⟨fun v => (h.1 v).trans (k v), h.2⟩
theorem SpanL.filt {ws us L : List Nat} {p : Nat → Bool} (h : SpanL ws L) (k : ∀ v, span us v ↔ span ws v ∧ p v = true) : SpanL us (L.filter p) := ⟨fun v => by
  rw [List.mem_filter, h.1, k], h.2.filter p⟩
theorem SpanL.uniq {ws L M : List Nat} (h : SpanL ws L) (k : SpanL ws M) : L = M := up_eq h.2 k.2 fun v => (h.1 v).trans (k.1 v).symm
theorem span_comm (A B : List Nat) (v : Nat) : span (A ++ B) v ↔ span (B ++ A) v := span_perm List.perm_append_comm v
theorem span_left {A B : List Nat} {v : Nat} (h : span A v) : span (A ++ B) v := span_sub (fun w hw => span_mem (List.mem_append_left _ hw)) h
theorem span_right {A B : List Nat} {v : Nat} (h : span B v) : span (A ++ B) v := span_sub (fun w hw => span_mem (List.mem_append_right _ hw)) h
/-- a sum within a room -/
theorem span_app_sub {A B D : List Nat} (hA : ∀ v, span A v → span D v) (hB : ∀ v, span B v → span D v) {v : Nat} (h : span (A ++ B) v) : span D v := by
  obtain ⟨a, b, ha, hb, rfl⟩ := span_append.mp h
  exact span_xor (hA a ha) (hB b hb)
theorem span_absorb {A B : List Nat} (h : ∀ v, span B v → span A v) (v : Nat) : span (A ++ B) v ↔ span A v := ⟨span_app_sub (fun _ k => k) h, span_left⟩
theorem span_absorb2 {A B : List Nat} (h : ∀ v, span A v → span B v) (v : Nat) : span (A ++ B) v ↔ span B v := ⟨span_app_sub h fun _ k => k, span_right⟩
theorem span_emp (v : Nat) : span [] v ↔ v = 0 := ⟨span_nil, fun h => h ▸ span_zero []⟩
/-- all words of n places -/
theorem span_units (n v : Nat) : span ((List.range n).map (2 ^ ·)) v ↔ v < 2 ^ n := by
  constructor
  · refine span_lt fun w hw => ?_
    obtain ⟨i, hi, rfl⟩ := List.mem_map.mp hw
    exact Nat.pow_lt_pow_right (by decide) (List.mem_range.mp hi)
  · intro h
    induction n generalizing v with
    | zero =>
      have : v = 0 := by simpa using h
      rw [this]
      exact span_zero _
    | succ n ih =>
      have up : ∀ w, span ((List.range n).map (2 ^ ·)) w → span ((List.range (n + 1)).map (2 ^ ·)) w := fun w => span_sub fun u hu => by
        obtain ⟨i, hi, rfl⟩ := List.mem_map.mp hu
        exact span_mem (List.mem_map_of_mem (List.mem_range.mpr (Nat.lt_succ_of_lt (List.mem_range.mp hi))))
      by_cases k : v < 2 ^ n
      · exact up v (ih v k)
      · have hm : span ((List.range (n + 1)).map (2 ^ ·)) (2 ^ n) := span_mem (List.mem_map_of_mem (List.mem_range.mpr (Nat.lt_succ_self n)))
        have hl : v ^^^ 2 ^ n < 2 ^ n := by
          apply Nat.lt_pow_two_of_testBit
          intro i hi
          rw [Nat.testBit_xor, Nat.testBit_two_pow]
          by_cases e : i = n
          · subst e
            have : v.testBit i = true := by
              have h2 : i = v.log2 := by
                have v0 : v ≠ 0 := by
                  have := Nat.two_pow_pos i
                  omega
                have l1 := (lt_pow_log (n := i + 1) v0).mp h
                have l2 : ¬ v.log2 < i := fun z => k ((lt_pow_log (n := i) v0).mpr z)
                omega
              have v0 : v ≠ 0 := by
                have := Nat.two_pow_pos i
                omega
              have := top_bit v0
              rw [← h2] at this
              exact this
            rw [this, decide_eq_true rfl]
            rfl
          · rw [bit_hi h (by omega), decide_eq_false (Ne.symm e)]
            rfl
        have := span_xor (up _ (ih _ hl)) hm
        rwa [xor_cancel] at this
theorem liesB_eq {A B L M : List Nat} (pl : Plain B) (hL : SpanL A L) (hM : SpanL B M) : liesB A B = (L.map fun w => decide (w ∈ M)).all id := by
  rw [Bool.eq_iff_iff, liesB_iff pl, List.all_eq_true]
  constructor
  · intro h x hx
    obtain ⟨w, hw, rfl⟩ := List.mem_map.mp hx
    exact decide_eq_true ((hM.1 w).mpr (h w ((hL.1 w).mp hw)))
  · intro h v hv
    exact (hM.1 v).mp (of_decide_eq_true (h _ (List.mem_map_of_mem ((hL.1 v).mpr hv))))
theorem sum_common2 {n : Nat} {A B : List Nat} (pA : Plain A) (pB : Plain B) (hA : ∀ a ∈ A, a < 2 ^ n) (hB : ∀ b ∈ B, b < 2 ^ n) : (bas (A ++ B)).length + (lowB n (comB n A B)).length = A.length + B.length := by
  have h := sum_common hA hB (fun v => comB_span hA v)
  rwa [bas_lowB, bas_self pA, bas_self pB] at h
end Vf
namespace Vf
open PySem PySem.Spec PyProof.Rows L2
/-! ### rules within a comprehension: the written part told by name -/
section
variable {X : Cx} (K : PySem.W.Frag)
theorem op_inS (h : X.K = K := by rfl) : OpR X (compareOp .In) (rIn K false) := h ▸ op_in_seq
theorem op_ninS (h : X.K = K := by rfl) : OpR X (compareOp .NotIn) (rIn K true) := h ▸ op_notIn_seq
theorem op_eqDS (hu : X.A.units + 64 < cLine) (h : X.K = K := by rfl) : OpR X (compareOp .Eq) (rEqD K) := h ▸ op_eqD hu
theorem op_neDS (hu : X.A.units + 64 < cLine) (h : X.K = K := by rfl) : OpR X (compareOp .NotEq) (rNeD K) := h ▸ op_neD hu
theorem call_lenS (h : X.K = K := by rfl) : CallR X (.builtin "len") (fun xs H Q => ∃ p ys, xs = [.ref p] ∧ (SqL K H p ys ∨ SqT K H p ys) ∧ Q (.int ys.length) H) := h ▸ call_len_seq
theorem cr_sumS (hc : X.calm = true) (h : X.K = K := by rfl) : CallR X (.builtin "sum") (rSum K) := h ▸ cr_sum hc
theorem cr_allS (hc : X.calm = true) (h : X.K = K := by rfl) : CallR X (.builtin "all") (rAll K) := h ▸ cr_all hc
theorem cr_anyS (hc : X.calm = true) (h : X.K = K := by rfl) : CallR X (.builtin "any") (rAny K) := h ▸ cr_any hc
theorem cr_sortedS (h : X.K = K := by rfl) : CallR X (.builtin "sorted") (rSortedI K) := h ▸ cr_sortedI
theorem pi_listS {tg l : Expr} {tl : TE} (hl : PE X l tl) (h : X.K = K := by rfl) : PI X tg l (iList K tl) := h ▸ pi_list hl
theorem pi_tupS {tg l : Expr} {tl : TE} (hl : PE X l tl) (h : X.K = K := by rfl) : PI X tg l (iTup K tl) := h ▸ pi_tup hl
end
end Vf
namespace Vf
open PySem PySem.Spec PyProof.Rows L2
theorem ix_listS {X : Cx} (K : PySem.W.Frag) (h : X.K = K := by rfl) : IxR X (rIxL K) := h ▸ ix_list
theorem sl_listS {X : Cx} (K : PySem.W.Frag) (h : X.K = K := by rfl) : SlR X (rSlL K) := h ▸ sl_list
end Vf
namespace Vf
/-! ### equal rooms -/
theorem req {n m : Nat} {X Y : List Nat} (e : n = m) (hX : Plain X) (hY : Plain Y) (h : ∀ v, span X v ↔ span Y v) : n = m ∧ X = Y := ⟨e, plain_unique hX hY h⟩
theorem mod_law {A B L : List Nat} (h : ∀ v, span A v → span L v) (v : Nat) : (∃ a b, span A a ∧ (span B b ∧ span L b) ∧ v = a ^^^ b) ↔ (∃ a b, span A a ∧ span B b ∧ v = a ^^^ b) ∧ span L v := by
  constructor
  · rintro ⟨a, b, ha, ⟨hb, hl⟩, rfl⟩
    exact ⟨⟨a, b, ha, hb, rfl⟩, span_xor (h a ha) hl⟩
  · rintro ⟨⟨a, b, ha, hb, rfl⟩, hl⟩
    refine ⟨a, b, ha, ⟨hb, ?_⟩, rfl⟩
    have := span_xor (h a ha) hl
    rwa [← Nat.xor_assoc, Nat.xor_self, Nat.zero_xor] at this
end Vf
namespace Vf
/-! ### shortened, cut -/
section
variable {n w u v : Nat} {B : List Nat}
theorem and_whole (h : v < 2 ^ n) : v &&& (2 ^ n - 1) = v := by
  rw [Nat.and_two_pow_sub_one_eq_mod, Nat.mod_eq_of_lt h]
theorem off_whole (h : v < 2 ^ n) : v &&& ((2 ^ n - 1) ^^^ w) = 0 ↔ v &&& w = v := by
  rw [Nat.and_xor_distrib_left, and_whole h]
  exact ⟨fun k => (xor_zero_iff k).symm, fun k => by rw [k, Nat.xor_self]⟩
theorem whole_lt (n : Nat) : 2 ^ n - 1 < 2 ^ n := by
  have := Nat.two_pow_pos n
  omega
theorem short_cut (pl : Plain B) (hB : ∀ c ∈ B, c < 2 ^ n) : (lowB n (shoB n B w)).length + (bas (B.map (· &&& ((2 ^ n - 1) ^^^ w)))).length = B.length := by
  have h := rank_null (ws := B) (us := B.map (· &&& ((2 ^ n - 1) ^^^ w))) (ks := lowB n (shoB n B w)) (linF_and _) (fun v => span_map (linF_and _)) fun v => by
    rw [shoB_span hB]
    constructor
    · rintro ⟨h1, h2⟩
      exact ⟨h1, (off_whole (span_lt hB h1)).mpr h2⟩
    · rintro ⟨h1, h2⟩
      exact ⟨h1, (off_whole (span_lt hB h1)).mp h2⟩
  rw [bas_self pl, bas_lowB] at h
  omega
theorem and_sub {a b c : Nat} (h : a &&& (b &&& c) = a) : a &&& b = a ∧ a &&& c = a := by
  have e1 : (a &&& (b &&& c)) &&& b = a &&& b := by rw [h]
  have e2 : (a &&& (b &&& c)) &&& c = a &&& c := by rw [h]
  constructor
  · rw [← e1, Nat.and_assoc, Nat.and_comm b c, Nat.and_assoc, Nat.and_self, Nat.and_comm c b]
    exact h
  · rw [← e2, Nat.and_assoc, Nat.and_assoc, Nat.and_self]
    exact h
theorem and_sub' {a b c : Nat} (h1 : a &&& b = a) (h2 : a &&& c = a) : a &&& (b &&& c) = a := by rw [← Nat.and_assoc, h1, h2]
theorem cut_lt (hB : ∀ c ∈ B, c < 2 ^ n) : ∀ c ∈ bas (B.map (· &&& w)), c < 2 ^ n := bas_lt fun v hv => by
  obtain ⟨a, ha, rfl⟩ := List.mem_map.mp hv
  exact Nat.lt_of_le_of_lt Nat.and_le_left (hB a ha)
/-- words of the list, each changed by a sum-keeping map -/
theorem span_mapL {L : List Nat} {f : Nat → Nat} (hf : LinF f) (h : SpanL B L) (v : Nat) : span (L.map f) v ↔ ∃ a, span B a ∧ v = f a := by
  rw [span_map hf]
  have e : ∀ a, span L a ↔ span B a := fun a => ⟨span_sub fun w hw => (h.1 w).mp hw, span_sub fun w hw => span_mem ((h.1 w).mpr (span_mem hw))⟩
  exact ⟨fun ⟨a, ha, e1⟩ => ⟨a, (e a).mp ha, e1⟩, fun ⟨a, ha, e1⟩ => ⟨a, (e a).mpr ha, e1⟩⟩
end
end Vf

set_option Elab.async false
set_option linter.all false
set_option maxRecDepth 100000
set_option maxHeartbeats 4000000
namespace Vf
open PySem PySem.Spec PyProof.Rows L2
/-! ### words led by sequences of places -/
theorem pow_add_off {x a : Nat} (h : x.testBit a = false) : 2 ^ a + x = x ^^^ 2 ^ a := by
  have k := sub_mask (x ^^^ 2 ^ a) (2 ^ a)
  have e : (x ^^^ 2 ^ a) &&& 2 ^ a = 2 ^ a := by
    apply Nat.eq_of_testBit_eq
    intro i
    rw [Nat.testBit_and, Nat.testBit_xor, Nat.testBit_two_pow]
    by_cases q : a = i
    · subst q
      rw [h, decide_eq_true rfl]
      rfl
    · rw [decide_eq_false q, Bool.and_false]
  rw [e, xor_cancel] at k
  exact k
theorem sumPow_bit : ∀ {l : List Nat}, l.Nodup → ∀ j, ((l.map (2 ^ ·)).sum).testBit j = decide (j ∈ l)
  | [], _, j => by simp
  | a :: l, h, j => by
    obtain ⟨h1, h2⟩ := List.nodup_cons.mp h
    have ih := sumPow_bit (l := l) h2
    have off : ((l.map (2 ^ ·)).sum).testBit a = false := by rw [ih a, decide_eq_false h1]
    rw [List.map_cons, List.sum_cons, pow_add_off off, Nat.testBit_xor, ih j, Nat.testBit_two_pow]
    by_cases q : j = a
    · subst q
      simp [h1]
    · have q' : ¬ a = j := fun e => q e.symm
      simp [q, q']
theorem getD_el {s : List Nat} {i : Nat} (h : i < s.length) : s.getD i 0 = s[i] := by
  rw [List.getD_eq_getElem?_getD, List.getElem?_eq_getElem h]
  rfl
def ledL (s : List Nat) (w : Nat) : List Nat := ((List.range s.length).filter fun i => w.testBit i).map fun i => s.getD i 0
def ledN (s : List Nat) (w : Nat) : Nat := ((ledL s w).map (2 ^ ·)).sum
theorem getD_inj {s : List Nat} (h : s.Nodup) {i j : Nat} (hi : i < s.length) (hj : j < s.length) (e : s.getD i 0 = s.getD j 0) : i = j := by
  rw [getD_el hi, getD_el hj] at e
  rcases Nat.lt_trichotomy i j with k | k | k
  · exact absurd e (List.pairwise_iff_getElem.mp h i j hi hj k)
  · exact k
  · exact absurd e.symm (List.pairwise_iff_getElem.mp h j i hj hi k)
theorem ledL_nd {s : List Nat} (h : s.Nodup) (w : Nat) : (ledL s w).Nodup := by
  unfold ledL List.Nodup
  rw [List.pairwise_map]
  refine ((List.nodup_range (n := s.length)).filter _).imp_of_mem fun {a b} ha hb ne e => ne ?_
  exact getD_inj h (List.mem_range.mp (List.mem_filter.mp ha).1) (List.mem_range.mp (List.mem_filter.mp hb).1) e
theorem ledL_mem {s : List Nat} {w j : Nat} : j ∈ ledL s w ↔ ∃ i, i < s.length ∧ w.testBit i = true ∧ s.getD i 0 = j := by
  unfold ledL
  rw [List.mem_map]
  constructor
  · rintro ⟨i, hi, e⟩
    exact ⟨i, List.mem_range.mp (List.mem_filter.mp hi).1, (List.mem_filter.mp hi).2, e⟩
  · rintro ⟨i, h1, h2, e⟩
    exact ⟨i, List.mem_filter.mpr ⟨List.mem_range.mpr h1, h2⟩, e⟩
theorem ledN_at {s : List Nat} (h : s.Nodup) (w : Nat) {i : Nat} (hi : i < s.length) : (ledN s w).testBit (s.getD i 0) = w.testBit i := by
  unfold ledN
  rw [sumPow_bit (ledL_nd h w), Bool.eq_iff_iff, decide_eq_true_iff, ledL_mem]
  constructor
  · rintro ⟨j, h1, h2, e⟩
    rw [← getD_inj h h1 hi e]
    exact h2
  · exact fun k => ⟨i, hi, k, rfl⟩
theorem ledN_off {s : List Nat} (h : s.Nodup) (w : Nat) {j : Nat} (hj : ¬ ∃ i, i < s.length ∧ s.getD i 0 = j) : (ledN s w).testBit j = false := by
  unfold ledN
  rw [sumPow_bit (ledL_nd h w), decide_eq_false]
  rw [ledL_mem]
  rintro ⟨i, h1, _, e⟩
  exact hj ⟨i, h1, e⟩
theorem led_ext {s : List Nat} {x y : Nat} (hx : ∀ j, (¬ ∃ i, i < s.length ∧ s.getD i 0 = j) → x.testBit j = y.testBit j) (h : ∀ i, i < s.length → x.testBit (s.getD i 0) = y.testBit (s.getD i 0)) : x = y := by
  apply Nat.eq_of_testBit_eq
  intro j
  by_cases k : ∃ i, i < s.length ∧ s.getD i 0 = j
  · obtain ⟨i, hi, rfl⟩ := k
    exact h i hi
  · exact hx j k
theorem ledN_lin {s : List Nat} (h : s.Nodup) : LinF (ledN s) := fun a b => by
  refine led_ext (s := s) (fun j k => ?_) fun i hi => ?_
  · rw [Nat.testBit_xor, ledN_off h _ k, ledN_off h _ k, ledN_off h _ k]
    rfl
  · rw [Nat.testBit_xor, ledN_at h _ hi, ledN_at h _ hi, ledN_at h _ hi, Nat.testBit_xor]
theorem ledN_and {s : List Nat} (h : s.Nodup) (a b : Nat) : ledN s (a &&& b) = ledN s a &&& ledN s b := by
  refine led_ext (s := s) (fun j k => ?_) fun i hi => ?_
  · rw [Nat.testBit_and, ledN_off h _ k, ledN_off h _ k, ledN_off h _ k]
    rfl
  · rw [Nat.testBit_and, ledN_at h _ hi, ledN_at h _ hi, ledN_at h _ hi, Nat.testBit_and]
/-- a sequence of n places -/
structure Seq (n : Nat) (s : List Nat) : Prop where
  len : s.length = n
  nd : s.Nodup
  lt : ∀ x ∈ s, x < n
theorem Seq.of {n : Nat} {s : List Nat} (h : s.Perm (List.range n)) : Seq n s := ⟨by rw [h.length_eq, List.length_range], h.nodup_iff.mpr List.nodup_range, fun x hx => List.mem_range.mp (h.mem_iff.mp hx)⟩
theorem Seq.at {n : Nat} {s : List Nat} (h : Seq n s) {i : Nat} (hi : i < n) : s.getD i 0 < n := by
  have hi' : i < s.length := by rw [h.len]; exact hi
  rw [getD_el hi']
  exact h.lt _ (List.getElem_mem hi')
theorem Seq.onto {n : Nat} {s : List Nat} (h : Seq n s) {j : Nat} (hj : j < n) : ∃ i, i < s.length ∧ s.getD i 0 = j := by
  have e : ((List.range n).filter fun x => decide (x ∈ s)).length = s.length := len_same (List.nodup_range.filter _) h.nd fun x => by
    rw [List.mem_filter, decide_eq_true_iff, List.mem_range]
    exact ⟨fun k => k.2, fun k => ⟨h.lt x k, k⟩⟩
  have m : j ∈ s := by
    have e2 : ((List.range n).filter fun x => decide (x ∈ s)).length = (List.range n).length := by rw [e, h.len, List.length_range]
    have := List.length_filter_eq_length_iff.mp e2 j (List.mem_range.mpr hj)
    exact of_decide_eq_true this
  obtain ⟨i, hi, e⟩ := List.getElem_of_mem m
  exact ⟨i, hi, by rw [getD_el hi]; exact e⟩
theorem ledN_lt {n : Nat} {s : List Nat} (h : Seq n s) (w : Nat) : ledN s w < 2 ^ n := by
  apply Nat.lt_pow_two_of_testBit
  intro j hj
  refine ledN_off h.nd w ?_
  rintro ⟨i, hi, rfl⟩
  have := h.at (i := i) (by rw [← h.len]; exact hi)
  omega
theorem ledN_inj {n : Nat} {s : List Nat} (h : Seq n s) {a b : Nat} (ha : a < 2 ^ n) (hb : b < 2 ^ n) (e : ledN s a = ledN s b) : a = b := by
  apply Nat.eq_of_testBit_eq
  intro i
  by_cases hi : i < n
  · have hi' : i < s.length := by rw [h.len]; exact hi
    rw [← ledN_at h.nd a hi', ← ledN_at h.nd b hi', e]
  · rw [bit_hi ha (by omega), bit_hi hb (by omega)]
theorem ledN_comp {n : Nat} {s t : List Nat} (h : Seq n s) (k : Seq n t) {w : Nat} : ledN t (ledN s w) = ledN (s.map fun i => t.getD i 0) w := by
  have len : (s.map fun i => t.getD i 0).length = n := by rw [List.length_map, h.len]
  have gd : ∀ {i}, i < n → (s.map fun i => t.getD i 0).getD i 0 = t.getD (s.getD i 0) 0 := fun {i} hi => by
    rw [getD_el (by rw [len]; exact hi), List.getElem_map, getD_el (s := s) (by rw [h.len]; exact hi)]
  have nd : (s.map fun i => t.getD i 0).Nodup := by
    unfold List.Nodup
    rw [List.pairwise_map]
    refine h.nd.imp_of_mem fun {a b} ha hb ne e => ne ?_
    exact getD_inj k.nd (by rw [k.len]; exact h.lt a ha) (by rw [k.len]; exact h.lt b hb) e
  refine led_ext (s := s.map fun i => t.getD i 0) (fun j q => ?_) fun i hi => ?_
  · rw [ledN_off nd _ q]
    refine Bool.eq_false_iff.mpr fun z => q ?_
    have : ∃ m, m < t.length ∧ t.getD m 0 = j := by
      refine Decidable.by_contra fun q2 => ?_
      rw [ledN_off k.nd _ q2] at z
      cases z
    obtain ⟨m, hm, rfl⟩ := this
    obtain ⟨i, hi, rfl⟩ := h.onto (j := m) (by rw [← k.len]; exact hm)
    exact ⟨i, by rw [len, ← h.len]; exact hi, gd (by rw [← h.len]; exact hi)⟩
  · have hi' : i < n := by rw [← len]; exact hi
    rw [ledN_at nd _ hi, gd hi', ledN_at k.nd _ (by rw [k.len]; exact h.at hi'), ledN_at h.nd _ (by rw [h.len]; exact hi')]
theorem ledN_id {n : Nat} {s : List Nat} (h : Seq n s) (e : ∀ i, i < n → s.getD i 0 = i) {w : Nat} (hw : w < 2 ^ n) : ledN s w = w := by
  refine led_ext (s := s) (fun j q => ?_) fun i hi => ?_
  · rw [ledN_off h.nd _ q]
    by_cases hj : j < n
    · exact absurd ⟨j, by rw [h.len]; exact hj, e j hj⟩ q
    · rw [bit_hi hw (by omega)]
  · have hi' : i < n := by rw [← h.len]; exact hi
    rw [ledN_at h.nd _ hi, e i hi']
theorem spots_mem (w i : Nat) : i ∈ spots w ↔ i < 24 ∧ w.testBit i = true := by
  unfold spots spotsK
  rw [List.mem_filter, List.mem_range]
theorem ledN_pc {n : Nat} {s : List Nat} (h : Seq n s) (h24 : n ≤ 24) {w : Nat} (hw : w < 2 ^ n) : pc (ledN s w) = pc w := by
  rw [← spots_len, ← spots_len]
  have e : (spots (ledN s w)).length = (ledL s w).length := len_same (spots_nd _) (ledL_nd h.nd w) fun j => by
    rw [spots_mem]
    unfold ledN
    rw [sumPow_bit (ledL_nd h.nd w), decide_eq_true_iff]
    refine ⟨fun k => k.2, fun k => ⟨?_, k⟩⟩
    obtain ⟨i, hi, _, rfl⟩ := ledL_mem.mp k
    have := h.at (i := i) (by rw [← h.len]; exact hi)
    omega
  rw [e]
  unfold ledL
  rw [List.length_map]
  refine len_same ((List.nodup_range).filter _) (spots_nd w) fun j => ?_
  rw [spots_mem, List.mem_filter, List.mem_range, h.len]
  constructor
  · rintro ⟨a, b⟩
    exact ⟨by omega, b⟩
  · rintro ⟨a, b⟩
    refine ⟨Nat.lt_of_not_le fun k => ?_, b⟩
    rw [bit_hi hw k] at b
    cases b
theorem spots_led {n : Nat} {s : List Nat} (hl : s.length = n) (h24 : n ≤ 24) {w : Nat} (hw : w < 2 ^ n) : (spots w).map (fun i => s.getD i 0) = ledL s w := by
  unfold ledL spots spotsK
  congr 1
  have e : List.range 24 = List.range n ++ (List.range (24 - n)).map (n + ·) := by
    rw [← List.range_add]
    congr 1
    omega
  rw [e, List.filter_append, hl]
  rw [show ((List.range (24 - n)).map (n + ·)).filter (fun i => w.testBit i) = [] from ?_, List.append_nil]
  rw [List.filter_eq_nil_iff]
  intro x hx
  obtain ⟨i, _, rfl⟩ := List.mem_map.mp hx
  rw [bit_hi hw (by omega)]
  simp

/-! ### what the defs of words mean -/
variable {W : Wd}
section
variable {C : Addr} {n m w : Nat} {B l s : List Nat}
/-- a list or a tuple of numbers -/
def dLT (l : List Nat) : Dn W := ⟨fun v H => ∃ a, v = .ref a ∧ W.F a ∧ Sq H a (vs l), fun st ⟨a, e, g, h⟩ => ⟨a, e, g, h.imp (W.keep g st) (W.keep g st)⟩⟩
theorem lt_of_L {Ds : EnvT W} {te : TE} (h : EV Ds te (dVs l)) : EV Ds te (dLT l) := ev_wk h fun v H ⟨a, e, g, h⟩ => ⟨a, e, g, .inl h⟩
theorem lt_of_T {Ds : EnvT W} {te : TE} (h : EV Ds te (dTup (vs l))) : EV Ds te (dLT l) := ev_wk h fun v H ⟨a, e, g, h⟩ => ⟨a, e, g, .inr h⟩
theorem sd_weight (h : m < 2 ^ 24) : SpD (W := W) sp_weight [] [dN m] (dN (pc m)) := fun vs H Q iv o q => by
  match vs, o with
  | [v], ⟨e, _⟩ =>
    rw [show v = V.int (m : Int) from e]
    exact ⟨m, rfl, h, q _ H (W.refl H) rfl⟩
theorem sd_are_even (h1 : m < 2 ^ 24) (h2 : n < 2 ^ 24) : SpD (W := W) sp_are_even [] [dN m, dN n] (dB (decide (pc (m &&& n) % 2 = 0))) := fun vs H Q iv o q => by
  match vs, o with
  | [v, u], ⟨e1, e2, _⟩ =>
    rw [show v = V.int (m : Int) from e1, show u = V.int (n : Int) from e2]
    exact ⟨m, n, rfl, h1, h2, q _ H (W.refl H) rfl⟩
theorem sd_places_of (h : m < 2 ^ 24) : SpD (W := W) sp_places_of [] [dN m] (dVs (spots m)) := fun vs H Q iv o q => by
  match vs, o with
  | [v], ⟨e, _⟩ =>
    rw [show v = V.int (m : Int) from e]
    exact ⟨m, rfl, h, fun H' p s np e => q _ H' (W.same s) ⟨p, rfl, W.fresh iv np, e⟩⟩
theorem sd_are_spots (nd : l.Nodup) (h : ∀ i ∈ l, i < n) (hl : l.length ≤ 24) : SpD (W := W) sp_are_spots [] [dN n, dLT l] (dB true) := fun vs H Q iv o q => by
  match vs, o with
  | [v, u], ⟨e1, ⟨a, e2, g, hs⟩, _⟩ =>
    subst e2
    rw [show v = V.int (n : Int) from e1]
    exact ⟨a, l, n, rfl, hs, nd, h, hl, fun H' s => q _ H' (W.same s) rfl⟩
theorem sd_word_of (nd : l.Nodup) (h : ∀ i ∈ l, i < 24) (hl : l.length ≤ 24) : SpD (W := W) sp_word_of [] [dLT l] (dN (l.map (2 ^ ·)).sum) := fun vs H Q iv o q => by
  match vs, o with
  | [u], ⟨⟨a, e2, g, hs⟩, _⟩ =>
    subst e2
    exact ⟨a, l, rfl, hs, nd, h, hl, fun H' s => q _ H' (W.same s) rfl⟩
theorem cd_lenLT {K : PySem.W.Frag} : CrD (W := W) (fun xs H Q => ∃ p ys, xs = [.ref p] ∧ (SqL K H p ys ∨ SqT K H p ys) ∧ Q (.int ys.length) H) [dLT l] (dN l.length) := fun vs H Q iv o q => by
  match vs, o with
  | [v], ⟨⟨p, e, g, h⟩, _⟩ =>
    subst e
    exact ⟨p, _, rfl, h.len, by rw [len_vs]; exact q _ H (W.refl H) rfl⟩
theorem ix_seqS {X : Cx} (K : PySem.W.Frag) (h : X.K = K := by rfl) : IxR X (rIx K) := h ▸ ix_seq
theorem od_ixLT {K : PySem.W.Frag} {k : Nat} (h : k < l.length) : OpD (W := W) (rIx K) (dLT l) (dN k) (dN (l.getD k 0)) := fun u v H Q iv ⟨p, e1, g1, h1⟩ e2 q => by
  subst e1
  rw [show v = V.int (k : Int) from e2]
  have e3 : atI (vs l) (k : Int) = some (.int ((l.getD k 0 : Nat) : Int)) := atI_nat (j := k) (by
    unfold Vf.vs
    rw [List.getElem?_map, List.getElem?_eq_getElem h, getD_el h]
    rfl)
  rcases h1 with h1 | h1
  · exact .inl ⟨p, _, k, _, rfl, rfl, SqL.of h1, e3, q _ H (W.refl H) rfl⟩
  · exact .inr (.inl ⟨p, _, k, _, rfl, rfl, .inl (.inl h1), e3, q _ H (W.refl H) rfl⟩)
theorem od_ixN {K : PySem.W.Frag} {k : Nat} (h : k < l.length) : OpD (W := W) (rIxL K) (dVs l) (dN k) (dN (l.getD k 0)) := od_ixL (by rw [List.getElem?_eq_getElem h, getD_el h])
structure LedP (i : Nat × List Nat) : Prop where
  nd : i.2.Nodup
  lt : ∀ x ∈ i.2, x < 24
  w : i.1 < 2 ^ i.2.length
  len : i.2.length ≤ 24
def sp_led : Sp := spW (ι := Nat × List Nat) (fun _ i => LedP i) (fun _ i => [dN i.1, dLT i.2]) fun _ i => dN (ledN i.2 i.1)
theorem sd_led {n : Nat} (h : Seq n s) (h24 : n ≤ 24) (hw : w < 2 ^ n) : SpD sp_led [] [(dN w : Dn W), dLT s] (dN (ledN s w)) := spW_sd (i := (w, s)) ⟨h.nd, fun x hx => Nat.lt_of_lt_of_le (h.lt x hx) h24, by rw [h.len]; exact hw, by rw [h.len]; exact h24⟩
def exB (B s : List Nat) : List Nat := B.map (ledN s)
def sp_is_seq : Sp := spW (ι := Nat × List Nat) (fun _ i => Seq i.1 i.2 ∧ i.1 ≤ 24) (fun _ i => [dN i.1, dLT i.2]) fun _ _ => dB true
theorem sd_is_seq {n : Nat} (h : Seq n s) (h24 : n ≤ 24) : SpD sp_is_seq [] [(dN n : Dn W), dLT s] (dB true) := spW_sd (i := (n, s)) ⟨h, h24⟩
def sp_exchanged (C : Addr) : Sp := spW (ι := Nat × List Nat × List Nat) (fun _ i => Seq i.1 i.2.2) (fun _ i => [dRoom C i.1 i.2.1, dLT i.2.2]) fun _ i => dRoom C i.1 (bas (exB i.2.1 i.2.2))
theorem sd_exchanged (h : Seq n s) : SpD (sp_exchanged C) [] [(dRoom C n B : Dn W), dLT s] (dRoom C n (bas (exB B s))) := spW_sd (i := (n, B, s)) h
theorem exB_span (h : Seq n s) (v : Nat) : span (bas (exB B s)) v ↔ ∃ a, span B a ∧ v = ledN s a := by
  unfold exB
  rw [bas_span, span_map (ledN_lin h.nd)]
theorem exB_lt (h : Seq n s) : ∀ c ∈ exB B s, c < 2 ^ n := fun c hc => by
  obtain ⟨a, _, rfl⟩ := List.mem_map.mp hc
  exact ledN_lt h a
end
end Vf

namespace Vf
open PySem PySem.Spec PyProof.Rows L2
variable {W : Wd}
section
variable {Ds Es Fs : EnvT W} {d : Dn W} {te : TE} {ta : TA} {ts t1 t2 tu : TS} {n i j : Nat} {K : PySem.W.Frag} {l : List Nat}
theorem rg_vs (n : Nat) : rgV 0 (n : Int) = vs (List.range n) := by
  unfold rgV vs
  rw [show ((n : Int) - 0).toNat = n by omega]
  refine List.map_congr_left fun i _ => ?_
  rw [Int.zero_add]
theorem ev_listRg (hn : n ≤ 100000) (h : EV Ds te (dN n)) : EV Ds (tLstRg (tRg1 te)) (dVs (List.range n)) := fun σ H Q iv en q => h σ H _ iv en fun v H1 l1 o1 => by
  have iv1 := W.step l1 iv
  refine ⟨n, o1, RgOk.of_le (by omega) (by omega) (by omega) (by omega), fun p np => q _ _ (W.trans l1 (W.put iv1 (W.refl _) np)) ⟨p, rfl, W.fresh iv1 np, ?_⟩⟩
  rw [upd_same, rg_vs]
theorem ev_tupRg (hn : n ≤ 100000) (h : EV Ds te (dN n)) : EV Ds (tTupRg (tRg1 te)) (dTup (vs (List.range n))) := fun σ H Q iv en q => h σ H _ iv en fun v H1 l1 o1 => by
  have iv1 := W.step l1 iv
  refine ⟨n, o1, RgOk.of_le (by omega) (by omega) (by omega) (by omega), fun p np => q _ _ (W.trans l1 (W.put iv1 (W.refl _) np)) ⟨p, rfl, W.fresh iv1 np, ?_⟩⟩
  rw [upd_same, rg_vs]
/-- a block of two statements -/
theorem sv_seq2 (h : NV Ds (tSeq t1 t2) Es) (k : SV Es tu d) : SV Ds (tSeq t1 (tSeq t2 tu)) d := sv_seq (ts := tSeq t1 t2) h k
theorem nv_seq2 (h : NV Ds (tSeq t1 t2) Es) (k : NV Es tu Fs) : NV Ds (tSeq t1 (tSeq t2 tu)) Fs := nv_seq (ts := tSeq t1 t2) h k
/-- for at, to in enumerate(l): what holds by the turn -/
theorem nv_enum (E : Nat → EnvT W) (hl : AV Ds ta [dVs l]) (h0 : ∀ σ H, EnvL Ds σ H → EnvL (E 0) σ H) (hb : ∀ k x, l[k]? = some x → NV (((E k).set i (some (dN k))).set j (some (dN x))) ts (E (k + 1))) :
    NV Ds (tFor (iEnum K ta) (gTup K 2 (gCons (gName i) (gCons (gName j) gNil))) ts) (E l.length) := fun D σ H iv en q =>
  hl σ H _ iv en fun vs0 H1 l1 o1 => by
    match vs0, o1 with
    | [v], ⟨⟨a, e, g, h⟩, _⟩ =>
      subst e
      refine ⟨a, _, rfl, SqL.of h, fun k m σ' H' => k + m = l.length ∧ W.L H1 H' ∧ EnvL (E k) σ' H', ⟨l.length, Nat.zero_add _, W.refl H1, h0 _ _ (en.st l1)⟩, fun k m σ' H' hW => ?_⟩
      obtain ⟨km, lP, eP⟩ := hW
      have iv1 := W.step l1 iv
      have iv' := W.step lP iv1
      have hL : SqL K H' a (vs l) := SqL.of (W.keep g lP h)
      by_cases hk : k < l.length
      · have hx : (vs l)[k]? = some (.int ((l[k] : Nat) : Int)) := by
          unfold Vf.vs
          rw [List.getElem?_map, List.getElem?_eq_getElem hk]
          rfl
        refine .inr ⟨⟨_, _, hL, hx⟩, fun σ2 H2 => W.L H1 H2 ∧ EnvL (E (k + 1)) σ2 H2, fun σ2 H2 hN => ⟨m - 1, by omega, by omega, hN.1, hN.2⟩, fun x H2 hy => ?_⟩
        obtain ⟨T, x1, rfl, nT, rfl, fx⟩ := hy
        have e1 : x1 = .int ((l[k] : Nat) : Int) := by
          have h2 : (vs l)[k]? = some x1 := fx _ hL
          rw [hx] at h2
          exact (Option.some.inj h2).symm
        subst e1
        have l3 : W.L H' (upd H' T (.tup [.int (k : Nat), .int ((l[k] : Nat) : Int)])) := W.put iv' (W.refl _) nT
        refine ⟨T, _, rfl, .inl (.inl upd_same), rfl, _, _, rfl, _, _, rfl, rfl, ?_⟩
        refine hb k l[k] (List.getElem?_eq_getElem hk) _ _ _ (W.step l3 iv') (((eP.st l3).set rfl).set rfl) fun σ2 H2 l2 e2 => ⟨W.trans lP (W.trans l3 l2), e2⟩
      · have kl : k = l.length := by omega
        subst kl
        exact .inl ⟨⟨_, hL, by rw [len_vs]; exact Nat.le_refl _⟩, q σ' H' (W.trans l1 lP) eP⟩
end
end Vf

set_option Elab.async false
set_option linter.all false
set_option maxRecDepth 100000
set_option maxHeartbeats 4000000
namespace Vf
open PySem PySem.Spec PyProof.Rows L2
variable {W : Wd}
/-! ### fewer meanings -/
def AllIn (Gs : EnvT W) : List (Nat × Dn W) → Prop
  | [] => True
  | p :: r => Gs.get p.1 = some p.2 ∧ AllIn Gs r
theorem getE_in {Gs : EnvT W} : ∀ {l : List (Nat × Dn W)} {i : Nat} {d : Dn W}, AllIn Gs l → getE l i = some d → Gs.get i = some d
  | [], _, _, _, e => by cases e
  | (j, c) :: l, i, d, ⟨h1, h2⟩, e => by
    have e : (bif Nat.beq j i then some c else getE l i) = some d := e
    cases k : Nat.beq j i with
    | true =>
      rw [k] at e
      have e : some c = some d := e
      have := Nat.eq_of_beq_eq_true k
      subst this
      rw [← e]
      exact h1
    | false =>
      rw [k] at e
      exact getE_in h2 e
theorem EnvL.sub {Gs Es : EnvT W} {σ : L2.St} {H : Hp} (h : EnvL Gs σ H) (hn : Es.n = Gs.n) (k : AllIn Gs Es.l) : EnvL Es σ H := ⟨h.1.trans hn.symm, fun i d e lt => h.2 i d (getE_in k e) lt⟩
section
variable {Ds Es Fs Gs : EnvT W} {d : Dn W} {te : TE} {ta : TA} {tt : TT} {ts t1 t2 tu : TS} {n i j : Nat} {K : PySem.W.Frag} {l : List Nat}
theorem nv_sub (h : NV Ds ts Gs) (hn : Es.n = Gs.n) (k : AllIn Gs Es.l) : NV Ds ts Es := fun D σ H iv en q => h D σ H iv en fun σ' H' l e => q σ' H' l (e.sub hn k)
/-! ### words led, by the law's own -/
def ledK (s : List Nat) (w k : Nat) : Nat := ((((List.range k).filter fun i => w.testBit i).map fun i => s.getD i 0).map (2 ^ ·)).sum
theorem ledK_all (s : List Nat) (w : Nat) : ledK s w s.length = ledN s w := rfl
theorem ledK_step (s : List Nat) (w k : Nat) : ledK s w (k + 1) = if w.testBit k = true then ledK s w k + 2 ^ s.getD k 0 else ledK s w k := by
  unfold ledK
  rw [List.range_succ, List.filter_append, List.map_append, List.map_append, List.sum_append]
  by_cases h : w.testBit k = true
  · rw [if_pos h, List.filter_cons_of_pos h]
    simp
  · rw [if_neg h, List.filter_cons_of_neg h]
    simp
theorem bit_one (w k : Nat) : (w / 2 ^ k) &&& 1 = 1 ↔ w.testBit k = true := by
  rw [Nat.testBit_eq_decide_div_mod_eq, Nat.and_one_is_mod, decide_eq_true_iff]
def sp_lled : Sp := spW (ι := Nat × List Nat) (fun _ i => ∀ x ∈ i.2, x ≤ 1000) (fun _ i => [dN i.1, dVs i.2]) fun _ i => dN (ledN i.2 i.1)
theorem sd_lled {w : Nat} {s : List Nat} (h : Seq n s) (h24 : n ≤ 24) : SpD sp_lled [] [(dN w : Dn W), dVs s] (dN (ledN s w)) := spW_sd (i := (w, s)) fun x hx => by
  have := h.lt x hx
  omega
def sp_lweight : Sp := fun vs0 H Q _ => ∃ m : Nat, vs0 = [.int (m : Int)] ∧ m < 2 ^ 24 ∧ ∀ H', Same H H' → Q (.int ((pc m : Nat) : Int)) H'
theorem sd_lweight {m : Nat} (h : m < 2 ^ 24) : SpD (W := W) sp_lweight [] [dN m] (dN (pc m)) := fun vs H Q iv o q => by
  match vs, o with
  | [v], ⟨e, _⟩ =>
    rw [show v = V.int (m : Int) from e]
    exact ⟨m, rfl, h, fun H' s => q _ H' (W.same s) rfl⟩
theorem od_rep {k : Nat} {l : List Nat} (h : l.length * k ≤ 100000) (hk : k ≤ 100000) : OpD (W := W) rRep (dVs l) (dN k) (dVs (List.replicate k l).flatten) := fun u v H Q iv ⟨a, e1, g1, h1⟩ e2 q => by
  subst e1
  rw [show v = V.int (k : Int) from e2]
  refine ⟨a, k, _, rfl, rfl, h1, by omega, by omega, by rw [len_vs, Int.toNat_natCast]; exact Nat.le_of_lt (sl_lt h), fun p np => q _ _ (W.put iv (W.refl H) np) ⟨p, rfl, W.fresh iv np, ?_⟩⟩
  rw [upd_same, Int.toNat_natCast]
  unfold vs
  rw [List.map_flatten, List.map_replicate]
end
/-! ### the sequence that leads back, and one behind another, made in one loop -/
def bkK (n : Nat) (s : List Nat) : Nat → List Nat
  | 0 => List.replicate n 0
  | k + 1 => (bkK n s k).set (s.getD k 0) k
theorem bkK_len (n : Nat) (s : List Nat) : ∀ k, (bkK n s k).length = n
  | 0 => List.length_replicate
  | k + 1 => by
    show ((bkK n s k).set _ _).length = n
    rw [List.length_set, bkK_len n s k]
theorem bkK_at {n : Nat} {s : List Nat} (h : Seq n s) : ∀ k, k ≤ n → ∀ i, i < k → (bkK n s k).getD (s.getD i 0) 0 = i
  | 0, _, i, hi => by omega
  | k + 1, hk, i, hi => by
    have lt : s.getD i 0 < (bkK n s k).length := by rw [bkK_len]; exact h.at (by omega)
    show ((bkK n s k).set (s.getD k 0) k).getD (s.getD i 0) 0 = i
    rw [List.getD_eq_getElem?_getD]
    by_cases e : i = k
    · subst e
      rw [List.getElem?_set_self lt]
      rfl
    · have ne : s.getD k 0 ≠ s.getD i 0 := fun z => e (getD_inj h.nd (by rw [h.len]; omega) (by rw [h.len]; omega) z).symm
      rw [List.getElem?_set_ne ne, ← List.getD_eq_getElem?_getD]
      exact bkK_at h k (by omega) i (by omega)
theorem bkK_seq {n : Nat} {s : List Nat} (h : Seq n s) : Seq n (bkK n s n) := by
  have at_ := bkK_at h n (Nat.le_refl n)
  have val : ∀ j, j < n → ∃ i, i < n ∧ s.getD i 0 = j ∧ (bkK n s n).getD j 0 = i := fun j hj => by
    obtain ⟨i, hi, e⟩ := h.onto hj
    have hi' : i < n := by rw [← h.len]; exact hi
    exact ⟨i, hi', e, by rw [← e]; exact at_ i hi'⟩
  refine ⟨bkK_len n s n, ?_, fun x hx => ?_⟩
  · refine List.pairwise_iff_getElem.mpr fun a b ha hb lt e => ?_
    rw [bkK_len] at ha hb
    obtain ⟨i, _, e1, e2⟩ := val a ha
    obtain ⟨j, _, e3, e4⟩ := val b hb
    rw [getD_el (by rw [bkK_len]; exact ha)] at e2
    rw [getD_el (by rw [bkK_len]; exact hb)] at e4
    have : i = j := by rw [← e2, ← e4]; exact e
    subst this
    omega
  · obtain ⟨j, hj, rfl⟩ := List.getElem_of_mem hx
    rw [bkK_len] at hj
    obtain ⟨i, hi, _, e⟩ := val j hj
    rw [getD_el (by rw [bkK_len]; exact hj)] at e
    rw [e]
    exact hi
theorem bk_back {n : Nat} {s : List Nat} (h : Seq n s) {w : Nat} (hw : w < 2 ^ n) : ledN (bkK n s n) (ledN s w) = w := by
  rw [ledN_comp h (bkK_seq h)]
  have len : (s.map fun i => (bkK n s n).getD i 0).length = n := by rw [List.length_map, h.len]
  have e : ∀ i, i < n → (s.map fun i => (bkK n s n).getD i 0).getD i 0 = i := fun i hi => by
    rw [getD_el (by rw [len]; exact hi), List.getElem_map, ← getD_el (s := s) (by rw [h.len]; exact hi)]
    exact bkK_at h n (Nat.le_refl n) i hi
  refine ledN_id (n := n) ⟨len, ?_, fun x hx => ?_⟩ e hw
  · refine List.pairwise_iff_getElem.mpr fun a b ha hb lt z => ?_
    have e1 := e a (by rw [← len]; exact ha)
    have e2 := e b (by rw [← len]; exact hb)
    rw [getD_el ha] at e1
    rw [getD_el hb] at e2
    have : a = b := by rw [← e1, ← e2]; exact z
    omega
  · obtain ⟨j, hj, rfl⟩ := List.getElem_of_mem hx
    have e1 := e j (by rw [← len]; exact hj)
    rw [getD_el hj] at e1
    rw [e1, ← len]
    exact hj
theorem comp_seq {n : Nat} {s t : List Nat} (h : Seq n s) (k : Seq n t) : Seq n (s.map fun i => t.getD i 0) := by
  refine ⟨by rw [List.length_map, h.len], ?_, fun x hx => ?_⟩
  · unfold List.Nodup
    rw [List.pairwise_map]
    refine h.nd.imp_of_mem fun {a b} ha hb ne e => ne ?_
    exact getD_inj k.nd (by rw [k.len]; exact h.lt a ha) (by rw [k.len]; exact h.lt b hb) e
  · obtain ⟨i, hi, rfl⟩ := List.mem_map.mp hx
    exact k.at (h.lt i hi)
end Vf

set_option Elab.async false
set_option linter.all false
set_option maxRecDepth 100000
set_option maxHeartbeats 4000000
namespace Vf
open PySem PySem.Spec PyProof.Rows L2
/-! ### lists that a def makes and changes: cells, by slot and content -/
theorem upd_del {H : Hp} {p : Addr} {o : HO} (h : H p = some o) : upd (del p H) p o = H := by
  funext b
  by_cases e : b = p
  · subst e
    rw [upd_same, h]
  · rw [upd_ne e, del_ne e]
theorem del_upd {H : Hp} {p : Addr} {o : HO} (h : H p = none) : del p (upd H p o) = H := by
  funext b
  by_cases e : b = p
  · subst e
    rw [del_same, h]
  · rw [del_ne e, upd_ne e]
theorem del_updS {H : Hp} {p : Addr} {o : HO} : del p (upd H p o) = del p H := by
  funext b
  by_cases e : b = p
  · subst e
    rw [del_same, del_same]
  · rw [del_ne e, del_ne e, upd_ne e]
variable {W : Wd}
theorem L_del {H : Hp} {p : Addr} {o : HO} (iv : W.inv (del p H)) (h : H p = some o) : W.L (del p H) H := by
  have := W.put (o := o) iv (W.refl (del p H)) del_same
  rwa [upd_del h] at this
/-- a list made anew -/
def FL (Ds : EnvT W) (te : TE) (xs : List V) : Prop := ∀ (σ : L2.St) (H : Hp) (Q : VK), W.inv H → EnvL Ds σ H → (∀ p H', H p = none → W.F p → W.L H (del p H') → H' p = some (.lst xs) → Q (.ref p) H') → te σ H Q
/-- the cells of σ in H; without them the heap is G -/
def CE (W : Wd) : List (Nat × List V) → L2.St → Hp → Hp → Prop
  | [], _, H, G => G = H
  | c :: cs, σ, H, G => ∃ p, σ[c.1]? = some (some (.ref p)) ∧ W.F p ∧ H p = some (.lst c.2) ∧ CE W cs σ (del p H) G
def withC (Ds : EnvT W) : List (Nat × List V) → EnvT W
  | [] => Ds
  | c :: cs => (withC Ds cs).set c.1 (some (dLst c.2))
theorem CE.up : ∀ {cs : List (Nat × List V)} {σ : L2.St} {H G : Hp}, CE W cs σ H G → W.inv G → W.L G H
  | [], σ, H, G, h, iv => by
    have h : G = H := h
    subst h
    exact W.refl _
  | c :: cs, σ, H, G, ⟨p, e, f, hp, h⟩, iv => by
    have l := CE.up h iv
    exact W.trans l (L_del (W.step l iv) hp)
theorem set_id {σ : L2.St} {i : Nat} {v : Option V} (h : σ[i]? = some v) : σ.set i v = σ := by
  obtain ⟨lt, e⟩ := List.getElem?_eq_some_iff.mp h
  rw [← e]
  exact List.set_getElem_self lt
theorem CE.env {Ds : EnvT W} : ∀ {cs : List (Nat × List V)} {σ : L2.St} {H G : Hp}, CE W cs σ H G → W.inv G → EnvL Ds σ G → EnvL (withC Ds cs) σ H
  | [], σ, H, G, h, iv, en => by
    have h : G = H := h
    subst h
    exact en
  | c :: cs, σ, H, G, ⟨p, e, f, hp, h⟩, iv, en => by
    have l := CE.up h iv
    have k := (CE.env h iv en).st (L_del (W.step l iv) hp)
    have := EnvL.set (d := dLst c.2) (v := .ref p) (i := c.1) ⟨p, rfl, f, hp⟩ k
    rwa [set_id e] at this
theorem CE.go : ∀ {cs : List (Nat × List V)} {σ : L2.St} {H H1 G : Hp}, CE W cs σ H G → W.L H H1 → ∃ G1, CE W cs σ H1 G1 ∧ W.L G G1
  | [], σ, H, H1, G, h, l => by
    have h : G = H := h
    subst h
    exact ⟨H1, rfl, l⟩
  | c :: cs, σ, H, H1, G, ⟨p, e, f, hp, h⟩, l => by
    obtain ⟨G1, h1, l1⟩ := CE.go h (W.delL f l)
    exact ⟨G1, ⟨p, e, f, W.keep f l hp, h1⟩, l1⟩
theorem CE.slot {v : Option V} {j : Nat} : ∀ {cs : List (Nat × List V)} {σ : L2.St} {H G : Hp}, CE W cs σ H G → (cs.all fun c => !(Nat.beq c.1 j)) = true → CE W cs (σ.set j v) H G
  | [], σ, H, G, h, _ => h
  | c :: cs, σ, H, G, ⟨p, e, f, hp, h⟩, k => by
    rw [List.all_cons, Bool.and_eq_true] at k
    have ne : j ≠ c.1 := fun z => by
      subst z
      rw [Nat.beq_refl] at k
      cases k.1
    exact ⟨p, by rw [List.getElem?_set_ne ne]; exact e, f, hp, CE.slot h k.2⟩
/-- a cell's new content -/
def setC (cs : List (Nat × List V)) (i : Nat) (xs : List V) : List (Nat × List V) := match cs with
  | [] => []
  | c :: cs => bif Nat.beq c.1 i then (i, xs) :: cs else c :: setC cs i xs
def getC (cs : List (Nat × List V)) (i : Nat) : Option (List V) := match cs with
  | [] => none
  | c :: cs => bif Nat.beq c.1 i then some c.2 else getC cs i
theorem del_del {H : Hp} {p q : Addr} : del p (del q H) = del q (del p H) := by
  funext b
  unfold del
  split <;> split <;> rfl
theorem del_upd_ne {H : Hp} {p q : Addr} {o : HO} (n : q ≠ p) : del p (upd H q o) = upd (del p H) q o := by
  funext b
  unfold del upd
  by_cases e : b = q
  · subst e
    rw [if_neg n, if_pos rfl, if_pos rfl]
  · rw [if_neg e, if_neg e]
theorem CE.change {xs ys : List V} {i : Nat} : ∀ {cs : List (Nat × List V)} {σ : L2.St} {H G : Hp}, CE W cs σ H G → getC cs i = some xs → ∃ p, σ[i]? = some (some (.ref p)) ∧ H p = some (.lst xs) ∧ CE W (setC cs i ys) σ (upd H p (.lst ys)) G
  | [], σ, H, G, h, e => by cases e
  | c :: cs, σ, H, G, ⟨p, e, f, hp, h⟩, g => by
    have g : (bif Nat.beq c.1 i then some c.2 else getC cs i) = some xs := g
    show ∃ q, _ ∧ _ ∧ CE W (bif Nat.beq c.1 i then (i, ys) :: cs else c :: setC cs i ys) σ _ G
    cases k : Nat.beq c.1 i with
    | true =>
      have ei := Nat.eq_of_beq_eq_true k
      rw [k] at g
      have g : some c.2 = some xs := g
      cases g
      subst ei
      exact ⟨p, e, hp, p, e, f, upd_same, by rw [del_updS]; exact h⟩
    | false =>
      rw [k] at g
      obtain ⟨q, e2, hq, h2⟩ := CE.change (ys := ys) h g
      obtain ⟨nq, hq⟩ := del_some hq
      refine ⟨q, e2, hq, p, e, f, by rw [upd_ne (Ne.symm nq)]; exact hp, ?_⟩
      rw [del_upd_ne nq]
      exact h2
/-! ### judgements with cells -/
def NVC (Ds : EnvT W) (cs : List (Nat × List V)) (ts : TS) (Es : EnvT W) (cs' : List (Nat × List V)) : Prop := ∀ (D : Ends) (σ : L2.St) (H G : Hp), CE W cs σ H G → W.inv G → EnvL Ds σ G →
  (∀ σ' H' G', CE W cs' σ' H' G' → W.L G G' → EnvL Es σ' G' → D.nx σ' H') → ts D σ H
def SVC (Ds : EnvT W) (cs : List (Nat × List V)) (ts : TS) (d : Dn W) : Prop := ∀ (D : Ends) (σ : L2.St) (H G : Hp), CE W cs σ H G → W.inv G → EnvL Ds σ G → (∀ v H', W.L G H' → d.ok v H' → D.rt v H') → ts D σ H
def Pu (d : Dn W) : Prop := ∀ v H H', d.ok v H → d.ok v H'
theorem pu_V (v : V) : Pu (dV v : Dn W) := fun _ _ _ h => h
section
variable {Ds Es Fs : EnvT W} {cs cs1 cs2 : List (Nat × List V)} {d d1 d2 : Dn W} {te ti tl : TE} {t ta : TA} {tt : TT} {ts tu t1 t2 : TS} {i j k n : Nat} {K : PySem.W.Frag} {xs ys zs : List V} {l : List Nat}
theorem svc_seq (h : NVC Ds cs ts Es cs1) (k : SVC Es cs1 tu d) : SVC Ds cs (tSeq ts tu) d := fun D σ H G ce iv en q =>
  h _ σ H G ce iv en fun σ' H' G' ce' l e' => k D σ' H' G' ce' (W.step l iv) e' fun v H2 l2 o => q v H2 (W.trans l l2) o
theorem nvc_seq (h : NVC Ds cs ts Es cs1) (k : NVC Es cs1 tu Fs cs2) : NVC Ds cs (tSeq ts tu) Fs cs2 := fun D σ H G ce iv en q =>
  h _ σ H G ce iv en fun σ' H' G' ce' l e' => k D σ' H' G' ce' (W.step l iv) e' fun σ2 H2 G2 c2 l2 e2 => q σ2 H2 G2 c2 (W.trans l l2) e2
theorem nvc_next : NVC Ds cs tNext Ds cs := fun D σ H G ce iv en q => q σ H G ce (W.refl G) en
/-- the cells are lists as others from here on -/
theorem svc_end (h : SV (withC Ds cs) ts d) : SVC Ds cs ts d := fun D σ H G ce iv en q =>
  h D σ H (W.step (ce.up iv) iv) (ce.env iv en) fun v H' l o => q v H' (W.trans (ce.up iv) l) o
theorem nvc_end (h : NV (withC Ds cs) ts Es) : NVC Ds cs ts Es [] := fun D σ H G ce iv en q =>
  h D σ H (W.step (ce.up iv) iv) (ce.env iv en) fun σ' H' l e => q σ' H' H' rfl (W.trans (ce.up iv) l) e
theorem nv_of_nvc (h : NVC Ds [] ts Es cs) (e : withC Es cs = Fs) : NV Ds ts Fs := fun D σ H iv en q =>
  h D σ H H rfl iv en fun σ' H' G' ce l e' => q σ' H' (W.trans l (ce.up (W.step l iv))) (e ▸ ce.env (W.step l iv) e')
theorem ev_run {σ : L2.St} {H G : Hp} {Q : VK} (h : EV (withC Ds cs) te d) (ce : CE W cs σ H G) (iv : W.inv G) (en : EnvL Ds σ G) (q : ∀ v H1 G1, CE W cs σ H1 G1 → W.L G G1 → W.L H H1 → d.ok v H1 → Q v H1) : te σ H Q :=
  h σ H Q (W.step (ce.up iv) iv) (ce.env iv en) fun v H1 l o => by
    obtain ⟨G1, c1, l1⟩ := ce.go l
    exact q v H1 G1 c1 l1 l o
theorem nvc_set (h : EV (withC Ds cs) te d) (p : Pu d) (k : (cs.all fun c => !(Nat.beq c.1 i)) = true := by rfl) : NVC Ds cs (tAsg te (gName i)) (Ds.set i (some d)) cs := fun D σ H G ce iv en q =>
  ev_run h ce iv en fun v H1 G1 c1 l1 _ o => q _ H1 G1 (c1.slot k) l1 ((en.st l1).set (p _ _ _ o))
theorem nvc_setx {ι : Type} {P : ι → Prop} {f : ι → Dn W} (h : EV (withC Ds cs) te (dEx P f)) (p : ∀ x, Pu (f x)) (r : ∀ x, P x → NVC (Ds.set i (some (f x))) cs tu Es cs1) (k : (cs.all fun c => !(Nat.beq c.1 i)) = true := by rfl) : NVC Ds cs (tSeq (tAsg te (gName i)) tu) Es cs1 := fun D σ H G ce iv en q =>
  ev_run h ce iv en fun v H1 G1 c1 l1 _ ⟨x, px, o⟩ => r x px D _ H1 G1 (c1.slot k) (W.step l1 iv) ((en.st l1).set (p _ _ _ _ o)) fun σ2 H2 G2 c2 l2 e2 => q σ2 H2 G2 c2 (W.trans l1 l2) e2
theorem svc_setx {ι : Type} {P : ι → Prop} {f : ι → Dn W} (h : EV (withC Ds cs) te (dEx P f)) (p : ∀ x, Pu (f x)) (r : ∀ x, P x → SVC (Ds.set i (some (f x))) cs tu d) (k : (cs.all fun c => !(Nat.beq c.1 i)) = true := by rfl) : SVC Ds cs (tSeq (tAsg te (gName i)) tu) d := fun D σ H G ce iv en q =>
  ev_run h ce iv en fun v H1 G1 c1 l1 _ ⟨x, px, o⟩ => r x px D _ H1 G1 (c1.slot k) (W.step l1 iv) ((en.st l1).set (p _ _ _ _ o)) fun v H2 l2 o => q v H2 (W.trans l1 l2) o
theorem tv_run {b : Bool} {σ : L2.St} {H G : Hp} {R : Bool → Hp → Prop} (h : TV (withC Ds cs) tt b) (ce : CE W cs σ H G) (iv : W.inv G) (en : EnvL Ds σ G) (q : ∀ H1 G1, CE W cs σ H1 G1 → W.L G G1 → R b H1) : tt σ H R :=
  h σ H R (W.step (ce.up iv) iv) (ce.env iv en) fun H1 l => by
    obtain ⟨G1, c1, l1⟩ := ce.go l
    exact q H1 G1 c1 l1
theorem nvc_if {b : Bool} (h : TV (withC Ds cs) tt b) (h1 : b = true → NVC Ds cs t1 Es cs1) (h2 : b = false → NVC Ds cs t2 Es cs1) : NVC Ds cs (tIfS tt t1 t2) Es cs1 := fun D σ H G ce iv en q =>
  tv_run h ce iv en fun H1 G1 c1 l1 => by
    cases b with
    | true => exact h1 rfl D σ H1 G1 c1 (W.step l1 iv) (en.st l1) fun σ2 H2 G2 c2 l2 e2 => q σ2 H2 G2 c2 (W.trans l1 l2) e2
    | false => exact h2 rfl D σ H1 G1 c1 (W.step l1 iv) (en.st l1) fun σ2 H2 G2 c2 l2 e2 => q σ2 H2 G2 c2 (W.trans l1 l2) e2
theorem nvc_wk (is : List Nat) (h : NVC Ds cs ts Es cs1) (e : forget Es is = Fs) : NVC Ds cs ts Fs cs1 := fun D σ H G ce iv en q => h D σ H G ce iv en fun σ' H' G' c' l' e' => q σ' H' G' c' l' (e ▸ e'.forget is)
theorem nvc_cs (h : NVC Ds cs ts Es cs1) (e : cs1 = cs2) : NVC Ds cs ts Es cs2 := e ▸ h
/-! the steps that change a cell -/
theorem cell_at {σ : L2.St} {H G : Hp} (ce : CE W cs σ H G) (g : getC cs i = some xs) : ∃ p, σ[i]? = some (some (.ref p)) ∧ H p = some (.lst xs) := by
  obtain ⟨p, e, hp, _⟩ := ce.change (ys := xs) g
  exact ⟨p, e, hp⟩
theorem nvc_append {y : V} (g : getC cs i = some xs) (h : EV (withC Ds cs) te (dV y)) (z : xs.length < 100000) : NVC Ds cs (tDrop (tBM K "list" rAppend (tVar i) (tCons te tNil))) Ds (setC cs i (xs ++ [y])) := fun D σ H G ce iv en q => by
  obtain ⟨p, e, hp⟩ := cell_at ce g
  refine ⟨.ref p, e, .inl ⟨rfl, _, SqL.of hp⟩, ev_run h ce iv en fun v H1 G1 c1 l1 _ o => ?_⟩
  obtain ⟨p2, e2, hp2, c2⟩ := c1.change (ys := xs ++ [y]) g
  rw [e] at e2
  cases e2
  rw [show v = y from o]
  exact ⟨p, xs, y, rfl, rfl, hp2, sl_lt (by omega), q _ _ _ c2 l1 (en.st l1)⟩
theorem nvc_appendX {ι : Type} {P : ι → Prop} {f : ι → V} (g : getC cs i = some xs) (h : EV (withC Ds cs) te (dEx P fun x => dV (f x))) (z : xs.length < 100000) (r : ∀ x, P x → NVC Ds (setC cs i (xs ++ [f x])) tu Es cs1) :
    NVC Ds cs (tSeq (tDrop (tBM K "list" rAppend (tVar i) (tCons te tNil))) tu) Es cs1 := fun D σ H G ce iv en q => by
  obtain ⟨p, e, hp⟩ := cell_at ce g
  refine ⟨.ref p, e, .inl ⟨rfl, _, SqL.of hp⟩, ev_run h ce iv en fun v H1 G1 c1 l1 _ ⟨x, px, o⟩ => ?_⟩
  obtain ⟨p2, e2, hp2, c2⟩ := c1.change (ys := xs ++ [f x]) g
  rw [e] at e2
  cases e2
  rw [show v = f x from o]
  refine ⟨p, xs, f x, rfl, rfl, hp2, sl_lt (by omega), ?_⟩
  exact r x px D _ _ _ c2 (W.step l1 iv) (en.st l1) fun σ2 H2 G2 c2 l2 e2 => q σ2 H2 G2 c2 (W.trans l1 l2) e2
theorem nvc_extend (g : getC cs i = some xs) (h : EV (withC Ds cs) te (dLst zs)) (z : xs.length + zs.length ≤ 100000) : NVC Ds cs (tDrop (tBM K "list" rExtend (tVar i) (tCons te tNil))) Ds (setC cs i (xs ++ zs)) := fun D σ H G ce iv en q => by
  obtain ⟨p, e, hp⟩ := cell_at ce g
  refine ⟨.ref p, e, .inl ⟨rfl, _, SqL.of hp⟩, ev_run h ce iv en fun v H1 G1 c1 l1 _ o => ?_⟩
  obtain ⟨p2, e2, hp2, c2⟩ := c1.change (ys := xs ++ zs) g
  rw [e] at e2
  cases e2
  obtain ⟨b, e3, _, hb⟩ := o
  subst e3
  exact ⟨p, b, xs, zs, rfl, rfl, hp2, hb, Nat.le_of_lt (sl_lt z), q _ _ _ c2 l1 (en.st l1)⟩
theorem ixN_nat {n k : Nat} (h : k < n) : ixN n (k : Int) = some k := by
  unfold ixN
  simp [h]
theorem nvc_sub {y : V} (g : getC cs i = some xs) (h : EV (withC Ds cs) te (dV y)) (hk : EV (withC Ds cs) ti (dN k)) (lt : k < xs.length) : NVC Ds cs (tAsg te (gSub (tVar i) ti rSetL)) Ds (setC cs i (xs.set k y)) := fun D σ H G ce iv en q =>
  ev_run h ce iv en fun v H1 G1 c1 l1 _ o => by
    obtain ⟨p, e, hp⟩ := cell_at c1 g
    refine ⟨.ref p, e, ev_run hk c1 (W.step l1 iv) (en.st l1) fun u H2 G2 c2 l2 _ o2 => ?_⟩
    obtain ⟨p2, e2, hp2, c3⟩ := c2.change (ys := xs.set k y) g
    rw [e] at e2
    cases e2
    rw [show u = V.int (k : Int) from o2, show v = y from o]
    exact ⟨p, xs, k, k, rfl, rfl, hp2, ixN_nat lt, q _ _ _ c3 (W.trans l1 l2) ((en.st l1).st l2)⟩
/-! loops -/
theorem nvc_forR {ta : TA} (E : Nat → EnvT W) (C : Nat → List (Nat × List V)) (hl : AV Ds ta [dN n]) (h0 : ∀ σ H, EnvL Ds σ H → EnvL (E 0) σ H) (hC : CE W cs = CE W (C 0)) (h62 : n < 2 ^ 62) (hl2 : AV (withC Ds cs) ta [dN n])
    (hs : ∀ k, k < n → ((C k).all fun c => !(Nat.beq c.1 i)) = true) (hb : ∀ k, k < n → NVC ((E k).set i (some (dN k))) (C k) ts (E (k + 1)) (C (k + 1))) :
    NVC Ds cs (tFor (iRng1 ta) (gName i) ts) (E n) (C n) := fun D σ H G ce iv en q =>
  hl2 σ H _ (W.step (ce.up iv) iv) (ce.env iv en) fun vs H1 l1 o1 => by
    match vs, o1 with
    | [v], ⟨o1, _⟩ =>
      obtain ⟨G1, c1, lG⟩ := ce.go l1
      have iv1 := W.step lG iv
      refine ⟨(n : Int), by rw [show v = V.int (n : Int) from o1], by omega, by omega, ?_⟩
      refine for_range (lo := 0) (n := (n : Int).toNat) (fun k σ' H' => ∃ G', CE W (C k) σ' H' G' ∧ W.L G1 G' ∧ EnvL (E k) σ' G') ⟨G1, hC ▸ c1, W.refl G1, h0 _ _ (en.st lG)⟩ (fun k σ' H' hk hP => ?_) fun σ' H' hP => ?_
      · rw [Int.toNat_natCast] at hk
        obtain ⟨G', cP, lP, eP⟩ := hP
        refine hb k hk _ _ H' G' (cP.slot (hs k hk)) (W.step lP iv1) (eP.set (show V.int (0 + (k : Int)) = V.int (k : Int) by rw [Int.zero_add])) fun σ2 H2 G2 c2 l2 e2 => ⟨G2, c2, W.trans lP l2, e2⟩
      · rw [Int.toNat_natCast] at hP
        obtain ⟨G', cP, lP, eP⟩ := hP
        exact q σ' H' G' cP (W.trans lG lP) eP
/-- for x in l, l the list in slot j -/
theorem CE.ne {q : Addr} {o : HO} : ∀ {cs : List (Nat × List V)} {σ : L2.St} {H G : Hp}, CE W cs σ H G → G q = some o → H q = some o
  | [], σ, H, G, h, e => by
    have h : G = H := h
    subst h
    exact e
  | c :: cs, σ, H, G, ⟨p, _, _, hp, h⟩, e => (del_some (CE.ne h e)).2
theorem nvc_forV (E : Nat → EnvT W) (C : Nat → List (Nat × List V)) (hj : Ds.get j = some (dLst xs)) (hn : Nat.ble (j + 1) Ds.n = true) (h0 : ∀ σ H, EnvL Ds σ H → EnvL (E 0) σ H) (hC : CE W cs = CE W (C 0))
    (hs : ∀ k, ((C k).all fun c => !(Nat.beq c.1 i)) = true) (hb : ∀ k x, xs[k]? = some x → NVC ((E k).set i (some (dV x))) (C k) ts (E (k + 1)) (C (k + 1))) :
    NVC Ds cs (tFor (iList K (tVar j)) (gName i) ts) (E xs.length) (C xs.length) := fun D σ H G ce iv en q => by
  obtain ⟨v, e, a, ea, fa, ha⟩ := en.get hj hn
  subst ea
  refine ⟨.ref a, e, a, rfl, ⟨xs, SqL.of (ce.ne ha)⟩, ?_⟩
  refine for_list (K := K) (a := a) (xs := xs) (fun k σ' H' => ∃ G', CE W (C k) σ' H' G' ∧ W.L G G' ∧ EnvL (E k) σ' G') ⟨G, hC ▸ ce, W.refl G, h0 _ _ en⟩ (fun k σ' H' _ hP => ?_) (fun k x σ' H' hx hP => ?_) fun σ' H' hP => ?_
  · obtain ⟨G', cP, lP, _⟩ := hP
    exact SqL.of (cP.ne (W.keep fa lP ha))
  · obtain ⟨G', cP, lP, eP⟩ := hP
    exact hb k x hx _ _ H' G' (cP.slot (hs k)) (W.step lP iv) (eP.set rfl) fun σ2 H2 G2 c2 l2 e2 => ⟨G2, c2, W.trans lP l2, e2⟩
  · obtain ⟨G', cP, lP, eP⟩ := hP
    exact q σ' H' G' cP lP eP
/-- for at, x in enumerate(l), l the list in slot m -/
theorem nvc_enumV {m : Nat} (E : Nat → EnvT W) (C : Nat → List (Nat × List V)) (hj : Ds.get m = some (dLst xs)) (hn : Nat.ble (m + 1) Ds.n = true) (h0 : ∀ σ H, EnvL Ds σ H → EnvL (E 0) σ H) (hC : CE W cs = CE W (C 0))
    (hs : ∀ k, ((C k).all fun c => !(Nat.beq c.1 i)) = true) (hs2 : ∀ k, ((C k).all fun c => !(Nat.beq c.1 j)) = true) (hb : ∀ k x, xs[k]? = some x → NVC (((E k).set i (some (dN k))).set j (some (dV x))) (C k) ts (E (k + 1)) (C (k + 1))) :
    NVC Ds cs (tFor (iEnum K (tCons (tVar m) tNil)) (gTup K 2 (gCons (gName i) (gCons (gName j) gNil))) ts) (E xs.length) (C xs.length) := fun D σ H G ce iv en q => by
  obtain ⟨v, e, a, ea, fa, ha⟩ := en.get hj hn
  subst ea
  refine ⟨.ref a, e, a, xs, rfl, SqL.of (ce.ne ha), fun k m σ' H' => k + m = xs.length ∧ ∃ G', CE W (C k) σ' H' G' ∧ W.L G G' ∧ EnvL (E k) σ' G', ⟨xs.length, Nat.zero_add _, G, hC ▸ ce, W.refl G, h0 _ _ en⟩, fun k m σ' H' hW => ?_⟩
  obtain ⟨km, G', cP, lP, eP⟩ := hW
  have iv' := W.step lP iv
  have hL : SqL K H' a xs := SqL.of (cP.ne (W.keep fa lP ha))
  by_cases hk : k < xs.length
  · have hx : xs[k]? = some xs[k] := List.getElem?_eq_getElem hk
    refine .inr ⟨⟨_, _, hL, hx⟩, fun σ2 H2 => ∃ G2, CE W (C (k + 1)) σ2 H2 G2 ∧ W.L G G2 ∧ EnvL (E (k + 1)) σ2 G2, fun σ2 H2 hN => ⟨m - 1, by omega, by omega, hN⟩, fun x H2 hy => ?_⟩
    obtain ⟨T, x1, rfl, nT, rfl, fx⟩ := hy
    have e1 : x1 = xs[k] := by
      have h2 : xs[k]? = some x1 := fx _ hL
      rw [hx] at h2
      exact (Option.some.inj h2).symm
    subst e1
    have l3 : W.L H' (upd H' T (.tup [.int (k : Nat), xs[k]])) := W.put (W.step (cP.up iv') iv') (W.refl H') nT
    obtain ⟨G3, c3, lG⟩ := cP.go l3
    refine ⟨T, _, rfl, .inl (.inl upd_same), rfl, _, _, rfl, _, _, rfl, rfl, ?_⟩
    refine hb k xs[k] hx _ _ _ G3 ((c3.slot (hs k)).slot (hs2 k)) (W.step lG iv') (((eP.st lG).set rfl).set rfl) fun σ2 H2 G2 c2 l2 e2 => ⟨G2, c2, W.trans lP (W.trans lG l2), e2⟩
  · have kl : k = xs.length := by omega
    subst kl
    exact .inl ⟨⟨_, hL, Nat.le_refl _⟩, q σ' H' G' cP lP eP⟩
/-! a new cell -/
theorem env_new {σ : L2.St} {H : Hp} {v : V} (en : EnvL Ds σ H) : EnvL (Ds.set i none) (σ.set i (some v)) H := en.dropS
theorem svc_cell (h : FL (withC Ds cs) te xs) (r : SVC (Ds.set i none) ((i, xs) :: cs) tu d) (hi : Nat.ble (i + 1) Ds.n = true := by rfl) (k : (cs.all fun c => !(Nat.beq c.1 i)) = true := by rfl) : SVC Ds cs (tSeq (tAsg te (gName i)) tu) d := fun D σ H G ce iv en q =>
  h σ H _ (W.step (ce.up iv) iv) (ce.env iv en) fun p H1 hp fp l e => by
    obtain ⟨G1, c1, l1⟩ := ce.go l
    refine r D _ H1 G1 ⟨p, ?_, fp, e, c1.slot k⟩ (W.step l1 iv) (en.st l1).dropS fun v H2 l2 o => q v H2 (W.trans l1 l2) o
    exact List.getElem?_set_self (by rw [en.1]; exact Nat.le_of_ble_eq_true hi)
theorem sv_cell (h : FL Ds te xs) (r : SVC (Ds.set i none) [(i, xs)] tu d) (hi : Nat.ble (i + 1) Ds.n = true := by rfl) : SV Ds (tSeq (tAsg te (gName i)) tu) d := fun D σ H iv en q =>
  svc_cell (cs := []) h r hi rfl D σ H H rfl iv en q
theorem nvc_cell (h : FL (withC Ds cs) te xs) (hi : Nat.ble (i + 1) Ds.n = true := by rfl) (k : (cs.all fun c => !(Nat.beq c.1 i)) = true := by rfl) : NVC Ds cs (tAsg te (gName i)) (Ds.set i none) ((i, xs) :: cs) := fun D σ H G ce iv en q =>
  h σ H _ (W.step (ce.up iv) iv) (ce.env iv en) fun p H1 hp fp l e => by
    obtain ⟨G1, c1, l1⟩ := ce.go l
    refine q _ H1 G1 ⟨p, ?_, fp, e, c1.slot k⟩ l1 (en.st l1).dropS
    exact List.getElem?_set_self (by rw [en.1]; exact Nat.le_of_ble_eq_true hi)
theorem sv_of_svc (h : SVC Ds [] ts d) : SV Ds ts d := fun D σ H iv en q => h D σ H H rfl iv en q
theorem svc_of_sv (h : SV Ds ts d) : SVC Ds [] ts d := fun D σ H G ce iv en q => by
  have ce : G = H := ce
  subst ce
  exact h D σ G iv en q
theorem ok_dV {H : Hp} : ∀ {xs vs : List V}, OkL (xs.map fun x => (dV x : Dn W)) vs H → vs = xs
  | [], [], _ => rfl
  | n :: l, v :: vs, ⟨h, r⟩ => by
    rw [ok_dV (xs := l) r, show v = n from h]
  | [], _ :: _, h => h.elim
  | _ :: _, [], h => h.elim
theorem none_back {H H1 : Hp} {p : Addr} (iv : W.inv H1) (l : W.L H H1) (h : H1 p = none) : H p = none := by
  cases e : H p with
  | none => rfl
  | some o =>
    rw [W.keep (W.fresh iv h) l e] at h
    cases h
theorem fl_lst (xs : List V) (h : AV Ds t (xs.map fun x => dV x)) (hn : xs.length ≤ 100000 := by exact Nat.le_of_ble_eq_true rfl) : FL Ds (tLst t) xs := fun σ H Q iv en q => h σ H _ iv en fun vs H1 l1 o1 => by
  have iv1 := W.step l1 iv
  have e := ok_dV o1
  subst e
  exact ⟨Nat.le_of_lt (sl_lt hn), fun p np => q p _ (none_back iv1 l1 np) (W.fresh iv1 np) (by rw [del_upd np]; exact l1) upd_same⟩
theorem fl_nil : FL Ds (tLst tNil) [] := fl_lst [] av_nil
theorem fl_rep {y : V} (h : EV Ds te (dLst [y])) (h2 : EV Ds ti (dN n)) (hn : n ≤ 100000) : FL Ds (tOp rRep te ti) (List.replicate n y) := fun σ H Q iv en q => h σ H _ iv en fun v H1 l1 o1 => h2 σ H1 _ (W.step l1 iv) (en.st l1) fun u H2 l2 o2 => by
  have iv2 := W.step l2 (W.step l1 iv)
  have o1 := (dLst [y]).st l2 o1
  obtain ⟨a, e, _, ha⟩ := o1
  subst e
  rw [show u = V.int (n : Int) from o2]
  refine ⟨a, n, _, rfl, rfl, ha, by omega, by omega, by rw [Int.toNat_natCast]; exact Nat.le_of_lt (sl_lt (by simpa using hn)), fun p np => q p _ (none_back iv2 (W.trans l1 l2) np) (W.fresh iv2 np) (by rw [del_upd np]; exact W.trans l1 l2) ?_⟩
  rw [upd_same, Int.toNat_natCast, show (List.replicate n [y]).flatten = List.replicate n y by simp]
theorem ev_fl (h : FL Ds te xs) : EV Ds te (dLst xs) := fun σ H Q iv en q => h σ H Q iv en fun p H' np fp l e => q _ H' (W.trans l (L_del (W.step l iv) e)) ⟨p, rfl, fp, e⟩
/-- two at once: both new lists; a new list and a value -/
theorem sv_parCC {ta tb : TE} (h : FL Ds ta xs) (h2 : FL Ds tb ys) (r : SVC ((Ds.set i none).set j none) [(j, ys), (i, xs)] tu d) (hi : Nat.ble (i + 1) Ds.n = true := by rfl) (hj : Nat.ble (j + 1) Ds.n = true := by rfl) (ne : i ≠ j := by decide) :
    SV Ds (tSeq (tPar i j (tCons ta (tCons tb tNil))) tu) d := fun D σ H iv en q =>
  h σ H _ iv en fun p H1 np fp l1 e1 => by
    have L1 : W.L H H1 := W.trans l1 (L_del (W.step l1 iv) e1)
    refine h2 σ H1 _ (W.step L1 iv) (en.st L1) fun u H2 nu fu l2 e2 => ?_
    have hp : del u H2 p = some (.lst xs) := W.keep fp l2 e1
    have LG : W.L H (del p (del u H2)) := W.trans l1 (W.delL fp l2)
    have li := Nat.le_of_ble_eq_true hi
    have lj := Nat.le_of_ble_eq_true hj
    have ln := en.1
    refine ⟨.ref p, .ref u, rfl, ?_⟩
    refine r D _ H2 _ ⟨u, List.getElem?_set_self (by rw [List.length_set, ln]; exact lj), fu, e2, p, by rw [List.getElem?_set_ne (Ne.symm ne)]; exact List.getElem?_set_self (by rw [ln]; exact li), fp, hp, rfl⟩ (W.step LG iv) ((en.st LG).dropS.dropS) fun v H3 l3 o => q v H3 (W.trans LG l3) o
theorem sv_parCN {ta tb : TE} (h : FL Ds ta xs) (h2 : EV Ds tb d2) (pu : Pu d2) (r : SVC ((Ds.set i none).set j (some d2)) [(i, xs)] tu d) (hi : Nat.ble (i + 1) Ds.n = true := by rfl) (ne : j ≠ i := by decide) :
    SV Ds (tSeq (tPar i j (tCons ta (tCons tb tNil))) tu) d := fun D σ H iv en q =>
  h σ H _ iv en fun p H1 np fp l1 e1 => by
    have L1 : W.L H H1 := W.trans l1 (L_del (W.step l1 iv) e1)
    refine h2 σ H1 _ (W.step L1 iv) (en.st L1) fun u H2 l2 o2 => ?_
    have hp : H2 p = some (.lst xs) := W.keep fp l2 e1
    have LG : W.L H (del p H2) := W.trans l1 (W.delL fp l2)
    have li := Nat.le_of_ble_eq_true hi
    have ln := en.1
    refine ⟨.ref p, u, rfl, ?_⟩
    refine r D _ H2 _ ⟨p, by rw [List.getElem?_set_ne ne]; exact List.getElem?_set_self (by rw [ln]; exact li), fp, hp, rfl⟩ (W.step LG iv) ((en.st LG).dropS.set (pu _ _ _ o2)) fun v H3 l3 o => q v H3 (W.trans LG l3) o
end
end Vf

set_option Elab.async false
set_option linter.all false
set_option maxRecDepth 100000
set_option maxHeartbeats 4000000
namespace Vf
/-! ### sorted lists, words of rooms led -/
theorem sortN_perm (l : List Nat) : (sortN l).Perm l := (sort_ok l).1
theorem sortN_len (l : List Nat) : (sortN l).length = l.length := (sort_ok l).1.length_eq
theorem sortN_congr {l m : List Nat} (h : l.Perm m) : sortN l = sortN m := sort_uniq ((sort_ok l).1.trans h) (sort_ok l).2
theorem sortN_lt {l : List Nat} (h : l.Nodup) : (sortN l).Pairwise (· < ·) := by
  have nd : (sortN l).Pairwise (· ≠ ·) := (sort_ok l).1.nodup_iff.mpr h
  exact ((sort_ok l).2.and nd).imp fun k => Nat.lt_of_le_of_ne k.1 k.2
theorem map_nd {f : Nat → Nat} {l : List Nat} (inj : ∀ a ∈ l, ∀ b ∈ l, f a = f b → a = b) (h : l.Nodup) : (l.map f).Nodup := by
  unfold List.Nodup
  rw [List.pairwise_map]
  exact h.imp_of_mem fun {a b} ha hb ne e => ne (inj a ha b hb e)
theorem SpanL.sort {B l : List Nat} (nd : l.Nodup) (h : ∀ v, v ∈ l ↔ span B v) : SpanL B (sortN l) := ⟨fun v => by rw [(sortN_perm l).mem_iff, h], sortN_lt nd⟩
theorem SpanL.nd {B L : List Nat} (h : SpanL B L) : L.Nodup := h.2.imp fun k => Nat.ne_of_lt k
theorem words_spanL {B : List Nat} (pl : Plain B) : SpanL B (wordsOf B) := by
  obtain ⟨m1, n1, l1⟩ := sums_ok pl.1
  exact SpanL.sort n1 m1
theorem wordsU {B L : List Nat} (pl : Plain B) (h : SpanL B L) : wordsOf B = L := (words_spanL pl).uniq h
theorem pow_inj {a b : Nat} (h : 2 ^ a = 2 ^ b) : a = b := by
  rcases Nat.lt_trichotomy a b with k | k | k
  · have := Nat.pow_lt_pow_right (a := 2) (by decide) k
    omega
  · exact k
  · have := Nat.pow_lt_pow_right (a := 2) (by decide) k
    omega
theorem dim_of {B D L M : List Nat} (pB : Plain B) (pD : Plain D) (h : SpanL B L) (k : SpanL D M) (e : L.length = M.length) : B.length = D.length := by
  have h1 := h.len
  have h2 := k.len
  rw [bas_self pB] at h1
  rw [bas_self pD] at h2
  exact pow_inj (by omega)
section
variable {n w : Nat} {s t A B S : List Nat}
theorem ex_list (hs : Seq n s) (ltA : ∀ c ∈ A, c < 2 ^ n) (sA : SpanL A S) : SpanL (bas (exB A s)) (sortN (S.map (ledN s))) := by
  have lt : ∀ v ∈ S, v < 2 ^ n := fun v hv => span_lt ltA ((sA.1 v).mp hv)
  refine SpanL.sort (map_nd (fun a ha b hb e => ledN_inj hs (lt a ha) (lt b hb) e) sA.nd) fun v => ?_
  rw [exB_span hs, List.mem_map]
  exact ⟨fun ⟨a, ha, e⟩ => ⟨a, (sA.1 a).mp ha, e.symm⟩, fun ⟨a, ha, e⟩ => ⟨a, (sA.1 a).mpr ha, e.symm⟩⟩
theorem ex_ge (hs : Seq n s) (B : List Nat) : ∀ c ∈ bas (exB B s), c < 2 ^ n := bas_lt (exB_lt hs)
theorem ex_dim (hs : Seq n s) (pA : Plain A) (ltA : ∀ c ∈ A, c < 2 ^ n) (sA : SpanL A S) : (bas (exB A s)).length = A.length :=
  dim_of (bas_plain _) pA (ex_list hs ltA sA) sA (by rw [sortN_len, List.length_map])
theorem ex_pcs (hs : Seq n s) (n24 : n ≤ 24) (ltA : ∀ c ∈ A, c < 2 ^ n) (sA : SpanL A S) : sortN ((wordsOf (bas (exB A s))).map pc) = sortN (S.map pc) := by
  rw [wordsU (bas_plain _) (ex_list hs ltA sA)]
  refine sortN_congr (((sortN_perm _).map pc).trans (List.Perm.of_eq ?_))
  rw [List.map_map]
  exact List.map_congr_left fun a ha => ledN_pc hs n24 (span_lt ltA ((sA.1 a).mp ha))
theorem ex_back (hs : Seq n s) (ltA : ∀ c ∈ A, c < 2 ^ n) (v : Nat) : span (bas (exB (bas (exB A s)) (bkK n s n))) v ↔ span A v := by
  rw [exB_span (bkK_seq hs)]
  constructor
  · rintro ⟨a, ha, rfl⟩
    obtain ⟨b, hb, rfl⟩ := (exB_span hs a).mp ha
    rw [bk_back hs (span_lt ltA hb)]
    exact hb
  · intro h
    exact ⟨ledN s v, (exB_span hs _).mpr ⟨v, h, rfl⟩, (bk_back hs (span_lt ltA h)).symm⟩
theorem ex_comp (hs : Seq n s) (ht : Seq n t) (v : Nat) : span (bas (exB (bas (exB A s)) t)) v ↔ span (bas (exB A (s.map fun i => t.getD i 0))) v := by
  rw [exB_span ht, exB_span (comp_seq hs ht)]
  constructor
  · rintro ⟨a, ha, rfl⟩
    obtain ⟨b, hb, rfl⟩ := (exB_span hs a).mp ha
    exact ⟨b, hb, ledN_comp hs ht⟩
  · rintro ⟨b, hb, rfl⟩
    exact ⟨ledN s b, (exB_span hs _).mpr ⟨b, hb, rfl⟩, (ledN_comp hs ht).symm⟩
theorem ex_sum (hs : Seq n s) (v : Nat) : span (bas (bas (exB A s) ++ bas (exB B s))) v ↔ span (bas (exB (bas (A ++ B)) s)) v := by
  rw [bas_span, exB_span hs, span_append]
  constructor
  · rintro ⟨a, b, ha, hb, rfl⟩
    obtain ⟨a2, ka, rfl⟩ := (exB_span hs a).mp ha
    obtain ⟨b2, kb, rfl⟩ := (exB_span hs b).mp hb
    exact ⟨a2 ^^^ b2, (bas_span _ _).mpr (span_append.mpr ⟨a2, b2, ka, kb, rfl⟩), (ledN_lin hs.nd a2 b2).symm⟩
  · rintro ⟨c, hc, rfl⟩
    obtain ⟨a, b, ha, hb, rfl⟩ := span_append.mp ((bas_span _ _).mp hc)
    exact ⟨ledN s a, ledN s b, (exB_span hs _).mpr ⟨a, ha, rfl⟩, (exB_span hs _).mpr ⟨b, hb, rfl⟩, ledN_lin hs.nd a b⟩
theorem ex_common (hs : Seq n s) (ltA : ∀ c ∈ A, c < 2 ^ n) (ltB : ∀ c ∈ B, c < 2 ^ n) (v : Nat) : span (lowB n (comB n (bas (exB A s)) (bas (exB B s)))) v ↔ span (bas (exB (lowB n (comB n A B)) s)) v := by
  rw [comB_span (ex_ge hs A), exB_span (B := lowB n (comB n A B)) hs]
  constructor
  · rintro ⟨ha, hb⟩
    obtain ⟨a, ka, e0⟩ := (exB_span hs v).mp ha
    obtain ⟨b, kb, e⟩ := (exB_span hs _).mp hb
    have := ledN_inj hs (span_lt ltA ka) (span_lt ltB kb) (e0.symm.trans e)
    subst this
    exact ⟨a, (comB_span ltA a).mpr ⟨ka, kb⟩, e⟩
  · rintro ⟨a, ha, rfl⟩
    obtain ⟨h1, h2⟩ := (comB_span ltA a).mp ha
    exact ⟨(exB_span hs _).mpr ⟨a, h1, rfl⟩, (exB_span hs _).mpr ⟨a, h2, rfl⟩⟩
theorem ex_short (hs : Seq n s) (ltA : ∀ c ∈ A, c < 2 ^ n) (hw : w < 2 ^ n) (v : Nat) : span (lowB n (shoB n (bas (exB A s)) (ledN s w))) v ↔ span (bas (exB (lowB n (shoB n A w)) s)) v := by
  rw [shoB_span (ex_ge hs A), exB_span (B := lowB n (shoB n A w)) hs]
  constructor
  · rintro ⟨ha, e⟩
    obtain ⟨a, ka, e0⟩ := (exB_span hs v).mp ha
    rw [e0, ← ledN_and hs.nd] at e
    have la := span_lt ltA ka
    exact ⟨a, (shoB_span ltA a).mpr ⟨ka, ledN_inj hs (Nat.lt_of_le_of_lt Nat.and_le_left la) la e⟩, e0⟩
  · rintro ⟨a, ha, rfl⟩
    obtain ⟨h1, h2⟩ := (shoB_span ltA a).mp ha
    exact ⟨(exB_span hs _).mpr ⟨a, h1, rfl⟩, by rw [← ledN_and hs.nd, h2]⟩
theorem ex_cut (hs : Seq n s) (v : Nat) : span (bas ((bas (exB A s)).map (· &&& ledN s w))) v ↔ span (bas (exB (bas (A.map (· &&& w))) s)) v := by
  rw [cutB_span, exB_span hs]
  constructor
  · rintro ⟨a, ha, rfl⟩
    obtain ⟨a2, ka, rfl⟩ := (exB_span hs a).mp ha
    exact ⟨a2 &&& w, (cutB_span _).mpr ⟨a2, ka, rfl⟩, (ledN_and hs.nd a2 w).symm⟩
  · rintro ⟨b, hb, rfl⟩
    obtain ⟨a, ha, rfl⟩ := (cutB_span b).mp hb
    exact ⟨ledN s a, (exB_span hs _).mpr ⟨a, ha, rfl⟩, ledN_and hs.nd a w⟩
end
theorem vs_set {l : List Nat} {j x : Nat} : (vs l).set j (L2.V.int (x : Int)) = vs (l.set j x) := by
  unfold vs
  rw [List.map_set]
theorem vs_snoc {l : List Nat} {x : Nat} : vs l ++ [L2.V.int (x : Int)] = vs (l ++ [x]) := by
  rw [vs_append]
  rfl
end Vf
namespace Vf
theorem vs_rep {n x : Nat} : List.replicate n (L2.V.int (x : Int)) = vs (List.replicate n x) := by
  unfold vs
  rw [List.map_replicate]
theorem take_snoc {s : List Nat} {f : Nat → Nat} {k j : Nat} (h : s[k]? = some j) : (s.take (k + 1)).map f = (s.take k).map f ++ [f j] := by
  rw [List.take_add_one, h]
  simp
end Vf

set_option Elab.async false
set_option linter.all false
set_option maxRecDepth 100000
set_option maxHeartbeats 4000000
namespace Vf
/-! ### rooms beside one another -/
section
variable {n m a b v : Nat} {A B D L M : List Nat}
theorem jn_mod (h : a < 2 ^ n) : (a ^^^ (b <<< n)) % 2 ^ n = a := by
  apply Nat.eq_of_testBit_eq
  intro i
  rw [Nat.testBit_mod_two_pow, Nat.testBit_xor, Nat.testBit_shiftLeft]
  by_cases k : i < n
  · simp [k, Nat.not_le.mpr k]
  · rw [bit_hi h (by omega)]
    simp [k]
theorem jn_div (h : a < 2 ^ n) : (a ^^^ (b <<< n)) / 2 ^ n = b := by
  apply Nat.eq_of_testBit_eq
  intro i
  rw [Nat.testBit_div_two_pow, Nat.testBit_xor, Nat.testBit_shiftLeft, bit_hi h (by omega)]
  simp
theorem jn_eq (v n : Nat) : (v % 2 ^ n) ^^^ ((v / 2 ^ n) <<< n) = v := by
  apply Nat.eq_of_testBit_eq
  intro i
  rw [Nat.testBit_xor, Nat.testBit_mod_two_pow, Nat.testBit_shiftLeft, Nat.testBit_div_two_pow]
  by_cases k : i < n
  · simp [k, Nat.not_le.mpr k]
  · have k2 : n ≤ i := by omega
    simp [k, k2, Nat.sub_add_cancel k2]
theorem linF_mod (n : Nat) : LinF (fun w => w % 2 ^ n) := fun a b => Nat.xor_mod_two_pow
theorem linF_div (n : Nat) : LinF (fun w => w / 2 ^ n) := fun a b => Nat.xor_div_two_pow
def besB (n : Nat) (A B : List Nat) : List Nat := A ++ B.map fun w => w <<< n
theorem besB_len : (besB n A B).length = A.length + B.length := by
  unfold besB
  rw [List.length_append, List.length_map]
theorem bes_span (ltA : ∀ c ∈ A, c < 2 ^ n) (v : Nat) : span (bas (besB n A B)) v ↔ span A (v % 2 ^ n) ∧ span B (v / 2 ^ n) := by
  rw [bas_span]
  unfold besB
  rw [span_append]
  constructor
  · rintro ⟨x, y, hx, hy, rfl⟩
    obtain ⟨b, hb, rfl⟩ := (span_map (linF_shl n)).mp hy
    have lx := span_lt ltA hx
    rw [jn_mod lx, jn_div lx]
    exact ⟨hx, hb⟩
  · rintro ⟨h1, h2⟩
    exact ⟨v % 2 ^ n, (v / 2 ^ n) <<< n, h1, (span_map (linF_shl n)).mpr ⟨_, h2, rfl⟩, (jn_eq v n).symm⟩
theorem bes_lt (hA : ∀ c ∈ A, c < 2 ^ n) (hB : ∀ c ∈ B, c < 2 ^ m) : ∀ c ∈ besB n A B, c < 2 ^ (n + m) := fun c hc => by
  rcases List.mem_append.mp hc with h | h
  · exact Nat.lt_of_lt_of_le (hA c h) (pw_le (by omega))
  · obtain ⟨w, hw, rfl⟩ := List.mem_map.mp h
    have := hB w hw
    show w <<< n < _
    rw [Nat.shiftLeft_eq, Nat.pow_add, Nat.mul_comm]
    exact Nat.mul_lt_mul_of_pos_left this (Nat.two_pow_pos n)
/-- all words of both, one behind another -/
def besL (n : Nat) (L M : List Nat) : List Nat := (M.map fun w => L.map fun o => w * 2 ^ n + o).flatten
theorem besL_len (n : Nat) (L : List Nat) : ∀ M : List Nat, (besL n L M).length = M.length * L.length
  | [] => by simp [besL]
  | w :: M => by
    have := besL_len n L M
    unfold besL at this ⊢
    rw [List.map_cons, List.flatten_cons, List.length_append, List.length_map, this, List.length_cons, Nat.succ_mul, Nat.add_comm]
theorem besL_ok (ltA : ∀ c ∈ A, c < 2 ^ n) (hL : SpanL A L) (hM : SpanL B M) : SpanL (bas (besB n A B)) (besL n L M) := by
  have lt : ∀ o ∈ L, o < 2 ^ n := fun o ho => span_lt ltA ((hL.1 o).mp ho)
  refine ⟨fun v => ?_, ?_⟩
  · rw [bes_span ltA]
    unfold besL
    rw [List.mem_flatten]
    constructor
    · rintro ⟨l, hl, hv⟩
      obtain ⟨w, hw, rfl⟩ := List.mem_map.mp hl
      obtain ⟨o, ho, rfl⟩ := List.mem_map.mp hv
      have := lt o ho
      have p := Nat.two_pow_pos n
      rw [Nat.add_comm, Nat.mul_comm, Nat.add_mul_mod_self_left, Nat.mod_eq_of_lt this, Nat.add_mul_div_left _ _ p, Nat.div_eq_of_lt this, Nat.zero_add]
      exact ⟨(hL.1 o).mp ho, (hM.1 w).mp hw⟩
    · rintro ⟨h1, h2⟩
      refine ⟨_, List.mem_map_of_mem ((hM.1 _).mpr h2), List.mem_map.mpr ⟨v % 2 ^ n, (hL.1 _).mpr h1, ?_⟩⟩
      rw [Nat.mul_comm]
      exact Nat.div_add_mod v (2 ^ n)
  · unfold besL
    rw [List.pairwise_flatten]
    refine ⟨fun l hl => ?_, ?_⟩
    · obtain ⟨w, hw, rfl⟩ := List.mem_map.mp hl
      rw [List.pairwise_map]
      exact hL.2.imp fun k => by omega
    · rw [List.pairwise_map]
      refine hM.2.imp fun {w u} k x hx y hy => ?_
      obtain ⟨o, ho, rfl⟩ := List.mem_map.mp hx
      obtain ⟨p, hp, rfl⟩ := List.mem_map.mp hy
      have := lt o ho
      have h2 : (w + 1) * 2 ^ n ≤ u * 2 ^ n := Nat.mul_le_mul_right _ k
      rw [Nat.succ_mul] at h2
      omega
theorem bes_dim (pA : Plain A) (pB : Plain B) (ltA : ∀ c ∈ A, c < 2 ^ n) : (bas (besB n A B)).length = A.length + B.length := by
  have h := besL_ok ltA (words_spanL pA) (words_spanL pB)
  have h1 := h.len
  have h2 := (words_spanL pA).len
  have h3 := (words_spanL pB).len
  rw [bas_self pA] at h2
  rw [bas_self pB] at h3
  rw [bas_self (bas_plain _), besL_len, h2, h3, Nat.mul_comm, ← Nat.pow_add] at h1
  exact (pow_inj h1).symm
theorem bes_assoc {k : Nat} (ltA : ∀ c ∈ A, c < 2 ^ n) (ltB : ∀ c ∈ B, c < 2 ^ m) (v : Nat) : span (bas (besB (n + m) (bas (besB n A B)) D)) v ↔ span (bas (besB n A (bas (besB m B D)))) v := by
  rw [bes_span (bas_lt (bes_lt ltA ltB)), bes_span ltA, bes_span ltA, bes_span ltB, Nat.pow_add, Nat.mod_mul_right_mod, Nat.mod_mul_right_div_self, Nat.div_div_eq_div_mul, and_assoc]
theorem mask_mod (v n : Nat) : v &&& (2 ^ n - 1) = v % 2 ^ n := Nat.and_two_pow_sub_one_eq_mod ..
theorem bes_head (ltA : ∀ c ∈ A, c < 2 ^ n) (v : Nat) : span (bas (besB n A B)) v ∧ v &&& (2 ^ n - 1) = v ↔ span A v := by
  rw [bes_span ltA, mask_mod]
  constructor
  · rintro ⟨⟨h, _⟩, e⟩
    rwa [e] at h
  · intro h
    have lt := span_lt ltA h
    rw [Nat.mod_eq_of_lt lt, Nat.div_eq_of_lt lt]
    exact ⟨⟨h, span_zero B⟩, rfl⟩
theorem bes_cut (ltA : ∀ c ∈ A, c < 2 ^ n) (v : Nat) : span (bas ((bas (besB n A B)).map (· &&& (2 ^ n - 1)))) v ↔ span A v := by
  rw [cutB_span]
  constructor
  · rintro ⟨a, ha, rfl⟩
    rw [mask_mod]
    exact ((bes_span ltA a).mp ha).1
  · intro h
    obtain ⟨h1, h2⟩ := (bes_head (B := B) ltA v).mpr h
    exact ⟨v, h1, h2.symm⟩
theorem bes_sum (ltA : ∀ c ∈ A, c < 2 ^ n) (ltD : ∀ c ∈ D, c < 2 ^ n) (v : Nat) : span (bas (bas (besB n A B) ++ bas (besB n D B))) v ↔ span (bas (besB n (bas (A ++ D)) B)) v := by
  have ltAD : ∀ c ∈ bas (A ++ D), c < 2 ^ n := bas_lt fun c hc => (List.mem_append.mp hc).elim (ltA c) (ltD c)
  rw [bas_span, span_append, bes_span ltAD, bas_span, span_append]
  constructor
  · rintro ⟨x, y, hx, hy, rfl⟩
    obtain ⟨x1, x2⟩ := (bes_span ltA x).mp hx
    obtain ⟨y1, y2⟩ := (bes_span ltD y).mp hy
    exact ⟨⟨_, _, x1, y1, Nat.xor_mod_two_pow⟩, by rw [Nat.xor_div_two_pow]; exact span_xor x2 y2⟩
  · rintro ⟨⟨a, d, ha, hd, e⟩, h2⟩
    have la := span_lt ltA ha
    have ld := span_lt ltD hd
    refine ⟨a ^^^ ((v / 2 ^ n) <<< n), d, (bes_span ltA _).mpr ?_, (bes_span ltD _).mpr ?_, ?_⟩
    · rw [jn_mod la, jn_div la]
      exact ⟨ha, h2⟩
    · rw [Nat.mod_eq_of_lt ld, Nat.div_eq_of_lt ld]
      exact ⟨hd, span_zero B⟩
    · rw [Nat.xor_assoc, Nat.xor_comm _ d, ← Nat.xor_assoc, ← e, jn_eq]
theorem bes_common (ltA : ∀ c ∈ A, c < 2 ^ n) (ltD : ∀ c ∈ D, c < 2 ^ n) (ltB : ∀ c ∈ B, c < 2 ^ m) (v : Nat) :
    span (lowB (n + m) (comB (n + m) (bas (besB n A B)) (bas (besB n D B)))) v ↔ span (bas (besB n (lowB n (comB n A D)) B)) v := by
  rw [comB_span (bas_lt (bes_lt ltA ltB)), bes_span ltA, bes_span ltD, bes_span lowB_lt, comB_span ltA]
  exact ⟨fun ⟨h1, h2⟩ => ⟨⟨h1.1, h2.1⟩, h1.2⟩, fun ⟨h1, h2⟩ => ⟨⟨h1.1, h2⟩, h1.2, h2⟩⟩
/-- the places behind put ahead -/
def turnS (m n : Nat) : List Nat := (List.range m).map (fun i => i + n) ++ List.range n
theorem turnS_at {i : Nat} (h : i < m + n) : (turnS m n).getD i 0 = if i < m then i + n else i - m := by
  unfold turnS
  rw [List.getD_eq_getElem?_getD]
  by_cases k : i < m
  · rw [if_pos k, List.getElem?_append_left (by rw [List.length_map, List.length_range]; exact k), List.getElem?_map, List.getElem?_range k]
    rfl
  · rw [if_neg k, List.getElem?_append_right (by rw [List.length_map, List.length_range]; omega), List.length_map, List.length_range, List.getElem?_range (by omega)]
    rfl
theorem turnS_seq (m n : Nat) : Seq (m + n) (turnS m n) := by
  have len : (turnS m n).length = m + n := by
    unfold turnS
    rw [List.length_append, List.length_map, List.length_range, List.length_range]
  refine ⟨len, ?_, fun x hx => ?_⟩
  · refine List.pairwise_iff_getElem.mpr fun i j hi hj lt e => ?_
    rw [← getD_el hi, ← getD_el hj, turnS_at (by omega), turnS_at (by omega)] at e
    rw [len] at hi hj
    split at e <;> split at e <;> omega
  · obtain ⟨i, hi, rfl⟩ := List.getElem_of_mem hx
    rw [← getD_el hi, turnS_at (by omega)]
    rw [len] at hi
    split <;> omega
theorem turn_led {w : Nat} (h : w < 2 ^ (m + n)) : ledN (turnS m n) w = (w / 2 ^ m) ^^^ ((w % 2 ^ m) <<< n) := by
  have hs := turnS_seq m n
  have l2 : w / 2 ^ m < 2 ^ n := by
    rw [Nat.div_lt_iff_lt_mul (Nat.two_pow_pos m), ← Nat.pow_add, Nat.add_comm]
    exact h
  refine led_ext (s := turnS m n) (fun j k => ?_) fun i hi => ?_
  · rw [ledN_off hs.nd _ k]
    have : m + n ≤ j := Nat.le_of_not_lt fun z => k (hs.onto z)
    rw [Nat.testBit_xor, bit_hi l2 (by omega), Nat.testBit_shiftLeft, bit_hi (Nat.mod_lt w (Nat.two_pow_pos m)) (by omega)]
    simp
  · rw [ledN_at hs.nd _ hi]
    rw [hs.len] at hi
    rw [turnS_at hi, Nat.testBit_xor, Nat.testBit_div_two_pow, Nat.testBit_shiftLeft, Nat.testBit_mod_two_pow]
    by_cases k : i < m
    · have q := bit_hi h (show m + n ≤ i + n + m by omega)
      rw [if_pos k]
      simp [k, q]
    · rw [if_neg k]
      have e : i - m + m = i := by omega
      have e2 : ¬ n ≤ i - m := by omega
      simp [e, e2]
theorem bes_turn (ltA : ∀ c ∈ A, c < 2 ^ m) (ltB : ∀ c ∈ B, c < 2 ^ n) (v : Nat) : span (bas (exB (bas (besB m A B)) (turnS m n))) v ↔ span (bas (besB n B A)) v := by
  have ltT : ∀ c ∈ bas (besB m A B), c < 2 ^ (m + n) := bas_lt (bes_lt ltA ltB)
  rw [exB_span (turnS_seq m n), bes_span ltB]
  constructor
  · rintro ⟨w, hw, rfl⟩
    have lw := span_lt ltT hw
    obtain ⟨h1, h2⟩ := (bes_span ltA w).mp hw
    have l2 := span_lt ltB h2
    rw [turn_led lw, jn_mod l2, jn_div l2]
    exact ⟨h2, h1⟩
  · rintro ⟨h1, h2⟩
    have l2 := span_lt ltA h2
    have hw : span (bas (besB m A B)) ((v / 2 ^ n) ^^^ ((v % 2 ^ n) <<< m)) := (bes_span ltA _).mpr (by rw [jn_mod l2, jn_div l2]; exact ⟨h2, h1⟩)
    refine ⟨_, hw, ?_⟩
    rw [turn_led (span_lt ltT hw), jn_mod l2, jn_div l2, jn_eq]
theorem bas_one {x : Nat} (h : x ≠ 0) : (bas [x]).length = 1 := by
  have h1 := bas_len [x]
  rcases Nat.eq_zero_or_pos (bas [x]).length with k | k
  · have e := List.length_eq_zero_iff.mp k
    have := (bas_span [x] x).mpr (span_mem List.mem_cons_self)
    rw [e, span_emp] at this
    exact absurd this h
  · have : (bas [x]).length ≤ 1 := h1
    omega
theorem zero_mask (v : Nat) : v &&& 0 = v ↔ v = 0 := by
  rw [Nat.and_zero]
  exact ⟨Eq.symm, Eq.symm⟩
end
open PySem PySem.Spec PyProof.Rows L2
variable {W : Wd} {C : Addr} {n m : Nat} {A B : List Nat}
def sp_beside (C : Addr) : Sp := spW (ι := Nat × List Nat × Nat × List Nat) (fun _ i => i.1 + i.2.2.1 ≤ 24) (fun _ i => [dRoom C i.1 i.2.1, dRoom C i.2.2.1 i.2.2.2]) fun _ i => dRoom C (i.1 + i.2.2.1) (bas (besB i.1 i.2.1 i.2.2.2))
theorem sd_beside (h : n + m ≤ 24) : SpD (sp_beside C) [] [(dRoom C n A : Dn W), dRoom C m B] (dRoom C (n + m) (bas (besB n A B))) := spW_sd (i := (n, A, m, B)) h
end Vf

set_option Elab.async false
set_option linter.all false
set_option maxRecDepth 100000
set_option maxHeartbeats 4000000
namespace Vf
/-! ### contraries -/
/-- whether two words meet oddly -/
def par (a b : Nat) : Bool := decide (pc (a &&& b) % 2 = 1)
theorem par_comm (a b : Nat) : par a b = par b a := by
  unfold par
  rw [Nat.and_comm]
theorem par_xor (a c b : Nat) : par (a ^^^ c) b = (par a b ^^ par c b) := by
  unfold par
  rw [pc_dist]
  rcases Nat.mod_two_eq_zero_or_one (pc (a &&& b)) with h | h <;> rcases Nat.mod_two_eq_zero_or_one (pc (c &&& b)) with k | k <;> rw [Nat.add_mod, h, k] <;> rfl
theorem par_zero (b : Nat) : par 0 b = false := by
  unfold par
  rw [Nat.zero_and, pc_zero]
  rfl
theorem par_even (a b : Nat) : decide (pc (a &&& b) % 2 = 0) = !par a b := by
  unfold par
  rcases Nat.mod_two_eq_zero_or_one (pc (a &&& b)) with h | h <;> rw [h] <;> rfl
theorem pc_pow {i : Nat} (h : i < 24) : pc (2 ^ i) = 1 := by
  rw [← spots_len]
  have e : spots (2 ^ i) = [i] := by
    refine up_eq ?_ (by simp) fun v => ?_
    · unfold spots spotsK
      exact (List.pairwise_lt_range).filter _
    · rw [spots_mem, List.mem_singleton, Nat.testBit_two_pow, decide_eq_true_iff]
      exact ⟨fun k => k.2.symm, fun k => ⟨by omega, k.symm⟩⟩
  rw [e]
  rfl
theorem par_pow {i : Nat} (h : i < 24) (c : Nat) : par (2 ^ i) c = c.testBit i := by
  unfold par
  by_cases k : c.testBit i = true
  · have e : 2 ^ i &&& c = 2 ^ i := by
      apply Nat.eq_of_testBit_eq
      intro j
      rw [Nat.testBit_and, Nat.testBit_two_pow]
      by_cases q : i = j
      · subst q
        rw [k, decide_eq_true rfl]
        rfl
      · rw [decide_eq_false q]
        rfl
    rw [e, pc_pow h, k]
    rfl
  · have e : 2 ^ i &&& c = 0 := by
      apply Nat.eq_of_testBit_eq
      intro j
      rw [Nat.testBit_and, Nat.testBit_two_pow, Nat.zero_testBit]
      by_cases q : i = j
      · subst q
        rw [Bool.not_eq_true] at k
        rw [k, Bool.and_false]
      · rw [decide_eq_false q]
        rfl
    rw [e, pc_zero, Bool.not_eq_true _ |>.mp k]
    rfl
def pw (p : Bool) (x : Nat) : Nat := if p then x else 0
theorem pw_xor (p q : Bool) (x : Nat) : pw (p ^^ q) x = pw p x ^^^ pw q x := by
  cases p <;> cases q <;> simp [pw]
theorem par_pw (p : Bool) (x c : Nat) : par (pw p x) c = (p && par x c) := by
  cases p
  · exact par_zero c
  · exact (Bool.true_and _).symm
/-- of each basis word that v meets oddly the highest place -/
def gW (v : Nat) : List Nat → Nat
  | [] => 0
  | b :: B => pw (par v b) (2 ^ b.log2) ^^^ gW v B
theorem xor4 (a b c d : Nat) : (a ^^^ b) ^^^ (c ^^^ d) = (a ^^^ c) ^^^ (b ^^^ d) := by
  rw [Nat.xor_assoc, ← Nat.xor_assoc b, Nat.xor_comm b c, Nat.xor_assoc c, ← Nat.xor_assoc a]
theorem gW_xor (u v : Nat) : ∀ B : List Nat, gW (u ^^^ v) B = gW u B ^^^ gW v B
  | [] => (Nat.xor_zero 0).symm
  | b :: B => by
    show pw (par (u ^^^ v) b) (2 ^ b.log2) ^^^ gW (u ^^^ v) B = (pw (par u b) (2 ^ b.log2) ^^^ gW u B) ^^^ (pw (par v b) (2 ^ b.log2) ^^^ gW v B)
    rw [gW_xor u v B, par_xor, pw_xor, xor4]
theorem gW_snoc (v b : Nat) : ∀ B : List Nat, gW v (B ++ [b]) = gW v B ^^^ pw (par v b) (2 ^ b.log2)
  | [] => by
    show pw _ _ ^^^ 0 = 0 ^^^ pw _ _
    rw [Nat.xor_zero, Nat.zero_xor]
  | c :: B => by
    show pw _ _ ^^^ gW v (B ++ [b]) = (pw _ _ ^^^ gW v B) ^^^ _
    rw [gW_snoc v b B, Nat.xor_assoc]
theorem log_lt {n c : Nat} (h0 : c ≠ 0) (h : c < 2 ^ n) : c.log2 < n := (Nat.log2_lt h0).mpr h
section
variable {n : Nat} {A B D : List Nat}
theorem par_gW (pl : Plain B) (lt : ∀ b ∈ B, b < 2 ^ 24) (v : Nat) {c : Nat} (hc : c ∈ B) : ∀ B' : List Nat, B'.Nodup → (∀ b ∈ B', b ∈ B) → par (gW v B') c = (decide (c ∈ B') && par v c)
  | [], _, _ => by
    show par 0 c = _
    rw [par_zero]
    simp
  | b :: B', nd, sub => by
    obtain ⟨n1, n2⟩ := List.nodup_cons.mp nd
    have hb := sub b List.mem_cons_self
    have lb := log_lt (pl.1.2 b hb) (lt b hb)
    show par (pw _ _ ^^^ gW v B') c = _
    rw [par_xor, par_pw, par_pow lb, par_gW pl lt v hc B' n2 fun x hx => sub x (List.mem_cons_of_mem _ hx)]
    by_cases e : b = c
    · subst e
      rw [top_bit (pl.1.2 b hb)]
      simp [n1]
    · rw [piv_off pl.1 hb hc e]
      have e2 : ¬ c = b := fun z => e z.symm
      simp [e2]
theorem gW_top (pl : Plain B) (lt : ∀ b ∈ B, b < 2 ^ 24) {c : Nat} (hc : c ∈ B) : ∀ B' : List Nat, B'.Nodup → (∀ b ∈ B', b ∈ B) → gW (2 ^ c.log2) B' = pw (decide (c ∈ B')) (2 ^ c.log2)
  | [], _, _ => rfl
  | b :: B', nd, sub => by
    obtain ⟨n1, n2⟩ := List.nodup_cons.mp nd
    have hb := sub b List.mem_cons_self
    have lc := log_lt (pl.1.2 c hc) (lt c hc)
    show pw _ _ ^^^ gW _ B' = _
    rw [gW_top pl lt hc B' n2 fun x hx => sub x (List.mem_cons_of_mem _ hx), par_pow lc]
    by_cases e : b = c
    · subst e
      rw [top_bit (pl.1.2 b hb)]
      simp [n1, pw]
    · rw [piv_off pl.1 hc hb (fun z => e z.symm)]
      have e2 : ¬ c = b := fun z => e z.symm
      simp [e2, pw]
/-- a word, even to the basis -/
def fW (B : List Nat) (v : Nat) : Nat := v ^^^ gW v B
theorem linF_gW (B : List Nat) : LinF fun v => gW v B := fun u v => gW_xor u v B
theorem linF_fW (B : List Nat) : LinF (fW B) := linF_xor linF_id (linF_gW B)
theorem fW_even (pl : Plain B) (lt : ∀ b ∈ B, b < 2 ^ 24) (v : Nat) {c : Nat} (hc : c ∈ B) : par (fW B v) c = false := by
  unfold fW
  rw [par_xor, par_gW pl lt v hc B (piv_nodup pl.1) fun _ h => h]
  simp [hc]
theorem gW_none {v : Nat} : ∀ {B : List Nat}, (∀ b ∈ B, par v b = false) → gW v B = 0
  | [], _ => rfl
  | b :: B, h => by
    show pw _ _ ^^^ gW v B = 0
    rw [h b List.mem_cons_self, gW_none fun c hc => h c (List.mem_cons_of_mem _ hc), Nat.xor_zero]
    rfl
theorem gW_zero (pl : Plain B) (lt : ∀ b ∈ B, b < 2 ^ 24) {v : Nat} : gW v B = 0 ↔ ∀ b ∈ B, par v b = false := by
  refine ⟨fun h b hb => ?_, gW_none⟩
  have := fW_even pl lt v hb
  unfold fW at this
  rwa [h, Nat.xor_zero] at this
theorem gW_lt {v : Nat} : ∀ {B : List Nat}, (∀ b ∈ B, b ≠ 0 ∧ b < 2 ^ n) → gW v B < 2 ^ n
  | [], _ => Nat.two_pow_pos n
  | b :: B, h => by
    refine Nat.xor_lt_two_pow ?_ (gW_lt fun c hc => h c (List.mem_cons_of_mem _ hc))
    obtain ⟨b0, bl⟩ := h b List.mem_cons_self
    unfold pw
    split
    · exact Nat.pow_lt_pow_right (by decide) (log_lt b0 bl)
    · exact Nat.two_pow_pos n
def conB (n : Nat) (B : List Nat) : List Nat := (List.range n).map fun i => fW B (2 ^ i)
theorem conB_lt (pl : Plain B) (ltB : ∀ b ∈ B, b < 2 ^ n) : ∀ c ∈ conB n B, c < 2 ^ n := fun c hc => by
  obtain ⟨i, hi, rfl⟩ := List.mem_map.mp hc
  exact Nat.xor_lt_two_pow (Nat.pow_lt_pow_right (by decide) (List.mem_range.mp hi)) (gW_lt fun b hb => ⟨pl.1.2 b hb, ltB b hb⟩)
theorem con_span (pl : Plain B) (n24 : n ≤ 24) (ltB : ∀ b ∈ B, b < 2 ^ n) (v : Nat) : span (bas (conB n B)) v ↔ v < 2 ^ n ∧ ∀ b ∈ B, par v b = false := by
  have lt : ∀ b ∈ B, b < 2 ^ 24 := fun b hb => lt24 n24 (ltB b hb)
  rw [bas_span]
  constructor
  · intro h
    refine ⟨span_lt (conB_lt pl ltB) h, ?_⟩
    have e : conB n B = ((List.range n).map (2 ^ ·)).map (fW B) := by
      unfold conB
      rw [List.map_map]
      rfl
    rw [e, span_map (linF_fW B)] at h
    obtain ⟨a, _, rfl⟩ := h
    exact fun b hb => fW_even pl lt a hb
  · rintro ⟨h1, h2⟩
    have e : conB n B = ((List.range n).map (2 ^ ·)).map (fW B) := by
      unfold conB
      rw [List.map_map]
      rfl
    rw [e, span_map (linF_fW B)]
    refine ⟨v, (span_units n v).mpr h1, ?_⟩
    unfold fW
    rw [gW_none h2, Nat.xor_zero]
theorem par_span {v : Nat} : (∀ b ∈ B, par v b = false) ↔ ∀ b, span B b → par v b = false := by
  constructor
  · intro h b hb
    exact hb (fun b => par v b = false) ⟨by show par v 0 = false; rw [par_comm, par_zero], fun a c (ha : par v a = false) (hc : par v c = false) => by show par v (a ^^^ c) = false; rw [par_comm, par_xor, par_comm a, par_comm c, ha, hc]; rfl⟩ h
  · exact fun h b hb => h b (span_mem hb)
theorem con_spanS (pl : Plain B) (n24 : n ≤ 24) (ltB : ∀ b ∈ B, b < 2 ^ n) (v : Nat) : span (bas (conB n B)) v ↔ v < 2 ^ n ∧ ∀ b, span B b → par v b = false := by
  rw [con_span pl n24 ltB, par_span]
theorem units_len (n : Nat) : (bas ((List.range n).map (2 ^ ·))).length = n := by
  have h : SpanL ((List.range n).map (2 ^ ·)) (List.range (2 ^ n)) := ⟨fun v => by rw [List.mem_range, span_units], List.pairwise_lt_range⟩
  have := h.len
  rw [List.length_range] at this
  exact (pow_inj this).symm
theorem tops_plain (pl : Plain B) : Plain (B.map fun b => 2 ^ b.log2) := by
  have l := plain_logs pl
  refine ⟨⟨?_, fun x hx => ?_⟩, ?_⟩
  · rw [List.pairwise_map]
    refine l.imp fun {b c} k => ?_
    have ne : ¬ c.log2 = b.log2 := by omega
    have ne2 : ¬ b.log2 = c.log2 := by omega
    constructor
    · rw [Nat.log2_two_pow, Nat.testBit_two_pow]
      simp [ne, ne2]
    · rw [Nat.log2_two_pow, Nat.testBit_two_pow]
      simp [ne, ne2]
  · obtain ⟨b, _, rfl⟩ := List.mem_map.mp hx
    exact Nat.ne_of_gt (Nat.two_pow_pos _)
  · rw [List.pairwise_map]
    exact l.imp fun {b c} k => Nat.pow_lt_pow_right (by decide) k
theorem gW_span {v : Nat} : ∀ (B : List Nat), span (B.map fun b => 2 ^ b.log2) (gW v B)
  | [] => span_zero _
  | b :: B => by
    refine span_xor ?_ (span_sub (fun w hw => span_mem (List.mem_cons_of_mem _ hw)) (gW_span B))
    unfold pw
    split
    · exact span_mem List.mem_cons_self
    · exact span_zero _
theorem con_dim (pl : Plain B) (n24 : n ≤ 24) (ltB : ∀ b ∈ B, b < 2 ^ n) : (bas (conB n B)).length + B.length = n := by
  have lt : ∀ b ∈ B, b < 2 ^ 24 := fun b hb => lt24 n24 (ltB b hb)
  have h := rank_null (ws := (List.range n).map (2 ^ ·)) (us := B.map fun b => 2 ^ b.log2) (ks := bas (conB n B)) (linF_gW B) (fun v => ?_) fun v => ?_
  · rw [units_len, bas_self (tops_plain pl), bas_self (bas_plain _), List.length_map] at h
    omega
  · constructor
    · intro hv
      have : span (((B.map fun b => 2 ^ b.log2)).map fun v => gW v B) v := by
        rw [List.map_map]
        have e : B.map ((fun v => gW v B) ∘ fun b => 2 ^ b.log2) = B.map fun b => 2 ^ b.log2 := List.map_congr_left fun b hb => by
          show gW (2 ^ b.log2) B = _
          rw [gW_top pl lt hb B (piv_nodup pl.1) fun _ h => h, decide_eq_true hb]
          rfl
        rw [e]
        exact hv
      obtain ⟨u, hu, e⟩ := (span_map (linF_gW B)).mp this
      refine ⟨u, (span_units n u).mpr (span_lt (fun w hw => ?_) hu), e⟩
      obtain ⟨b, hb, rfl⟩ := List.mem_map.mp hw
      exact Nat.pow_lt_pow_right (by decide) (log_lt (pl.1.2 b hb) (ltB b hb))
    · rintro ⟨u, _, rfl⟩
      exact gW_span B
  · rw [con_span pl n24 ltB, span_units, gW_zero pl lt]
/-- a room within another one of the same dimension is that one -/
theorem sub_dim (pA : Plain A) (pB : Plain B) (h : ∀ v, span A v → span B v) (e : A.length = B.length) (v : Nat) : span A v ↔ span B v := by
  have sA := words_spanL pA
  have sB := words_spanL pB
  refine ⟨h v, fun hv => ?_⟩
  have l1 := sA.len
  have l2 := sB.len
  rw [bas_self pA] at l1
  rw [bas_self pB] at l2
  have e2 : ((wordsOf B).filter fun x => decide (x ∈ wordsOf A)).length = (wordsOf A).length := len_same (sB.nd.filter _) sA.nd fun x => by
    rw [List.mem_filter, decide_eq_true_iff]
    exact ⟨fun k => k.2, fun k => ⟨(sB.1 x).mpr (h x ((sA.1 x).mp k)), k⟩⟩
  have e3 : ((wordsOf B).filter fun x => decide (x ∈ wordsOf A)).length = (wordsOf B).length := by rw [e2, l1, l2, e]
  have := List.length_filter_eq_length_iff.mp e3 v ((sB.1 v).mpr hv)
  exact (sA.1 v).mp (of_decide_eq_true this)
theorem con_lt (pl : Plain B) (ltB : ∀ b ∈ B, b < 2 ^ n) : ∀ c ∈ bas (conB n B), c < 2 ^ n := bas_lt (conB_lt pl ltB)
theorem con_con (pl : Plain B) (n24 : n ≤ 24) (ltB : ∀ b ∈ B, b < 2 ^ n) (v : Nat) : span (bas (conB n (bas (conB n B)))) v ↔ span B v := by
  have pD := bas_plain (conB n B)
  have ltD := con_lt pl ltB
  have d1 := con_dim pl n24 ltB
  have d2 := con_dim pD n24 ltD
  refine (sub_dim pl (bas_plain _) (fun v hv => ?_) (by omega) v).symm
  rw [con_spanS pD n24 ltD]
  refine ⟨span_lt ltB hv, fun b hb => ?_⟩
  rw [par_comm]
  exact ((con_spanS pl n24 ltB b).mp hb).2 v hv
/-- the contrary turns about what lies in what -/
theorem con_le (pA : Plain A) (pB : Plain B) (n24 : n ≤ 24) (ltA : ∀ b ∈ A, b < 2 ^ n) (ltB : ∀ b ∈ B, b < 2 ^ n) (h : ∀ v, span A v → span B v) (v : Nat) (hv : span (bas (conB n B)) v) : span (bas (conB n A)) v := by
  rw [con_spanS pA n24 ltA]
  obtain ⟨h1, h2⟩ := (con_spanS pB n24 ltB v).mp hv
  exact ⟨h1, fun b hb => h2 b (h b hb)⟩
theorem con_le_iff (pA : Plain A) (pB : Plain B) (n24 : n ≤ 24) (ltA : ∀ b ∈ A, b < 2 ^ n) (ltB : ∀ b ∈ B, b < 2 ^ n) : (∀ v, span A v → span B v) ↔ ∀ v, span (bas (conB n B)) v → span (bas (conB n A)) v := by
  refine ⟨fun h => con_le pA pB n24 ltA ltB h, fun h v hv => ?_⟩
  have := con_le (bas_plain (conB n B)) (bas_plain (conB n A)) n24 (con_lt pB ltB) (con_lt pA ltA) h v
  rw [con_con pA n24 ltA, con_con pB n24 ltB] at this
  exact this hv
theorem con_congr (pA : Plain A) (pB : Plain B) (n24 : n ≤ 24) (ltA : ∀ b ∈ A, b < 2 ^ n) (ltB : ∀ b ∈ B, b < 2 ^ n) (h : ∀ v, span A v ↔ span B v) (v : Nat) : span (bas (conB n A)) v ↔ span (bas (conB n B)) v :=
  ⟨con_le pB pA n24 ltB ltA (fun v => (h v).mpr) v, con_le pA pB n24 ltA ltB (fun v => (h v).mp) v⟩
theorem con_sum (pA : Plain A) (pB : Plain B) (n24 : n ≤ 24) (ltA : ∀ b ∈ A, b < 2 ^ n) (ltB : ∀ b ∈ B, b < 2 ^ n) (v : Nat) : span (bas (conB n (bas (A ++ B)))) v ↔ span (lowB n (comB n (bas (conB n A)) (bas (conB n B)))) v := by
  have ltS : ∀ c ∈ bas (A ++ B), c < 2 ^ n := bas_lt fun c hc => (List.mem_append.mp hc).elim (ltA c) (ltB c)
  rw [con_spanS (bas_plain _) n24 ltS, comB_span (con_lt pA ltA), con_spanS pA n24 ltA, con_spanS pB n24 ltB]
  constructor
  · rintro ⟨h1, h2⟩
    exact ⟨⟨h1, fun b hb => h2 b ((bas_span _ _).mpr (span_left hb))⟩, h1, fun b hb => h2 b ((bas_span _ _).mpr (span_right hb))⟩
  · rintro ⟨⟨h1, h2⟩, _, h3⟩
    refine ⟨h1, fun b hb => ?_⟩
    obtain ⟨x, y, hx, hy, rfl⟩ := span_append.mp ((bas_span _ _).mp hb)
    rw [par_comm, par_xor, par_comm x, par_comm y, h2 x hx, h3 y hy]
    rfl
theorem con_common (pA : Plain A) (pB : Plain B) (n24 : n ≤ 24) (ltA : ∀ b ∈ A, b < 2 ^ n) (ltB : ∀ b ∈ B, b < 2 ^ n) (v : Nat) : span (bas (conB n (lowB n (comB n A B)))) v ↔ span (bas (bas (conB n A) ++ bas (conB n B))) v := by
  have pS := bas_plain (bas (conB n A) ++ bas (conB n B))
  have ltS : ∀ c ∈ bas (bas (conB n A) ++ bas (conB n B)), c < 2 ^ n := bas_lt fun c hc => (List.mem_append.mp hc).elim (con_lt pA ltA c) (con_lt pB ltB c)
  rw [← con_con pS n24 ltS]
  refine con_congr (lowB_plain _ _) (bas_plain _) n24 lowB_lt (con_lt pS ltS) (fun u => ?_) v
  rw [con_sum (bas_plain _) (bas_plain _) n24 (con_lt pA ltA) (con_lt pB ltB), comB_span ltA, comB_span (con_lt (bas_plain _) (con_lt pA ltA)), con_con pA n24 ltA, con_con pB n24 ltB]
end
end Vf

set_option Elab.async false
set_option linter.all false
set_option maxRecDepth 100000
set_option maxHeartbeats 4000000
namespace Vf
open PySem PySem.Spec PyProof.Rows L2
variable {W : Wd}
section
variable {Ds Es Fs : EnvT W} {cs cs1 cs2 : List (Nat × List V)} {d d1 d2 : Dn W} {te ti tl tb : TE} {t ta : TA} {tt : TT} {ts tu t1 t2 : TS} {i j k n m : Nat} {K : PySem.W.Frag} {xs ys zs : List V} {l : List Nat}
theorem sd_highest (h0 : m ≠ 0) (h : m < 2 ^ 64) : SpD (W := W) sp_highest [] [dN m] (dN (2 ^ m.log2)) := fun vs H Q iv o q => by
  match vs, o with
  | [v], ⟨e, _⟩ =>
    rw [show v = V.int (m : Int) from e]
    exact ⟨m, rfl, h0, h, q _ H (W.refl H) rfl⟩
/-! slices -/
theorem cutFrom (xs : List V) (n : Nat) : cutV xs (some (n : Int)) none = xs.drop n := by
  unfold cutV
  rw [show HT.sIx xs.length 0 (some (n : Int)) = min n xs.length from HT.sIx_nat xs.length 0 n, HT.sIx_none]
  rcases Nat.le_total n xs.length with h | h
  · rw [Nat.min_eq_left h]
    exact List.take_of_length_le (by rw [List.length_drop]; exact Nat.le_refl _)
  · rw [Nat.min_eq_right h, Nat.sub_self, List.take_zero, List.drop_eq_nil_of_le h]
theorem cutTo' (xs : List V) (n : Nat) : cutV xs none (some (n : Int)) = xs.take n := by
  unfold cutV
  rw [HT.sIx_none, show HT.sIx xs.length xs.length (some (n : Int)) = min n xs.length from HT.sIx_nat xs.length xs.length n, List.drop_zero, Nat.sub_zero]
  rcases Nat.le_total n xs.length with h | h
  · rw [Nat.min_eq_left h]
  · rw [Nat.min_eq_right h, List.take_length, List.take_of_length_le h]
theorem vs_drop' (l : List Nat) (n : Nat) : (vs l).drop n = vs (l.drop n) := by unfold vs; rw [List.map_drop]
theorem vs_take' (l : List Nat) (n : Nat) : (vs l).take n = vs (l.take n) := by unfold vs; rw [List.map_take]
theorem fl_slF (h : EV Ds te (dVs l)) (h2 : EV Ds ti (dN k)) : FL Ds (tSl (rSlL K) te (tPart ti) tNoPart) (vs (l.drop k)) := fun σ H Q iv en q =>
  h σ H _ iv en fun v H1 l1 o1 => h2 σ H1 _ (W.step l1 iv) (en.st l1) fun u H2 l2 o2 => by
    have iv2 := W.step l2 (W.step l1 iv)
    have o1 := (dVs l).st l2 o1
    obtain ⟨a, e, _, ha⟩ := o1
    subst e
    refine ⟨k, o2, a, _, rfl, SqL.of ha, fun p np => q p _ (none_back iv2 (W.trans l1 l2) np) (W.fresh iv2 np) (by rw [del_upd np]; exact W.trans l1 l2) ?_⟩
    rw [upd_same, cutFrom, vs_drop']
theorem fl_slT (h : EV Ds te (dVs l)) (h2 : EV Ds ti (dN k)) : FL Ds (tSl (rSlL K) te tNoPart (tPart ti)) (vs (l.take k)) := fun σ H Q iv en q =>
  h σ H _ iv en fun v H1 l1 o1 => h2 σ H1 _ (W.step l1 iv) (en.st l1) fun u H2 l2 o2 => by
    have iv2 := W.step l2 (W.step l1 iv)
    have o1 := (dVs l).st l2 o1
    obtain ⟨a, e, _, ha⟩ := o1
    subst e
    refine ⟨k, o2, a, _, rfl, SqL.of ha, fun p np => q p _ (none_back iv2 (W.trans l1 l2) np) (W.fresh iv2 np) (by rw [del_upd np]; exact W.trans l1 l2) ?_⟩
    rw [upd_same, cutTo', vs_take']
theorem ev_slF (h : EV Ds te (dVs l)) (h2 : EV Ds ti (dN k)) : EV Ds (tSl (rSlL K) te (tPart ti) tNoPart) (dVs (l.drop k)) := ev_fl (fl_slF h h2)
theorem ev_slT (h : EV Ds te (dVs l)) (h2 : EV Ds ti (dN k)) : EV Ds (tSl (rSlL K) te tNoPart (tPart ti)) (dVs (l.take k)) := ev_fl (fl_slT h h2)
/-! searches -/
theorem sv_ifT (h : TV Ds tt true) (h1 : SV Ds ts d) : SV Ds (tIfS tt ts tu) d := sv_if h (fun _ => h1) fun z => by cases z
theorem sv_findP {p : V → Bool} (is : List Nat) (hl : EV Ds tl (dLst xs)) (he : forget Ds is = Fs) (hb : ∀ k x, xs[k]? = some x → (∀ y ∈ xs.take k, p y = false) → (p x = true → SV (Fs.set i (some (dV x))) ts d) ∧ (p x = false → NV (Fs.set i (some (dV x))) ts Fs))
    (hn : (∀ x ∈ xs, p x = false) → SV Fs tu d) : SV Ds (tSeq (tFor (iList K tl) (gName i) ts) tu) d := fun D σ H iv en q =>
  hl σ H _ iv en fun v H1 l1 ⟨a, e, g, h⟩ => by
    subst e
    refine ⟨a, rfl, ⟨xs, .inl (.inl h)⟩, ?_⟩
    refine for_list (K := K) (a := a) (xs := xs) (fun k σ' H' => W.L H1 H' ∧ EnvL Fs σ' H' ∧ ∀ x ∈ xs.take k, p x = false) ⟨W.refl H1, he ▸ (en.st l1).forget is, fun _ k => (List.not_mem_nil k).elim⟩ (fun k σ' H' _ hP => .inl (.inl (W.keep g hP.1 h))) (fun k x σ' H' hx hP => ?_) fun σ' H' hP =>
      hn (by have := hP.2.2; rwa [List.take_length] at this) D σ' H' (W.step hP.1 (W.step l1 iv)) hP.2.1 fun v H2 l2 o2 => q v H2 (W.trans (W.trans l1 hP.1) l2) o2
    obtain ⟨hP1, hP2, hP3⟩ := hP
    have iv' := W.step hP1 (W.step l1 iv)
    have hb' := hb k x hx hP3
    cases px : p x with
    | true => exact hb'.1 px _ _ H' iv' (hP2.set rfl) fun v H2 l2 o2 => q v H2 (W.trans (W.trans l1 hP1) l2) o2
    | false =>
      refine hb'.2 px _ _ H' iv' (hP2.set rfl) fun σ2 H2 l2 e2 => ⟨W.trans hP1 l2, e2, fun y hy => ?_⟩
      rw [List.take_add_one, hx] at hy
      rcases List.mem_append.mp hy with hy | hy
      · exact hP3 y hy
      · have : y = x := by simpa using hy
        rw [this, px]
/-- the loop alone, which does return -/
theorem sv_findL {p : V → Bool} (is : List Nat) (hl : EV Ds tl (dLst xs)) (he : forget Ds is = Fs) (hb : ∀ k x, xs[k]? = some x → (∀ y ∈ xs.take k, p y = false) → (p x = true → SV (Fs.set i (some (dV x))) ts d) ∧ (p x = false → NV (Fs.set i (some (dV x))) ts Fs))
    (hn : ¬ ∀ x ∈ xs, p x = false) : SV Ds (tFor (iList K tl) (gName i) ts) d := fun D σ H iv en q =>
  sv_findP (tu := fun D σ H => D.nx σ H) (d := d) is hl he hb (fun z => (hn z).elim) D σ H iv en q
theorem sv_enumP {p : Nat → Bool} (is : List Nat) (hl : AV Ds ta [dVs l]) (he : forget Ds is = Fs) (hb : ∀ k x, l[k]? = some x → (∀ r, r < k → p r = false) → (p k = true → SV ((Fs.set i (some (dN k))).set j (some (dN x))) ts d) ∧ (p k = false → NV ((Fs.set i (some (dN k))).set j (some (dN x))) ts Fs))
    (hn : (∀ r, r < l.length → p r = false) → SV Fs tu d) : SV Ds (tSeq (tFor (iEnum K ta) (gTup K 2 (gCons (gName i) (gCons (gName j) gNil))) ts) tu) d := fun D σ H iv en q =>
  hl σ H _ iv en fun vs0 H1 l1 o1 => by
    match vs0, o1 with
    | [v], ⟨⟨a, e, g, h⟩, _⟩ =>
      subst e
      refine ⟨a, _, rfl, SqL.of h, fun k m σ' H' => k + m = l.length ∧ W.L H1 H' ∧ EnvL Fs σ' H' ∧ ∀ r, r < k → p r = false, ⟨l.length, Nat.zero_add _, W.refl H1, he ▸ (en.st l1).forget is, fun r hr => by omega⟩, fun k m σ' H' hW => ?_⟩
      obtain ⟨km, lP, eP, fP⟩ := hW
      have iv1 := W.step l1 iv
      have iv' := W.step lP iv1
      have hL : SqL K H' a (vs l) := SqL.of (W.keep g lP h)
      by_cases hk : k < l.length
      · have hx : (vs l)[k]? = some (.int ((l[k] : Nat) : Int)) := by
          unfold Vf.vs
          rw [List.getElem?_map, List.getElem?_eq_getElem hk]
          rfl
        refine .inr ⟨⟨_, _, hL, hx⟩, fun σ2 H2 => W.L H1 H2 ∧ EnvL Fs σ2 H2 ∧ ∀ r, r < k + 1 → p r = false, fun σ2 H2 hN => ⟨m - 1, by omega, by omega, hN.1, hN.2⟩, fun x H2 hy => ?_⟩
        obtain ⟨T, x1, rfl, nT, rfl, fx⟩ := hy
        have e1 : x1 = .int ((l[k] : Nat) : Int) := by
          have h2 : (vs l)[k]? = some x1 := fx _ hL
          rw [hx] at h2
          exact (Option.some.inj h2).symm
        subst e1
        have l3 : W.L H' (upd H' T (.tup [.int (k : Nat), .int ((l[k] : Nat) : Int)])) := W.put iv' (W.refl _) nT
        refine ⟨T, _, rfl, .inl (.inl upd_same), rfl, _, _, rfl, _, _, rfl, rfl, ?_⟩
        have hb' := hb k l[k] (List.getElem?_eq_getElem hk) fP
        cases pk : p k with
        | true => exact hb'.1 pk _ _ _ (W.step l3 iv') (((eP.st l3).set rfl).set rfl) fun v H2 l2 o2 => q v H2 (W.trans l1 (W.trans lP (W.trans l3 l2))) o2
        | false =>
          refine hb'.2 pk _ _ _ (W.step l3 iv') (((eP.st l3).set rfl).set rfl) fun σ2 H2 l2 e2 => ⟨W.trans lP (W.trans l3 l2), e2, fun r hr => ?_⟩
          by_cases e : r = k
          · rw [e, pk]
          · exact fP r (by omega)
      · have kl : k = l.length := by omega
        subst kl
        exact .inl ⟨⟨_, hL, by rw [len_vs]; exact Nat.le_refl _⟩, hn fP D σ' H' iv' eP fun v H2 l2 o2 => q v H2 (W.trans l1 (W.trans lP l2)) o2⟩
/-! comprehensions whose elements are told in part alone -/
theorem ev_lcRX {ι : Type} {Pn : ι → Prop} {f : ι → Nat} {P : Nat → Prop} (hl : AX Ds t Pn fun x => [dN (f x)]) (hz : ∀ x, Pn x → f x ≤ 100000) (hb : ∀ x, EV (Ds.set i (some (dN x))) te (dEx P dN)) :
    EV Ds (tLc (iRng1 t) (gName i) tYes te [i]) (dEx (fun l => (∃ x, Pn x ∧ l.length = f x) ∧ ∀ v ∈ l, P v) dVs) := fun σ H Q iv en q =>
  hl σ H _ iv en fun x0 vs0 H1 px l1 o1 => by
    match vs0, o1 with
    | [v], ⟨o1, _⟩ =>
      have iv1 := W.step l1 iv
      have hz := hz x0 px
      refine ⟨(f x0 : Int), by rw [show v = V.int (f x0 : Int) from o1], by omega, by omega, fun D nD => ?_⟩
      refine lc_range (lo := 0) (n := (f x0 : Int).toNat) (fun k H' => W.L H1 H' ∧ ∃ l : List Nat, H' D = some (.lst (vs l)) ∧ l.length = k ∧ ∀ v ∈ l, P v) ⟨W.put iv1 (W.refl H1) nD, [], upd_same, rfl, fun _ k => (List.not_mem_nil k).elim⟩ (fun k H' hk hP => ?_)
        fun H' hP => ?_
      · obtain ⟨lP, l, eD, ll, hl⟩ := hP
        rw [Int.toNat_natCast] at hk
        have en' : EnvL (Ds.set i (some (dN k))) ((wipe σ [i]).set i (some (.int (0 + (k : Int))))) H' := env_lc (show V.int (0 + (k : Int)) = V.int (k : Int) by rw [Int.zero_add]) (en.st (W.trans l1 lP))
        refine ⟨wipe_lc, tv_yes _ H' _ (W.step lP iv1) en' fun H2 l2 => ?_⟩
        refine (if_pos rfl).mpr (hb k _ H2 _ (W.step l2 (W.step lP iv1)) (en'.st l2) fun y H3 l3 ⟨u, pu, o3⟩ => ?_)
        have eD3 := W.keep (W.fresh iv1 nD) l3 (W.keep (W.fresh iv1 nD) l2 eD)
        refine ⟨_, eD3, ?_, W.put iv1 (W.trans lP (W.trans l2 l3)) nD, l ++ [u], ?_, ?_, fun w hw => ?_⟩
        · rw [len_vs]
          exact sl_lt (by omega)
        · rw [upd_same, show y = V.int (u : Int) from o3, vs_append]
          rfl
        · rw [List.length_append, ll]
          rfl
        · rcases List.mem_append.mp hw with h | h
          · exact hl w h
          · rw [List.mem_singleton.mp h]
            exact pu
      · obtain ⟨lP, l, eD, ll, hl⟩ := hP
        rw [Int.toNat_natCast] at ll
        exact q _ H' (W.trans l1 lP) ⟨l, ⟨⟨x0, px, ll⟩, hl⟩, D, rfl, W.fresh iv1 nD, eD⟩
theorem wipe2 {σ : L2.St} {x y : V} (ne : i ≠ j) : wipe (((wipe σ [i, j]).set i (some x)).set j (some y)) [i, j] = wipe σ [i, j] := by
  show (((((σ.set j none).set i none).set i (some x)).set j (some y)).set j none).set i none = (σ.set j none).set i none
  have e1 : ((σ.set j none).set i none).set i (some x) = (σ.set j none).set i (some x) := by rw [List.set_set]
  have e2 : (((σ.set j none).set i (some x)).set j (some y)).set j none = ((σ.set j none).set i (some x)).set j none := by rw [List.set_set]
  have e3 : ((σ.set j none).set i (some x)).set j none = ((σ.set j none).set j none).set i (some x) := by rw [List.set_comm _ _ ne]
  have e4 : (((σ.set j none).set j none).set i (some x)).set i none = ((σ.set j none).set j none).set i none := by rw [List.set_set]
  have e5 : (σ.set j none).set j none = σ.set j none := by rw [List.set_set]
  rw [e1, e2, e3, e4, e5]
theorem env_wipe {σ : L2.St} {H : Hp} {x y : V} (o1 : d1.ok x H) (o2 : d2.ok y H) (en : EnvL Ds σ H) (ne : i ≠ j) : EnvL ((Ds.set i (some d1)).set j (some d2)) (((wipe σ [i, j]).set i (some x)).set j (some y)) H := by
  show EnvL _ ((((σ.set j none).set i none).set i (some x)).set j (some y)) H
  have e1 : ((σ.set j none).set i none).set i (some x) = (σ.set j none).set i (some x) := by rw [List.set_set]
  have e2 : (σ.set j none).set i (some x) = (σ.set i (some x)).set j none := by rw [List.set_comm _ _ ne]
  have e3 : ((σ.set i (some x)).set j none).set j (some y) = (σ.set i (some x)).set j (some y) := by rw [List.set_set]
  rw [e1, e2, e3]
  exact EnvL.set (i := j) o2 (EnvL.set (i := i) o1 en)
/-- [b for x, y in pairs], each b true -/
theorem ev_lcP2 (ps : List (Dn W × Dn W)) (hl : EV Ds tl (dLD (ps.map fun p => dTD [p.1, p.2]))) (hz : ps.length ≤ 100000) (ne : i ≠ j) (hb : ∀ p ∈ ps, EV ((Ds.set i (some p.1)).set j (some p.2)) te (dB true)) :
    EV Ds (tLc (iList K tl) (gTup K 2 (gCons (gName i) (gCons (gName j) gNil))) tYes te [i, j]) (dBs (List.replicate ps.length true)) := fun σ H Q iv en q =>
  hl σ H _ iv en fun v H1 l1 ⟨a, xs, e, ga, h, oxs⟩ => by
    subst e
    have iv1 := W.step l1 iv
    have len := oxs.length
    rw [List.length_map] at len
    refine ⟨a, rfl, ⟨xs, .inl (.inl h)⟩, fun D nD => ?_⟩
    refine lc_list (K := K) (a := a) (xs := xs) (fun k H' => W.L H1 H' ∧ H' D = some (.lst ((List.replicate k true).map V.bl))) ⟨W.put iv1 (W.refl H1) nD, upd_same⟩ (fun k H' _ hP => .inl (.inl (W.keep ga hP.1 h))) (fun k x H' hx hP => ?_)
      fun H' hP => q _ H' (W.trans l1 hP.1) ⟨D, rfl, W.fresh iv1 nD, by rw [hP.2, len]⟩
    obtain ⟨lP, eD⟩ := hP
    obtain ⟨dd, hd, ox⟩ := (oxs.st lP).at hx
    obtain ⟨p, hp, rfl⟩ := List.mem_map.mp hd
    obtain ⟨b, ys, e, gb, h2, oy⟩ := ox
    have lk : k < ps.length := by
      rw [← len]
      exact (List.getElem?_eq_some_iff.mp hx).1
    match ys, oy with
    | [y1, y2], ⟨o1, o2, _⟩ =>
      have iv' := W.step lP iv1
      have en' := env_wipe o1 o2 (en.st (W.trans l1 lP)) ne
      refine ⟨b, _, e, .inl (.inl h2), rfl, _, _, rfl, _, _, rfl, rfl, wipe2 ne, tv_yes _ H' _ iv' en' fun H2 l2 => ?_⟩
      refine (if_pos rfl).mpr (hb p hp _ H2 _ (W.step l2 iv') (en'.st l2) fun y H3 l3 o3 => ?_)
      have eD3 := W.keep (W.fresh iv1 nD) l3 (W.keep (W.fresh iv1 nD) l2 eD)
      refine ⟨_, eD3, ?_, W.put iv1 (W.trans lP (W.trans l2 l3)) nD, ?_⟩
      · rw [List.length_map, List.length_replicate]
        exact sl_lt (by omega)
      · rw [upd_same, show y = V.bl true from o3, List.replicate_succ', List.map_append]
        rfl
theorem ev_lstDX {ι : Type} {P : ι → Prop} {dr : ι → List (Dn W)} (h : AX Ds t P dr) (hn : ∀ x, (dr x).length ≤ 100000) : EV Ds (tLst t) (dEx P fun x => dLD (dr x)) := fun σ H Q iv en q => h σ H _ iv en fun x vs H1 px l1 o1 => by
  refine ⟨?_, fun p np => q _ _ (W.trans l1 (W.put (W.step l1 iv) (W.refl _) np)) ⟨x, px, p, vs, rfl, W.fresh (W.step l1 iv) np, upd_same, o1.st (W.put (W.step l1 iv) (W.refl _) np)⟩⟩
  rw [o1.length]
  exact Nat.le_of_lt (sl_lt (hn x))
/-! what holds as long as no cell changes -/
def NVV (Ds Fs : EnvT W) (cs : List (Nat × List V)) (ts : TS) (Es : EnvT W) (cs' : List (Nat × List V)) : Prop := ∀ (D : Ends) (σ : L2.St) (H G : Hp), CE W cs σ H G → W.inv G → EnvL Ds σ G → EnvL Fs σ H →
  (∀ σ' H' G', CE W cs' σ' H' G' → W.L G G' → EnvL Es σ' G' → D.nx σ' H') → ts D σ H
theorem nvc_vol {ι : Type} {P : ι → Prop} {f : ι → Dn W} (h : EV (withC Ds cs) te (dEx P f)) (r : ∀ x, P x → NVV (Ds.set j none) ((withC Ds cs).set j (some (f x))) cs tu Es cs1) (k : (cs.all fun c => !(Nat.beq c.1 j)) = true := by rfl) : NVC Ds cs (tSeq (tAsg te (gName j)) tu) Es cs1 := fun D σ H G ce iv en q =>
  h σ H _ (W.step (ce.up iv) iv) (ce.env iv en) fun v H1 l ⟨x, px, o⟩ => by
    obtain ⟨G1, c1, l1⟩ := ce.go l
    exact r x px D _ H1 G1 (c1.slot k) (W.step l1 iv) ((en.st l1).dropS) (((ce.env iv en).st l).set o) fun σ2 H2 G2 c2 l2 e2 => q σ2 H2 G2 c2 (W.trans l1 l2) e2
theorem nvv_appendX {ι : Type} {P : ι → Prop} {f : ι → V} (g : getC cs i = some xs) (h : EV Fs te (dEx P fun x => dV (f x))) (z : xs.length < 100000) (cs' : List (Nat × List V) → Prop) (q0 : ∀ x, P x → cs' (setC cs i (xs ++ [f x]))) :
    ∀ (D : Ends) (σ : L2.St) (H G : Hp), CE W cs σ H G → W.inv G → EnvL Ds σ G → EnvL Fs σ H → (∀ c σ' H' G', cs' c → CE W c σ' H' G' → W.L G G' → EnvL Ds σ' G' → D.nx σ' H') → tDrop (tBM K "list" rAppend (tVar i) (tCons te tNil)) D σ H := fun D σ H G ce iv en ef q => by
  obtain ⟨p, e, hp⟩ := cell_at ce g
  refine ⟨.ref p, e, .inl ⟨rfl, _, SqL.of hp⟩, h σ H _ (W.step (ce.up iv) iv) ef fun v H1 l ⟨x, px, o⟩ => ?_⟩
  obtain ⟨G1, c1, l1⟩ := ce.go l
  obtain ⟨p2, e2, hp2, c2⟩ := c1.change (ys := xs ++ [f x]) g
  rw [e] at e2
  cases e2
  rw [show v = f x from o]
  exact ⟨p, xs, f x, rfl, rfl, hp2, sl_lt (by omega), q _ _ _ _ (q0 x px) c2 l1 (en.st l1)⟩
end
end Vf

set_option Elab.async false
set_option linter.all false
set_option maxRecDepth 100000
set_option maxHeartbeats 4000000
namespace Vf
/-! ### still rooms, own rooms -/
/-- the first two that meet oddly -/
def oddP : List Nat → Option (Nat × Nat)
  | [] => none
  | w :: ws => match (w :: ws).find? (par w) with
    | some o => some (w, o)
    | none => oddP ws
def stillB (B : List Nat) : Bool := (oddP B).isNone
section
variable {n m v w : Nat} {A B D L : List Nat}
theorem still_cons : stillB (w :: B) = true ↔ (∀ o ∈ w :: B, par w o = false) ∧ stillB B = true := by
  unfold stillB
  rw [oddP]
  cases h : (w :: B).find? (par w) with
  | some o =>
    refine ⟨fun k => (by cases k), fun k => ?_⟩
    have h1 := List.find?_some h
    rw [k.1 o (List.mem_of_find?_eq_some h)] at h1
    cases h1
  | none =>
    have h1 := List.find?_eq_none.mp h
    exact ⟨fun k => ⟨fun o ho => Bool.eq_false_iff.mpr (h1 o ho), k⟩, fun k => k.2⟩
theorem still_iff : ∀ {B : List Nat}, stillB B = true ↔ ∀ a ∈ B, ∀ b ∈ B, par a b = false
  | [] => ⟨fun _ a ha => (List.not_mem_nil ha).elim, fun _ => rfl⟩
  | w :: B => by
    rw [still_cons, still_iff (B := B)]
    constructor
    · rintro ⟨h1, h2⟩ a ha b hb
      rcases List.mem_cons.mp ha with rfl | ha'
      · exact h1 b hb
      · rcases List.mem_cons.mp hb with rfl | hb'
        · rw [par_comm]
          exact h1 a (List.mem_cons_of_mem _ ha')
        · exact h2 a ha' b hb'
    · intro h
      exact ⟨fun o ho => h w List.mem_cons_self o ho, fun a ha b hb => h a (List.mem_cons_of_mem _ ha) b (List.mem_cons_of_mem _ hb)⟩
theorem still_span : stillB B = true ↔ ∀ a, span B a → ∀ b, span B b → par a b = false := by
  rw [still_iff]
  constructor
  · intro h a ha b hb
    have h1 : ∀ c ∈ B, par b c = false := fun c hc => by
      have := (par_span (v := c)).mp (fun x hx => h c hc x hx) b hb
      rwa [par_comm]
    have := par_span.mp h1 a ha
    rwa [par_comm]
  · exact fun h a ha b hb => h a (span_mem ha) b (span_mem hb)
theorem still_con (pl : Plain B) (n24 : n ≤ 24) (ltB : ∀ b ∈ B, b < 2 ^ n) : stillB B = true ↔ ∀ v, span B v → span (bas (conB n B)) v := by
  rw [still_span]
  constructor
  · exact fun h v hv => (con_spanS pl n24 ltB v).mpr ⟨span_lt ltB hv, fun b hb => h v hv b hb⟩
  · exact fun h a ha b hb => ((con_spanS pl n24 ltB a).mp (h a ha)).2 b hb
theorem dim_le (pA : Plain A) (pB : Plain B) (h : ∀ v, span A v → span B v) : A.length ≤ B.length := by
  have sA := words_spanL pA
  have sB := words_spanL pB
  have l1 := sA.len
  have l2 := sB.len
  rw [bas_self pA] at l1
  rw [bas_self pB] at l2
  have e2 : ((wordsOf B).filter fun x => decide (x ∈ wordsOf A)).length = (wordsOf A).length := len_same (sB.nd.filter _) sA.nd fun x => by
    rw [List.mem_filter, decide_eq_true_iff]
    exact ⟨fun k => k.2, fun k => ⟨(sB.1 x).mpr (h x ((sA.1 x).mp k)), k⟩⟩
  have le := List.length_filter_le (fun x => decide (x ∈ wordsOf A)) (wordsOf B)
  rw [e2, l1, l2] at le
  exact (Nat.pow_le_pow_iff_right (by decide)).mp le
theorem still_dim (pl : Plain B) (n24 : n ≤ 24) (ltB : ∀ b ∈ B, b < 2 ^ n) (h : stillB B = true) : 2 * B.length ≤ n := by
  have := dim_le pl (bas_plain _) ((still_con pl n24 ltB).mp h)
  have := con_dim pl n24 ltB
  omega
def ownB (n : Nat) (B : List Nat) : Bool := stillB B && decide (2 * B.length = n)
theorem own_iff (pl : Plain B) (n24 : n ≤ 24) (ltB : ∀ b ∈ B, b < 2 ^ n) : ownB n B = true ↔ B = bas (conB n B) := by
  unfold ownB
  rw [Bool.and_eq_true, decide_eq_true_iff]
  have d := con_dim pl n24 ltB
  constructor
  · rintro ⟨h1, h2⟩
    exact plain_unique pl (bas_plain _) (sub_dim pl (bas_plain _) ((still_con pl n24 ltB).mp h1) (by omega))
  · intro h
    refine ⟨(still_con pl n24 ltB).mpr fun v hv => by rw [← h]; exact hv, ?_⟩
    rw [← h] at d
    omega
theorem own_eq (pl : Plain B) (n24 : n ≤ 24) (ltB : ∀ b ∈ B, b < 2 ^ n) : ownB n B = decide (n = n ∧ B = bas (conB n B)) := by
  rw [Bool.eq_iff_iff, decide_eq_true_iff, own_iff pl n24 ltB]
  exact ⟨fun h => ⟨rfl, h⟩, fun h => h.2⟩
theorem still_lies (pl : Plain B) (n24 : n ≤ 24) (ltB : ∀ b ∈ B, b < 2 ^ n) : stillB B = liesB B (bas (conB n B)) := by
  rw [Bool.eq_iff_iff, still_con pl n24 ltB, liesB_iff (bas_plain _)]
theorem lies_con (pA : Plain A) (pB : Plain B) (n24 : n ≤ 24) (ltA : ∀ b ∈ A, b < 2 ^ n) (ltB : ∀ b ∈ B, b < 2 ^ n) : liesB A B = liesB (bas (conB n B)) (bas (conB n A)) := by
  rw [Bool.eq_iff_iff, liesB_iff pB, liesB_iff (bas_plain _), con_le_iff pA pB n24 ltA ltB]
/-! parities of words beside one another -/
theorem pc_shl {x n m : Nat} (h : x < 2 ^ m) (k : n + m ≤ 24) : pc (x <<< n) = pc x := by
  rw [← spots_len, ← spots_len]
  have e : (spots (x <<< n)).length = ((spots x).map (· + n)).length := len_same (spots_nd _) (map_nd (fun a _ b _ e => by omega) (spots_nd x)) fun j => by
    rw [spots_mem, List.mem_map, Nat.testBit_shiftLeft]
    constructor
    · rintro ⟨h1, h2⟩
      rw [Bool.and_eq_true, decide_eq_true_iff] at h2
      exact ⟨j - n, (spots_mem x _).mpr ⟨by omega, h2.2⟩, by omega⟩
    · rintro ⟨i, hi, rfl⟩
      obtain ⟨_, hi⟩ := (spots_mem x i).mp hi
      have : i < m := Nat.lt_of_not_le fun z => by
        rw [bit_hi h z] at hi
        cases hi
      refine ⟨by omega, ?_⟩
      rw [Nat.add_sub_cancel, hi]
      simp
  rw [e, List.length_map]
theorem and_off {a b n : Nat} (h : a < 2 ^ n) : a &&& (b <<< n) = 0 := by
  apply Nat.eq_of_testBit_eq
  intro i
  rw [Nat.testBit_and, Nat.testBit_shiftLeft, Nat.zero_testBit]
  by_cases k : n ≤ i
  · rw [bit_hi h k, Bool.false_and]
  · simp [k]
theorem par_jn {v w : Nat} (hv : v < 2 ^ (n + m)) (k : n + m ≤ 24) : par v w = (par (v % 2 ^ n) (w % 2 ^ n) ^^ par (v / 2 ^ n) (w / 2 ^ n)) := by
  have lv : v % 2 ^ n < 2 ^ n := Nat.mod_lt _ (Nat.two_pow_pos n)
  have lw : w % 2 ^ n < 2 ^ n := Nat.mod_lt _ (Nat.two_pow_pos n)
  have l2 : v / 2 ^ n < 2 ^ m := by
    rw [Nat.div_lt_iff_lt_mul (Nat.two_pow_pos n), ← Nat.pow_add, Nat.add_comm]
    exact hv
  conv => lhs; rw [← jn_eq v n, ← jn_eq w n]
  rw [par_xor, par_comm (v % 2 ^ n), par_comm ((v / 2 ^ n) <<< n), par_xor, par_xor]
  have e1 : par ((w / 2 ^ n) <<< n) (v % 2 ^ n) = false := by
    unfold par
    rw [Nat.and_comm, and_off lv, pc_zero]
    rfl
  have e2 : par (w % 2 ^ n) ((v / 2 ^ n) <<< n) = false := by
    unfold par
    rw [and_off lw, pc_zero]
    rfl
  have e3 : par ((w / 2 ^ n) <<< n) ((v / 2 ^ n) <<< n) = par (v / 2 ^ n) (w / 2 ^ n) := by
    unfold par
    rw [← Nat.shiftLeft_and_distrib, pc_shl (m := m) (Nat.lt_of_le_of_lt Nat.and_le_right l2) k, Nat.and_comm]
  rw [e1, e2, e3, par_comm (w % 2 ^ n), Bool.xor_false, Bool.false_xor]
theorem con_bes (pA : Plain A) (pB : Plain B) (k : n + m ≤ 24) (ltA : ∀ b ∈ A, b < 2 ^ n) (ltB : ∀ b ∈ B, b < 2 ^ m) (v : Nat) :
    span (bas (conB (n + m) (bas (besB n A B)))) v ↔ span (bas (besB n (bas (conB n A)) (bas (conB m B)))) v := by
  have ltT : ∀ c ∈ bas (besB n A B), c < 2 ^ (n + m) := bas_lt (bes_lt ltA ltB)
  rw [con_spanS (bas_plain _) k ltT, bes_span (con_lt pA ltA), con_spanS pA (by omega) ltA, con_spanS pB (by omega) ltB]
  constructor
  · rintro ⟨h1, h2⟩
    have lv : v % 2 ^ n < 2 ^ n := Nat.mod_lt _ (Nat.two_pow_pos n)
    have l2 : v / 2 ^ n < 2 ^ m := by
      rw [Nat.div_lt_iff_lt_mul (Nat.two_pow_pos n), ← Nat.pow_add, Nat.add_comm]
      exact h1
    refine ⟨⟨lv, fun a ha => ?_⟩, l2, fun b hb => ?_⟩
    · have la := span_lt ltA ha
      have := h2 a ((bes_span ltA a).mpr (by rw [Nat.mod_eq_of_lt la, Nat.div_eq_of_lt la]; exact ⟨ha, span_zero B⟩))
      rw [par_jn h1 k, Nat.mod_eq_of_lt la, Nat.div_eq_of_lt la, par_comm _ 0, par_zero, Bool.xor_false] at this
      exact this
    · have := h2 (0 ^^^ (b <<< n)) ((bes_span ltA _).mpr (by rw [jn_mod (Nat.two_pow_pos n), jn_div (Nat.two_pow_pos n)]; exact ⟨span_zero A, hb⟩))
      rw [par_jn h1 k, jn_mod (Nat.two_pow_pos n), jn_div (Nat.two_pow_pos n), par_comm _ 0, par_zero, Bool.false_xor] at this
      exact this
  · rintro ⟨⟨h1, h2⟩, h3, h4⟩
    have lv : v < 2 ^ (n + m) := by
      rw [Nat.div_lt_iff_lt_mul (Nat.two_pow_pos n), ← Nat.pow_add, Nat.add_comm m n] at h3
      exact h3
    refine ⟨lv, fun w hw => ?_⟩
    obtain ⟨w1, w2⟩ := (bes_span ltA w).mp hw
    rw [par_jn lv k, h2 _ w1, h4 _ w2]
    rfl
theorem still_bes (pA : Plain A) (pB : Plain B) (k : n + m ≤ 24) (ltA : ∀ b ∈ A, b < 2 ^ n) (ltB : ∀ b ∈ B, b < 2 ^ m) : stillB (bas (besB n A B)) = (stillB A && stillB B) := by
  have ltT : ∀ c ∈ bas (besB n A B), c < 2 ^ (n + m) := bas_lt (bes_lt ltA ltB)
  have h1 := still_con (bas_plain (besB n A B)) k ltT
  have h2 := still_con pA (show n ≤ 24 by omega) ltA
  have h3 := still_con pB (show m ≤ 24 by omega) ltB
  rw [Bool.eq_iff_iff, Bool.and_eq_true, h1, h2, h3]
  constructor
  · intro h
    refine ⟨fun a ha => ?_, fun b hb => ?_⟩
    · have la := span_lt ltA ha
      have := (con_bes pA pB k ltA ltB a).mp (h a ((bes_span ltA a).mpr (by rw [Nat.mod_eq_of_lt la, Nat.div_eq_of_lt la]; exact ⟨ha, span_zero B⟩)))
      have := ((bes_span (con_lt pA ltA) a).mp this).1
      rwa [Nat.mod_eq_of_lt la] at this
    · have := (con_bes pA pB k ltA ltB _).mp (h (0 ^^^ (b <<< n)) ((bes_span ltA _).mpr (by rw [jn_mod (Nat.two_pow_pos n), jn_div (Nat.two_pow_pos n)]; exact ⟨span_zero A, hb⟩)))
      have := ((bes_span (con_lt pA ltA) _).mp this).2
      rwa [jn_div (Nat.two_pow_pos n)] at this
  · rintro ⟨ha, hb⟩ v hv
    obtain ⟨v1, v2⟩ := (bes_span ltA v).mp hv
    exact (con_bes pA pB k ltA ltB v).mpr ((bes_span (con_lt pA ltA) v).mpr ⟨ha _ v1, hb _ v2⟩)
theorem own_bes (pA : Plain A) (pB : Plain B) (k : n + m ≤ 24) (ltA : ∀ b ∈ A, b < 2 ^ n) (ltB : ∀ b ∈ B, b < 2 ^ m) : ownB (n + m) (bas (besB n A B)) = (ownB n A && ownB m B) := by
  have d := bes_dim pA pB ltA
  unfold ownB
  rw [still_bes pA pB k ltA ltB, d, Bool.eq_iff_iff]
  simp only [Bool.and_eq_true, decide_eq_true_iff]
  constructor
  · rintro ⟨⟨h1, h2⟩, h3⟩
    have := still_dim pA (show n ≤ 24 by omega) ltA h1
    have := still_dim pB (show m ≤ 24 by omega) ltB h2
    exact ⟨⟨h1, by omega⟩, h2, by omega⟩
  · rintro ⟨⟨h1, h2⟩, h3, h4⟩
    exact ⟨⟨h1, h3⟩, by omega⟩
/-- the words of the places of w -/
def maskB (n w : Nat) : List Nat := ((List.range n).filter fun i => w.testBit i).map (2 ^ ·)
theorem mask_span (v : Nat) : span (maskB n w) v ↔ v < 2 ^ n ∧ v &&& w = v := by
  constructor
  · intro h
    refine h (fun v => v < 2 ^ n ∧ v &&& w = v) ⟨⟨Nat.two_pow_pos n, Nat.zero_and w⟩, fun a b ha hb => ⟨Nat.xor_lt_two_pow ha.1 hb.1, by rw [Nat.and_xor_distrib_right, ha.2, hb.2]⟩⟩ fun x hx => ?_
    obtain ⟨i, hi, rfl⟩ := List.mem_map.mp hx
    obtain ⟨h1, h2⟩ := List.mem_filter.mp hi
    refine ⟨Nat.pow_lt_pow_right (by decide) (List.mem_range.mp h1), ?_⟩
    apply Nat.eq_of_testBit_eq
    intro j
    rw [Nat.testBit_and, Nat.testBit_two_pow]
    by_cases q : i = j
    · subst q
      rw [h2]
      simp
    · simp [q]
  · rintro ⟨h1, h2⟩
    have h3 := (span_units n v).mpr h1
    have h4 : span (((List.range n).map (2 ^ ·)).map (· &&& w)) v := (span_map (linF_and w)).mpr ⟨v, h3, h2.symm⟩
    refine span_sub (fun x hx => ?_) h4
    obtain ⟨y, hy, rfl⟩ := List.mem_map.mp hx
    obtain ⟨i, hi, rfl⟩ := List.mem_map.mp hy
    by_cases q : w.testBit i = true
    · have e : 2 ^ i &&& w = 2 ^ i := by
        apply Nat.eq_of_testBit_eq
        intro j
        rw [Nat.testBit_and, Nat.testBit_two_pow]
        by_cases q2 : i = j
        · subst q2
          rw [q]
          simp
        · simp [q2]
      show span _ (2 ^ i &&& w)
      rw [e]
      exact span_mem (List.mem_map_of_mem (List.mem_filter.mpr ⟨hi, q⟩))
    · have e : 2 ^ i &&& w = 0 := by
        apply Nat.eq_of_testBit_eq
        intro j
        rw [Nat.testBit_and, Nat.testBit_two_pow, Nat.zero_testBit]
        by_cases q2 : i = j
        · subst q2
          rw [Bool.not_eq_true _ |>.mp q, Bool.and_false]
        · simp [q2]
      show span _ (2 ^ i &&& w)
      rw [e]
      exact span_zero _
theorem mask_lt : ∀ c ∈ maskB n w, c < 2 ^ n := fun c hc => ((mask_span c).mp (span_mem hc)).1
theorem con_cut (pA : Plain A) (n24 : n ≤ 24) (ltA : ∀ b ∈ A, b < 2 ^ n) (v : Nat) :
    span (lowB n (comB n (bas (conB n (bas (A.map (· &&& w))))) (bas (maskB n w)))) v ↔ span (lowB n (shoB n (bas (conB n A)) w)) v := by
  have ltC : ∀ c ∈ bas (A.map (· &&& w)), c < 2 ^ n := cut_lt ltA
  rw [comB_span (con_lt (bas_plain _) ltC), shoB_span (con_lt pA ltA), con_spanS (bas_plain _) n24 ltC, con_spanS pA n24 ltA, bas_span (maskB n w), mask_span]
  have key : v &&& w = v → ∀ a, par v (a &&& w) = par v a := fun e a => by
    unfold par
    rw [Nat.and_comm a w, ← Nat.and_assoc, e]
  constructor
  · rintro ⟨⟨h1, h2⟩, _, h3⟩
    refine ⟨⟨h1, fun a ha => ?_⟩, h3⟩
    rw [← key h3 a]
    exact h2 _ ((cutB_span _).mpr ⟨a, ha, rfl⟩)
  · rintro ⟨⟨h1, h2⟩, h3⟩
    refine ⟨⟨h1, fun b hb => ?_⟩, h1, h3⟩
    obtain ⟨a, ha, rfl⟩ := (cutB_span b).mp hb
    rw [key h3 a]
    exact h2 a ha
end
open PySem PySem.Spec PyProof.Rows L2
variable {W : Wd}
section
variable {C p : Addr} {n m : Nat} {A B ws l : List Nat}
/-! ### what the defs of contraries mean -/
structure EwP (i : Nat × List Nat) : Prop where
  i24 : i.1 < 24
  pl : Plain i.2
  lt : ∀ b ∈ i.2, b < 2 ^ 24
def sp_even_word : Sp := spW (ι := Nat × List Nat) (fun _ i => EwP i) (fun _ i => [dN (2 ^ i.1), dVs i.2]) fun _ i => dN (fW i.2 (2 ^ i.1))
theorem sd_even_word (h : n < 24) (pl : Plain B) (lt : ∀ b ∈ B, b < 2 ^ 24) : SpD sp_even_word [] [(dN (2 ^ n) : Dn W), dVs B] (dN (fW B (2 ^ n))) := spW_sd (i := (n, B)) ⟨h, pl, lt⟩
def sp_contrary (C : Addr) : Sp := spW (ι := Nat × List Nat) (fun _ _ => True) (fun _ i => [dRoom C i.1 i.2]) fun _ i => dRoom C i.1 (bas (conB i.1 i.2))
theorem sd_contrary : SpD (sp_contrary C) [] [(dRoom C n B : Dn W)] (dRoom C n (bas (conB n B))) := spW_sd (i := (n, B)) trivial
def dOdd (o : Option (Nat × Nat)) : Dn W := match o with
  | none => dV .non
  | some p => dTD [dN p.1, dN p.2]
def sp_odd_pair : Sp := spW (ι := List Nat) (fun _ i => ∀ v ∈ i, v < 2 ^ 24) (fun _ i => [dVs i]) fun _ i => dOdd (oddP i)
theorem sd_odd_pair (h : ∀ v ∈ ws, v < 2 ^ 24) : SpD sp_odd_pair [] [(dVs ws : Dn W)] (dOdd (oddP ws)) := spW_sd (i := ws) h
theorem od_isOdd (o : Option (Nat × Nat)) : OpD (W := W) (fun x y H Q => y = .non ∧ Q (.bl (decide (x = .non))) H) (dOdd o) (dV .non) (dB o.isNone) := fun u v H Q iv e1 e2 k => by
  refine ⟨e2, k _ H (W.refl H) ?_⟩
  cases o with
  | none => exact congrArg V.bl (decide_eq_true (show u = V.non from e1))
  | some p =>
    obtain ⟨a, xs, e, _⟩ := e1
    subst e
    rfl
theorem od_notOdd (o : Option (Nat × Nat)) : OpD (W := W) (fun x y H Q => y = .non ∧ Q (.bl (!decide (x = .non))) H) (dOdd o) (dV .non) (dB o.isSome) := fun u v H Q iv e1 e2 k => by
  refine ⟨e2, k _ H (W.refl H) ?_⟩
  cases o with
  | none => exact congrArg (fun b => V.bl (!b)) (decide_eq_true (show u = V.non from e1))
  | some p =>
    obtain ⟨a, xs, e, _⟩ := e1
    subst e
    rfl
def sp_is_still (C : Addr) : Sp := spW (ι := Nat × List Nat) (fun _ _ => True) (fun _ i => [dRoom C i.1 i.2]) fun _ i => dB (stillB i.2)
theorem sd_is_still : SpD (sp_is_still C) [] [(dRoom C n B : Dn W)] (dB (stillB B)) := spW_sd (i := (n, B)) trivial
def sp_is_own (C : Addr) : Sp := spW (ι := Nat × List Nat) (fun _ _ => True) (fun _ i => [dRoom C i.1 i.2]) fun _ i => dB (ownB i.1 i.2)
theorem sd_is_own : SpD (sp_is_own C) [] [(dRoom C n B : Dn W)] (dB (ownB n B)) := spW_sd (i := (n, B)) trivial
/-! the laws' own -/
def sp_leven : Sp := spW (ι := Nat × Nat) (fun _ i => i.1 < 2 ^ 24) (fun _ i => [dN i.1, dN i.2]) fun _ i => dB (!par i.1 i.2)
theorem sd_leven (h : n < 2 ^ 24) : SpD sp_leven [] [(dN n : Dn W), dN m] (dB (!par n m)) := spW_sd (i := (n, m)) h
def lconL (n : Nat) (ws : List Nat) : List Nat := (List.range (2 ^ n)).filter fun v => (ws.map fun w => !par v w).all id
theorem lcon_mem {v : Nat} : v ∈ lconL n ws ↔ v < 2 ^ n ∧ ∀ w ∈ ws, par v w = false := by
  unfold lconL
  rw [List.mem_filter, List.mem_range, List.all_eq_true]
  constructor
  · rintro ⟨h1, h2⟩
    refine ⟨h1, fun w hw => ?_⟩
    have := h2 _ (List.mem_map_of_mem hw)
    simpa using this
  · rintro ⟨h1, h2⟩
    refine ⟨h1, fun x hx => ?_⟩
    obtain ⟨w, hw, rfl⟩ := List.mem_map.mp hx
    simp [h2 w hw]
theorem lcon_up : (lconL n ws).Pairwise (· < ·) := (List.pairwise_lt_range).filter _
theorem lcon_len : (lconL n ws).length ≤ 2 ^ n := by
  have := List.length_filter_le (fun v => (ws.map fun w => !par v w).all id) (List.range (2 ^ n))
  rwa [List.length_range] at this
def sp_lcon : Sp := spW (ι := Nat × List Nat) (fun _ i => i.1 ≤ 16 ∧ i.2.length ≤ 1000) (fun _ i => [dN i.1, dVs i.2]) fun _ i => dVs (lconL i.1 i.2)
theorem sd_lcon (h : n ≤ 16) (hl : ws.length ≤ 1000) : SpD sp_lcon [] [(dN n : Dn W), dVs ws] (dVs (lconL n ws)) := spW_sd (i := (n, ws)) ⟨h, hl⟩
structure SomeP (W : Wd) (i : Addr × Nat × Nat) : Prop where
  hp : IsPot W i.1
  n24 : i.2.1 ≤ 24
  m100 : i.2.2 ≤ 100
def sp_lsome : Sp := spW (ι := Addr × Nat × Nat) (fun W i => SomeP W i) (fun _ i => [dV (.ref i.1), dN i.2.1, dN i.2.2]) fun _ i => dEx (fun l => l.length ≤ i.2.2 ∧ ∀ v ∈ l, v < 2 ^ i.2.1) dVs
theorem sd_lsome (hp : IsPot W p) (h : n ≤ 24) (hm : m ≤ 100) : SpD sp_lsome [] [dV (.ref p), dN n, dN m] (dEx (fun l => l.length ≤ m ∧ ∀ v ∈ l, v < 2 ^ n) dVs : Dn W) := spW_sd (i := (p, n, m)) ⟨hp, h, hm⟩
/-- words even to one another -/
structure StillL (n m : Nat) (l : List Nat) : Prop where
  len : l.length ≤ m
  lt : ∀ v ∈ l, v < 2 ^ n
  ev : ∀ a ∈ l, ∀ b ∈ l, par a b = false
structure StillP (W : Wd) (i : Addr × Nat × Nat) : Prop where
  hp : IsPot W i.1
  n16 : i.2.1 ≤ 9
  m100 : i.2.2 ≤ 100
def sp_lstill : Sp := spW (ι := Addr × Nat × Nat) (fun W i => StillP W i) (fun _ i => [dV (.ref i.1), dN i.2.1, dN i.2.2]) fun _ i => dEx (fun l => StillL i.2.1 i.2.2 l) dVs
theorem sd_lstill (hp : IsPot W p) (h : n ≤ 9) (hm : m ≤ 100) : SpD sp_lstill [] [dV (.ref p), dN n, dN m] (dEx (fun l => StillL n m l) dVs : Dn W) := spW_sd (i := (p, n, m)) ⟨hp, h, hm⟩
theorem par_self {w : Nat} : par w w = decide (pc w % 2 = 1) := by
  unfold par
  rw [Nat.and_self]
end
end Vf

set_option Elab.async false
set_option linter.all false
set_option maxRecDepth 100000
set_option maxHeartbeats 4000000
namespace Vf
open PySem PySem.Spec PyProof.Rows L2
variable {W : Wd}
/-! ### cells whose content is told in part alone -/
def NVX (Ds : EnvT W) (cs : List (Nat × List V)) (ts : TS) (Es : EnvT W) (P : List (Nat × List V) → Prop) : Prop := ∀ (D : Ends) (σ : L2.St) (H G : Hp), CE W cs σ H G → W.inv G → EnvL Ds σ G →
  (∀ c σ' H' G', P c → CE W c σ' H' G' → W.L G G' → EnvL Es σ' G' → D.nx σ' H') → ts D σ H
section
variable {Ds Es Fs : EnvT W} {cs cs1 cs2 : List (Nat × List V)} {P Q : List (Nat × List V) → Prop} {d d1 d2 : Dn W} {te ti tl tb : TE} {t ta : TA} {tt : TT} {ts tu t1 t2 : TS} {i j k n m : Nat} {K : PySem.W.Frag} {xs ys zs : List V} {l : List Nat}
theorem nvx_of (h : NVC Ds cs ts Es cs1) (p : P cs1) : NVX Ds cs ts Es P := fun D σ H G ce iv en q => h D σ H G ce iv en fun σ' H' G' c l e => q cs1 σ' H' G' p c l e
theorem nvx_seqC (h : NVC Ds cs ts Fs cs1) (k : NVX Fs cs1 tu Es P) : NVX Ds cs (tSeq ts tu) Es P := fun D σ H G ce iv en q =>
  h _ σ H G ce iv en fun σ' H' G' ce' l e' => k D σ' H' G' ce' (W.step l iv) e' fun c σ2 H2 G2 p c2 l2 e2 => q c σ2 H2 G2 p c2 (W.trans l l2) e2
theorem nvx_seq (h : NVX Ds cs ts Fs Q) (k : ∀ c, Q c → NVX Fs c tu Es P) : NVX Ds cs (tSeq ts tu) Es P := fun D σ H G ce iv en q =>
  h _ σ H G ce iv en fun c σ' H' G' pc ce' l e' => k c pc D σ' H' G' ce' (W.step l iv) e' fun c2 σ2 H2 G2 p c2' l2 e2 => q c2 σ2 H2 G2 p c2' (W.trans l l2) e2
theorem nvx_wk (is : List Nat) (h : NVX Ds cs ts Es P) (e : forget Es is = Fs) : NVX Ds cs ts Fs P := fun D σ H G ce iv en q => h D σ H G ce iv en fun c σ' H' G' p c' l' e' => q c σ' H' G' p c' l' (e ▸ e'.forget is)
theorem nvx_imp (h : NVX Ds cs ts Es Q) (k : ∀ c, Q c → P c) : NVX Ds cs ts Es P := fun D σ H G ce iv en q => h D σ H G ce iv en fun c σ' H' G' p c' l' e' => q c σ' H' G' (k c p) c' l' e'
theorem nvx_append {ι : Type} {R : ι → Prop} {f : ι → V} (g : getC cs i = some xs) (h : EV (withC Ds cs) te (dEx R fun x => dV (f x))) (z : xs.length < 100000) :
    NVX Ds cs (tDrop (tBM K "list" rAppend (tVar i) (tCons te tNil))) Ds (fun c => ∃ x, R x ∧ c = setC cs i (xs ++ [f x])) := fun D σ H G ce iv en q =>
  nvv_appendX (Ds := Ds) (Fs := withC Ds cs) g h z (fun c => ∃ x, R x ∧ c = setC cs i (xs ++ [f x])) (fun x px => ⟨x, px, rfl⟩) D σ H G ce iv en (ce.env iv en) q
theorem nvx_volAppend {ι κ : Type} {R : ι → Prop} {f : ι → Dn W} {S : ι → κ → Prop} {f2 : κ → V} (h : EV (withC Ds cs) te (dEx R f)) (g : getC cs i = some xs) (ha : ∀ x, R x → EV ((withC Ds cs).set j (some (f x))) tb (dEx (S x) fun y => dV (f2 y))) (z : xs.length < 100000) (k : (cs.all fun c => !(Nat.beq c.1 j)) = true := by rfl) :
    NVX Ds cs (tSeq (tAsg te (gName j)) (tDrop (tBM K "list" rAppend (tVar i) (tCons tb tNil)))) (Ds.set j none) (fun c => ∃ x y, R x ∧ S x y ∧ c = setC cs i (xs ++ [f2 y])) := fun D σ H G ce iv en q =>
  h σ H _ (W.step (ce.up iv) iv) (ce.env iv en) fun v H1 l ⟨x, px, o⟩ => by
    obtain ⟨G1, c1, l1⟩ := ce.go l
    exact nvv_appendX (Ds := Ds.set j none) (Fs := (withC Ds cs).set j (some (f x))) g (ha x px) z (fun c => ∃ x y, R x ∧ S x y ∧ c = setC cs i (xs ++ [f2 y])) (fun y py => ⟨x, y, px, py, rfl⟩) D _ H1 G1 (c1.slot k) (W.step l1 iv) ((en.st l1).dropS) (((ce.env iv en).st l).set o) fun c σ2 H2 G2 pc c2 l2 e2 => q c σ2 H2 G2 pc c2 (W.trans l1 l2) e2
/-- for k in range(n), n told in part alone -/
theorem svx_forR {ι : Type} {Pn : ι → Prop} {f : ι → Nat} (I : Nat → List (Nat × List V) → Prop) (is : List Nat) (hl : AX (withC Ds cs) ta Pn fun x => [dN (f x)]) (hz : ∀ x, Pn x → f x < 2 ^ 62) (h0 : I 0 cs) (he : forget Ds is = Fs)
    (hs : ∀ k c, I k c → (c.all fun c => !(Nat.beq c.1 i)) = true) (hb : ∀ x k c, Pn x → k < f x → I k c → NVX (Fs.set i (some (dN k))) c ts Fs (I (k + 1))) (hk : ∀ x c, Pn x → I (f x) c → SVC Fs c tu d) :
    SVC Ds cs (tSeq (tFor (iRng1 ta) (gName i) ts) tu) d := fun D σ H G ce iv en q =>
  hl σ H _ (W.step (ce.up iv) iv) (ce.env iv en) fun x0 vs H1 px l1 o1 => by
    match vs, o1 with
    | [v], ⟨o1, _⟩ =>
      obtain ⟨G1, c1, lG⟩ := ce.go l1
      have iv1 := W.step lG iv
      have hz := hz x0 px
      refine ⟨(f x0 : Int), by rw [show v = V.int (f x0 : Int) from o1], by omega, by omega, ?_⟩
      refine for_range (lo := 0) (n := (f x0 : Int).toNat) (fun k σ' H' => ∃ c G', I k c ∧ CE W c σ' H' G' ∧ W.L G1 G' ∧ EnvL Fs σ' G') ⟨cs, G1, h0, c1, W.refl G1, he ▸ (en.st lG).forget is⟩ (fun k σ' H' hk hP => ?_) fun σ' H' hP => ?_
      · rw [Int.toNat_natCast] at hk
        obtain ⟨c, G', ic, cP, lP, eP⟩ := hP
        exact hb x0 k c px hk ic _ _ H' G' (cP.slot (hs k c ic)) (W.step lP iv1) (eP.set (show V.int (0 + (k : Int)) = V.int (k : Int) by rw [Int.zero_add])) fun c2 σ2 H2 G2 p2 c2' l2 e2 => ⟨c2, G2, p2, c2', W.trans lP l2, e2⟩
      · rw [Int.toNat_natCast] at hP
        obtain ⟨c, G', ic, cP, lP, eP⟩ := hP
        exact hk x0 c px ic D σ' H' G' cP (W.step lP iv1) eP fun v H2 l2 o => q v H2 (W.trans lG (W.trans lP l2)) o
/-- return the cell -/
theorem svc_ret (g : getC cs i = some xs) (h : d.ok = (dLst xs : Dn W).ok) : SVC Ds cs (tRet (tVar i)) d := fun D σ H G ce iv en q => by
  obtain ⟨p, e, hp⟩ := cell_at ce g
  refine ⟨.ref p, e, q _ H (ce.up iv) ?_⟩
  rw [h]
  refine ⟨p, rfl, ?_, hp⟩
  have : ∀ {cs : List (Nat × List V)} {σ : L2.St} {H G : Hp}, CE W cs σ H G → ∀ {xs : List V}, getC cs i = some xs → ∀ {p : Addr}, σ[i]? = some (some (.ref p)) → W.F p := by
    intro cs
    induction cs with
    | nil => intro σ H G _ xs g; cases g
    | cons c cs ih =>
      intro σ H G ⟨r, e1, f, _, h2⟩ xs g p e2
      have g : (bif Nat.beq c.1 i then some c.2 else getC cs i) = some xs := g
      cases kk : Nat.beq c.1 i with
      | true =>
        have := Nat.eq_of_beq_eq_true kk
        rw [this, e2] at e1
        cases e1
        exact f
      | false =>
        rw [kk] at g
        exact ih h2 g e2
  exact this ce g e
theorem svc_retX {ι : Type} {R : ι → Prop} {f : ι → Dn W} (g : getC cs i = some xs) (x : ι) (r : R x) (h : (f x).ok = (dLst xs : Dn W).ok) : SVC Ds cs (tRet (tVar i)) (dEx R f) := fun D σ H G ce iv en q =>
  svc_ret (d := f x) g h D σ H G ce iv en fun v H' l o => q v H' l ⟨x, r, o⟩
end
theorem od_isnB {W : Wd} {p q : Bool} : OpD (W := W) rNotB (dB p) (dB q) (dB (!decide (p = q))) := fun u v H Q iv e1 e2 k => ⟨p, q, e1, e2, k _ H (W.refl H) rfl⟩
theorem ev_lcRFM {W : Wd} {Ds : EnvT W} {t : TA} {tt : TT} {te : TE} {n i : Nat} {p : Nat → Bool} {g : Nat → Nat} (hl : AV Ds t [dN n]) (hz : n ≤ 100000) (ht : ∀ x < n, TV (Ds.set i (some (dN x))) tt (p x)) (hb : ∀ x < n, p x = true → EV (Ds.set i (some (dN x))) te (dN (g x))) : EV Ds (tLc (iRng1 t) (gName i) tt te [i]) (dVs (((List.range n).filter p).map g)) := by
  have := ev_lcR (g := fun x => .int (g x : Int)) hl hz ht hb
  unfold dVs vs
  rw [List.map_map]
  exact this
theorem bit_dec (w k : Nat) : decide ((w / 2 ^ k) &&& 1 = 1) = w.testBit k := by
  rw [Bool.eq_iff_iff, decide_eq_true_iff, bit_one]
/-! ### finding -/
theorem find_at {p : Nat → Bool} : ∀ {l : List Nat} {k o : Nat}, l[k]? = some o → (∀ z ∈ l.take k, p z = false) → p o = true → l.find? p = some o
  | [], _, _, h, _, _ => by simp at h
  | a :: l, 0, o, h, _, po => by
    have : a = o := by simpa using h
    subst this
    exact List.find?_cons_of_pos po
  | a :: l, k + 1, o, h, bf, po => by
    have pa : p a = false := bf a (by simp)
    rw [List.find?_cons_of_neg (by rw [pa]; simp)]
    exact find_at (k := k) (by simpa using h) (fun z hz => bf z (by rw [List.take_succ_cons]; exact List.mem_cons_of_mem _ hz)) po
def oddAt (ws : List Nat) (k : Nat) : Bool := ((ws.drop k).find? (par (ws.getD k 0))).isSome
theorem oddP_drop {ws : List Nat} : ∀ {k : Nat}, k ≤ ws.length → (∀ r, r < k → oddAt ws r = false) → oddP ws = oddP (ws.drop k)
  | 0, _, _ => by rw [List.drop_zero]
  | k + 1, hk, h => by
    rw [oddP_drop (k := k) (by omega) fun r hr => h r (by omega)]
    have hk' : k < ws.length := by omega
    have e : ws.drop k = ws[k] :: ws.drop (k + 1) := List.drop_eq_getElem_cons hk'
    have n := h k (by omega)
    unfold oddAt at n
    rw [getD_el hk'] at n
    rw [e] at n ⊢
    rw [oddP]
    cases q : (ws[k] :: ws.drop (k + 1)).find? (par ws[k]) with
    | some o =>
      rw [q] at n
      cases n
    | none => rfl
theorem oddP_end {ws : List Nat} (h : ∀ r, r < ws.length → oddAt ws r = false) : oddP ws = none := by
  rw [oddP_drop (Nat.le_refl _) h, List.drop_length]
  rfl
theorem oddP_hit {ws : List Nat} {k x o : Nat} (hx : ws[k]? = some x) (h : ∀ r, r < k → oddAt ws r = false) (f : (ws.drop k).find? (par x) = some o) : oddP ws = some (x, o) := by
  obtain ⟨hk, e1⟩ := List.getElem?_eq_some_iff.mp hx
  rw [oddP_drop (Nat.le_of_lt hk) h]
  have e : ws.drop k = x :: ws.drop (k + 1) := by rw [← e1]; exact List.drop_eq_getElem_cons hk
  rw [e] at f ⊢
  rw [oddP, f]
theorem oddAt_of {ws : List Nat} {k x : Nat} (hx : ws[k]? = some x) : oddAt ws k = ((ws.drop k).find? (par x)).isSome := by
  unfold oddAt
  rw [List.getD_eq_getElem?_getD, hx]
  rfl
end Vf
namespace Vf
open PySem PySem.Spec PyProof.Rows L2
variable {W : Wd}
section
variable {C p : Addr} {n m w : Nat} {A B ws l : List Nat}
def sp_two (C : Addr) : Sp := spW (ι := Nat × List Nat × List Nat) (fun _ _ => True) (fun _ i => [dRoom C i.1 i.2.1, dRoom C i.1 i.2.2]) fun _ _ => dB true
theorem sd_two : SpD (sp_two C) [] [(dRoom C n A : Dn W), dRoom C n B] (dB true) := spW_sd (i := (n, A, B)) trivial
def sp_besr (C : Addr) : Sp := spW (ι := Nat × List Nat × Nat × List Nat) (fun _ i => i.1 + i.2.2.1 ≤ 24) (fun _ i => [dRoom C i.1 i.2.1, dRoom C i.2.2.1 i.2.2.2]) fun _ _ => dB true
theorem sd_besr (h : n + m ≤ 24) : SpD (sp_besr C) [] [(dRoom C n A : Dn W), dRoom C m B] (dB true) := spW_sd (i := (n, A, m, B)) h
def sp_cutr (C : Addr) : Sp := spW (ι := Nat × List Nat × Nat) (fun _ i => i.2.2 < 2 ^ i.1) (fun _ i => [dRoom C i.1 i.2.1, dN i.2.2]) fun _ _ => dB true
theorem sd_cutr (h : w < 2 ^ n) : SpD (sp_cutr C) [] [(dRoom C n A : Dn W), dN w] (dB true) := spW_sd (i := (n, A, w)) h
end
end Vf

set_option Elab.async false
set_option linter.all false
set_option maxRecDepth 100000
set_option maxHeartbeats 4000000
namespace Vf
/-! ### the laws' own plain bases and sums -/
section
variable {B L ws : List Nat} {v w : Nat}
theorem lt_top {x y k : Nat} (e : x / 2 ^ (k + 1) = y / 2 ^ (k + 1)) (hx : x.testBit k = false) (hy : y.testBit k = true) : x < y := by
  have h1 : x % 2 ^ (k + 1) < 2 ^ k := Nat.lt_pow_two_of_testBit _ fun j hj => by
    rw [Nat.testBit_mod_two_pow]
    by_cases q : j = k
    · rw [q, hx, Bool.and_false]
    · rw [decide_eq_false (by omega), Bool.false_and]
  have h2 : 2 ^ k ≤ y % 2 ^ (k + 1) := Nat.ge_two_pow_of_testBit (by rw [Nat.testBit_mod_two_pow, hy, decide_eq_true (by omega)]; rfl)
  rw [← Nat.div_add_mod x (2 ^ (k + 1)), ← Nat.div_add_mod y (2 ^ (k + 1)), e]
  omega
theorem div_log {h b : Nat} : (h ^^^ b) / 2 ^ (b.log2 + 1) = h / 2 ^ (b.log2 + 1) := by
  rw [Nat.xor_div_two_pow, Nat.div_eq_of_lt (a := b) Nat.lt_log2_self, Nat.xor_zero]
theorem lt_of_bit {h b : Nat} (b0 : b ≠ 0) (k : h.testBit b.log2 = true) : h ^^^ b < h := lt_top div_log (by rw [Nat.testBit_xor, k, top_bit b0]; rfl) k
theorem ge_of_bit {h b : Nat} (b0 : b ≠ 0) (k : h.testBit b.log2 = false) : h < h ^^^ b := lt_top div_log.symm k (by rw [Nat.testBit_xor, k, top_bit b0]; rfl)
theorem min_x {h b : Nat} (b0 : b ≠ 0) : min h (h ^^^ b) = if h.testBit b.log2 = true then h ^^^ b else h := by
  by_cases k : h.testBit b.log2 = true
  · rw [if_pos k]
    exact Nat.min_eq_right (Nat.le_of_lt (lt_of_bit b0 k))
  · rw [if_neg k]
    exact Nat.min_eq_left (Nat.le_of_lt (ge_of_bit b0 (Bool.eq_false_iff.mpr k)))
theorem min_rest {h b : Nat} (b0 : b ≠ 0) : min h (h ^^^ b) = rest1 h b := by
  rw [min_x b0]
  rfl
theorem min_clear {r b : Nat} (r0 : r ≠ 0) : min b (b ^^^ r) = clear1 r b := by
  rw [min_x r0]
  rfl
theorem rest_snoc {k c : Nat} (h : B[k]? = some c) : restOf w (B.take (k + 1)) = rest1 (restOf w (B.take k)) c := by
  unfold restOf
  rw [List.take_add_one, h, List.foldl_append]
  rfl
/-- where the loop stands -/
structure Lpl (ws B : List Nat) : Prop where
  pv : Piv B
  sp : ∀ v, span B v ↔ span ws v
  ln : B.length ≤ ws.length
theorem Lpl.nil : Lpl [] [] := ⟨plain_nil.1, fun _ => Iff.rfl, Nat.le_refl _⟩
theorem Lpl.skip (h : Lpl ws B) (k : restOf w B = 0) : Lpl (ws ++ [w]) B := by
  refine ⟨h.pv, fun v => ?_, by rw [List.length_append]; exact Nat.le_succ_of_le h.ln⟩
  have hw : span ws w := (h.sp w).mp ((rest_zero h.pv w).mp k)
  rw [h.sp, span_append_of (ws := ws) (vs := [w]) fun x hx => by rw [List.mem_singleton.mp hx]; exact hw]
theorem Lpl.put (h : Lpl ws B) (k : restOf w B ≠ 0) : Lpl (ws ++ [w]) (B.map (clear1 (restOf w B)) ++ [restOf w B]) := by
  refine ⟨put_piv h.pv k fun x hx => rest_off h.pv w hx, fun v => ?_, ?_⟩
  · rw [put_span, rest_room h.pv, span_cons, h.sp, h.sp, ← span_cons]
    exact span_perm (List.perm_append_comm (l₁ := [w]) (l₂ := ws)) v
  · rw [List.length_append, List.length_append, List.length_map]
    exact Nat.succ_le_succ h.ln
theorem Lpl.bas (h : Lpl ws B) : (sortN B).reverse = bas ws := by
  refine bas_of ⟨?_, ?_⟩ fun v => ?_
  · exact piv_perm ((List.reverse_perm _).trans (sortN_perm B)).symm h.pv
  · rw [List.pairwise_reverse]
    exact sortN_lt (piv_nodup h.pv)
  · rw [span_perm ((List.reverse_perm _).trans (sortN_perm B)), h.sp]
theorem piv_lt {n : Nat} (h : ∀ v ∈ ws, v < 2 ^ n) (k : Lpl ws B) : ∀ b ∈ B, b < 2 ^ n := fun b hb => span_lt h ((k.sp b).mp (span_mem hb))
/-- all sums, one word behind another -/
def spanU (ws : List Nat) : List Nat := ws.foldl (fun f w => f ++ f.map (· ^^^ w)) [0]
theorem spanU_snoc : spanU (ws ++ [w]) = spanU ws ++ (spanU ws).map (· ^^^ w) := by
  unfold spanU
  rw [List.foldl_append]
  rfl
theorem spanU_len : ∀ ws : List Nat, (spanU ws).length = 2 ^ ws.length := by
  have : ∀ (ws f : List Nat), (ws.foldl (fun f w => f ++ f.map (· ^^^ w)) f).length = f.length * 2 ^ ws.length := fun ws => by
    induction ws with
    | nil => intro f; simp
    | cons w ws ih =>
      intro f
      rw [List.foldl_cons, ih, List.length_append, List.length_map, List.length_cons, Nat.pow_succ]
      rw [← Nat.two_mul, Nat.mul_comm 2 f.length, Nat.mul_assoc, Nat.mul_comm 2]
  intro ws
  have := this ws [0]
  rw [List.length_singleton, Nat.one_mul] at this
  exact this
theorem spanU_lt {n : Nat} (h : ∀ v ∈ ws, v < 2 ^ n) : ∀ v ∈ spanU ws, v < 2 ^ n := by
  have : ∀ (ws f : List Nat), (∀ v ∈ ws, v < 2 ^ n) → (∀ v ∈ f, v < 2 ^ n) → ∀ v ∈ ws.foldl (fun f w => f ++ f.map (· ^^^ w)) f, v < 2 ^ n := fun ws => by
    induction ws with
    | nil => intro f _ h; exact h
    | cons w ws ih =>
      intro f h1 h2
      refine ih _ (fun v hv => h1 v (List.mem_cons_of_mem _ hv)) fun v hv => ?_
      rcases List.mem_append.mp hv with k | k
      · exact h2 v k
      · obtain ⟨a, ha, rfl⟩ := List.mem_map.mp k
        exact Nat.xor_lt_two_pow (h2 a ha) (h1 w List.mem_cons_self)
  exact this ws [0] h fun v hv => by rw [List.mem_singleton.mp hv]; exact Nat.two_pow_pos n
theorem spanU_mem (h : Piv ws) (v : Nat) : v ∈ spanU ws ↔ span ws v := (sums_ok h).1 v
theorem spanU_nd (h : Piv ws) : (spanU ws).Nodup := (sums_ok h).2.1
end
open PySem PySem.Spec PyProof.Rows L2
variable {W : Wd}
section
variable {Ds Es Fs Gs : EnvT W} {d d1 d2 : Dn W} {te ti tl tb : TE} {t ta tk : TA} {tt : TT} {ts tu t1 t2 : TS} {i j k n m : Nat} {K : PySem.W.Frag} {xs ys zs : List V} {l ws : List Nat}
theorem cd_min : CrD (W := W) (fun xs H Q => ∃ i j, xs = [.int i, .int j] ∧ Q (.int (if j < i then j else i)) H) [dN n, dN m] (dN (min n m)) := fun vs H Q iv o q => by
  match vs, o with
  | [v, u], ⟨e1, e2, _⟩ =>
    refine ⟨n, m, by rw [show v = V.int (n : Int) from e1, show u = V.int (m : Int) from e2], ?_⟩
    have e : (if (m : Int) < (n : Int) then (m : Int) else (n : Int)) = ((min n m : Nat) : Int) := by
      split <;> omega
    rw [e]
    exact q _ H (W.refl H) rfl
theorem cd_max : CrD (W := W) (fun xs H Q => ∃ i j, xs = [.int i, .int j] ∧ Q (.int (if j > i then j else i)) H) [dN n, dN m] (dN (max n m)) := fun vs H Q iv o q => by
  match vs, o with
  | [v, u], ⟨e1, e2, _⟩ =>
    refine ⟨n, m, by rw [show v = V.int (n : Int) from e1, show u = V.int (m : Int) from e2], ?_⟩
    have e : (if (m : Int) > (n : Int) then (m : Int) else (n : Int)) = ((max n m : Nat) : Int) := by
      split <;> omega
    rw [e]
    exact q _ H (W.refl H) rfl
theorem open_env {σ : L2.St} {H : Hp} {ι : Type} {P : ι → Prop} {f : ι → Dn W} (e : Ds.get i = some (dEx P f)) (hi : Nat.ble (i + 1) Ds.n = true) (en : EnvL Ds σ H) : ∃ x, P x ∧ EnvL (Ds.set i (some (f x))) σ H := by
  obtain ⟨v, e1, x, px, o⟩ := en.get e hi
  have := EnvL.set (i := i) o en
  rw [set_id e1] at this
  exact ⟨x, px, this⟩
theorem nv_open {ι : Type} {P : ι → Prop} {f : ι → Dn W} (i : Nat) (e : Ds.get i = some (dEx P f)) (h : ∀ x, P x → NV (Ds.set i (some (f x))) ts Es) (hi : Nat.ble (i + 1) Ds.n = true := by rfl) : NV Ds ts Es := fun D σ H iv en q => by
  obtain ⟨x, px, en'⟩ := open_env e hi en
  exact h x px D σ H iv en' q
theorem sv_open {ι : Type} {P : ι → Prop} {f : ι → Dn W} (i : Nat) (e : Ds.get i = some (dEx P f)) (h : ∀ x, P x → SV (Ds.set i (some (f x))) ts d) (hi : Nat.ble (i + 1) Ds.n = true := by rfl) : SV Ds ts d := fun D σ H iv en q => by
  obtain ⟨x, px, en'⟩ := open_env e hi en
  exact h x px D σ H iv en' q
/-- a slot's meaning told in part alone -/
theorem nv_close {ι : Type} {P : ι → Prop} {f : ι → Dn W} {x : ι} (i : Nat) (h : NV Ds ts Gs) (g : Gs.get i = some (f x)) (px : P x) (hn : Fs.n = Gs.n) (k : AllIn (Gs.set i (some (dEx P f))) Fs.l) (hi : Nat.ble (i + 1) Gs.n = true := by rfl) : NV Ds ts Fs := fun D σ H iv en q => h D σ H iv en fun σ' H' l e => by
  obtain ⟨v, e1, o⟩ := e.get g hi
  have := EnvL.set (i := i) (d := dEx P f) (v := v) ⟨x, px, o⟩ e
  rw [set_id e1] at this
  exact q σ' H' l (this.sub hn k)
theorem ev_sortedRev (h : EV Ds te (dVs l)) : EV Ds (fun σ H Q => te σ H fun v H1 => rSortedKw K true [.bl true] [v] [.bl true] H1 Q) (dVs (sortN l).reverse) := fun σ H Q iv en q => h σ H _ iv en fun v H1 l1 ⟨a, e, g, ha⟩ => by
  subst e
  refine ⟨a, l.map fun i : Nat => (i : Int), rfl, rfl, SqL.of (by rw [← vs_int]; exact ha), fun ns' p pm od np => ?_⟩
  obtain ⟨D2, rfl, p2⟩ := back_vs pm
  have o2 : (D2.map fun i : Nat => (i : Int)).Pairwise (· ≥ ·) := od
  rw [List.pairwise_map] at o2
  have o3 : D2.reverse.Pairwise (· ≤ ·) := by
    rw [List.pairwise_reverse]
    exact o2.imp fun h => by omega
  have e : D2.reverse = sortN l := sort_uniq ((List.reverse_perm D2).trans p2) o3
  have e2 : D2 = (sortN l).reverse := by rw [← e, List.reverse_reverse]
  have iv1 := W.step l1 iv
  refine q _ _ (W.trans l1 (W.put iv1 (W.refl _) np)) ⟨p, rfl, W.fresh iv1 np, ?_⟩
  rw [upd_same, ← vs_int, e2]
theorem nv_forDX {ι : Type} {P : ι → Prop} {dr : ι → List (Dn W)} (is : List Nat) (hl : EV Ds tl (dEx P fun x => dLD (dr x))) (he : forget Ds is = Fs) (hb : ∀ x, P x → ∀ d ∈ dr x, NV (Fs.set i (some d)) ts Fs) :
    NV Ds (tFor (iList K tl) (gName i) ts) Fs := fun D σ H iv en q =>
  hl σ H _ iv en fun v H1 l1 ⟨x, px, o⟩ => by
    obtain ⟨a, xs, e, g, h, oxs⟩ := o
    subst e
    have iv1 := W.step l1 iv
    refine ⟨a, rfl, ⟨xs, .inl (.inl h)⟩, ?_⟩
    refine for_list (K := K) (a := a) (xs := xs) (fun k σ' H' => W.L H1 H' ∧ EnvL Fs σ' H') ⟨W.refl H1, he ▸ (en.st l1).forget is⟩ (fun k σ' H' _ hP => .inl (.inl (W.keep g hP.1 h))) (fun k y σ' H' hy hP => ?_) fun σ' H' hP => q σ' H' (W.trans l1 hP.1) hP.2
    obtain ⟨dd, hd, oy⟩ := (oxs.st hP.1).at hy
    exact hb x px dd hd _ _ H' (W.step hP.1 iv1) (hP.2.set oy) fun σ2 H2 l2 e2 => ⟨W.trans hP.1 l2, e2⟩
end
section
variable {n m : Nat} {ws l : List Nat} {C : Addr}
structure LplP (i : List Nat) : Prop where
  lt : ∀ v ∈ i, v < 2 ^ 24
  ln : i.length ≤ 1000
def sp_lplain : Sp := spW (ι := List Nat) (fun _ i => LplP i) (fun _ i => [dVs i]) fun _ i => dVs (bas i)
theorem sd_lplain (h : ∀ v ∈ ws, v < 2 ^ 24) (hl : ws.length ≤ 1000) : SpD sp_lplain [] [(dVs ws : Dn W)] (dVs (bas ws)) := spW_sd (i := ws) ⟨h, hl⟩
def sp_lspan2 : Sp := spW (ι := List Nat) (fun _ i => i.length ≤ 14) (fun _ i => [dVs i]) fun _ i => dVs (spanU i)
theorem sd_lspan2 (hl : ws.length ≤ 14) : SpD sp_lspan2 [] [(dVs ws : Dn W)] (dVs (spanU ws)) := spW_sd (i := ws) hl
structure RoomrP (i : Nat × List Nat) : Prop where
  n1 : 1 ≤ i.1
  n12 : i.1 ≤ 14
  lt : ∀ v ∈ i.2, v < 2 ^ i.1
  ln : i.2.length ≤ 40
/-- the law's own room_right -/
def sp_roomr : Sp := spW (ι := Nat × List Nat) (fun _ i => RoomrP i) (fun _ i => [dN i.1, dVs i.2]) fun _ _ => dB true
theorem sd_roomr (n1 : 1 ≤ n) (n12 : n ≤ 14) (h : ∀ v ∈ ws, v < 2 ^ n) (hl : ws.length ≤ 40) : SpD sp_roomr [] [(dN n : Dn W), dVs ws] (dB true) := spW_sd (i := (n, ws)) ⟨n1, n12, h, hl⟩
end
end Vf
namespace Vf
open PySem PySem.Spec PyProof.Rows L2
theorem env_close {W : Wd} {Fs Gs : EnvT W} {σ : L2.St} {H : Hp} {ι : Type} {P : ι → Prop} {f : ι → Dn W} {x : ι} (i : Nat) (e : EnvL Gs σ H) (g : Gs.get i = some (f x)) (px : P x) (hn : Fs.n = Gs.n) (k : AllIn (Gs.set i (some (dEx P f))) Fs.l) (hi : Nat.ble (i + 1) Gs.n = true := by rfl) : EnvL Fs σ H := by
  obtain ⟨v, e1, o⟩ := e.get g hi
  have := EnvL.set (i := i) (d := dEx P f) (v := v) ⟨x, px, o⟩ e
  rw [set_id e1] at this
  exact this.sub hn k
end Vf
namespace Vf
open PySem PySem.Spec PyProof.Rows L2
variable {W : Wd}
section
variable {n m N M : Nat} {ws l B : List Nat}
structure RoomrQ (N M : Nat) (i : Nat × List Nat) : Prop where
  n1 : 1 ≤ i.1
  nN : i.1 ≤ N
  lt : ∀ v ∈ i.2, v < 2 ^ i.1
  ln : i.2.length ≤ M
def sp_roomrN (N M : Nat) : Sp := spW (ι := Nat × List Nat) (fun _ i => RoomrQ N M i) (fun _ i => [dN i.1, dVs i.2]) fun _ _ => dB true
theorem sd_roomrN (n1 : 1 ≤ n) (nN : n ≤ N) (h : ∀ v ∈ ws, v < 2 ^ n) (hl : ws.length ≤ M) : SpD (sp_roomrN N M) [] [(dN n : Dn W), dVs ws] (dB true) := spW_sd (i := (n, ws)) ⟨n1, nN, h, hl⟩
/-- the law's contrary and the program's -/
theorem lcon_con (pl : Plain B) (n24 : n ≤ 24) (ltB : ∀ b ∈ B, b < 2 ^ n) (v : Nat) : v ∈ lconL n B ↔ span (bas (conB n B)) v := by rw [lcon_mem, con_span pl n24 ltB]
theorem lcon_spanL (pl : Plain B) (n24 : n ≤ 24) (ltB : ∀ b ∈ B, b < 2 ^ n) : SpanL (bas (conB n B)) (lconL n B) := ⟨lcon_con pl n24 ltB, lcon_up⟩
theorem SpanL.bas {B L : List Nat} (pl : Plain B) (h : SpanL B L) : bas L = B := (bas_of pl fun v => ⟨fun k => span_mem ((h.1 v).mpr k), span_sub fun w hw => (h.1 w).mp hw⟩).symm
theorem spanU_sort {D L : List Nat} (pl : Plain D) (h : SpanL D L) : sortN (spanU D) = L := (SpanL.sort (spanU_nd pl.1) (spanU_mem pl.1)).uniq h
/-- words of a part of which it is known more -/
theorem lcon_words : ∀ v, v ∈ lconL n ws ↔ v ∈ lconL n (bas ws) := fun v => by
  rw [lcon_mem, lcon_mem]
  have : (∀ w ∈ ws, par v w = false) ↔ ∀ w ∈ bas ws, par v w = false := by
    rw [par_span, par_span]
    exact ⟨fun h b hb => h b ((bas_span ws b).mp hb), fun h b hb => h b ((bas_span ws b).mpr hb)⟩
  rw [this]
end
end Vf
namespace Vf
open PySem PySem.Spec PyProof.Rows L2
theorem call_reprAS {X : Cx} {P : Program} {w : World} (K : PySem.W.Frag) {mg : Str → Option Value} {base : Heap} {C f : Addr} {fd : FuncData} {sp : List Code → Sp} {k : Nat} {ps : List Str} (F : GgOk P w K mg base k f fd ps sp) (hg : X.A.guards = some []) (hr : Room (k + 2) X.A)
    (hs : PySem.W.findIn K (.ref C) "__repr__" = some (some (.ref f))) (hf : PySem.W.isFn K (.ref f) = true) (hb : Binds K fd ps []) (e1 : X.prog = P := by rfl) (e2 : X.w = w := by rfl) (e3 : X.K = K := by rfl) (e4 : X.mg = mg := by rfl) (e5 : X.base = base := by rfl) : CallR X (.builtin "repr") (rReprA K C sp) := by
  subst e1 e2 e3 e4 e5
  exact call_reprA F hg hr hs hf hb
end Vf

set_option Elab.async false
set_option linter.all false
set_option maxRecDepth 100000
set_option maxHeartbeats 4000000
namespace Vf
open PySem PySem.Spec PyProof.Rows L2
variable {W : Wd}
section
variable {Ds Es Fs : EnvT W} {cs cs1 cs2 : List (Nat × List V)} {P Q : List (Nat × List V) → Prop} {d d1 d2 : Dn W} {te ti tl tb : TE} {t ta : TA} {tt : TT} {ts tu t1 t2 : TS} {i j k n m : Nat} {K : PySem.W.Frag} {xs ys zs : List V} {l : List Nat}
theorem svx_while (I : List (Nat × List V) → Prop) (μ : List (Nat × List V) → Nat) (b : List (Nat × List V) → Bool) (is : List Nat) (he : forget Ds is = Fs) (h0 : I cs) (ht : ∀ c, I c → TV (withC Fs c) tt (b c)) (hb : ∀ c, I c → b c = true → NVX Fs c ts Fs (fun c' => I c' ∧ μ c' < μ c))
    (hk : ∀ c, I c → b c = false → SVC Fs c tu d) : SVC Ds cs (tSeq (tWhile tt ts) tu) d := fun D σ H G ce iv en q => by
  refine ⟨fun m σ' H' => ∃ c G', I c ∧ μ c = m ∧ CE W c σ' H' G' ∧ W.L G G' ∧ EnvL Fs σ' G', ⟨μ cs, cs, G, h0, rfl, ce, W.refl G, he ▸ en.forget is⟩, fun m σ' H' hW => ?_⟩
  obtain ⟨c, G', ic, mc, cP, lP, eP⟩ := hW
  have iv' := W.step lP iv
  refine tv_run (ht c ic) cP iv' eP fun H1 G1 c1 l1 => ?_
  cases q2 : b c with
  | true =>
    refine (if_pos rfl).mpr ⟨fun σ2 H2 => ∃ c' G2, (I c' ∧ μ c' < μ c) ∧ CE W c' σ2 H2 G2 ∧ W.L G G2 ∧ EnvL Fs σ2 G2, fun σ2 H2 ⟨c', G2, hc, r⟩ => ⟨μ c', by omega, c', G2, hc.1, rfl, r⟩, ?_⟩
    exact hb c ic q2 _ σ' H1 G1 c1 (W.step l1 iv') (eP.st l1) fun c' σ2 H2 G2 pc c2 l2 e2 => ⟨c', G2, pc, c2, W.trans lP (W.trans l1 l2), e2⟩
  | false =>
    refine (if_neg Bool.false_ne_true).mpr ?_
    exact hk c ic q2 D σ' H1 G1 c1 (W.step l1 iv') (eP.st l1) fun v H2 l2 o => q v H2 (W.trans lP (W.trans l1 l2)) o
theorem getC_ne (ne : i ≠ j) : ∀ {cs : List (Nat × List V)}, getC (setC cs j xs) i = getC cs i
  | [] => rfl
  | c :: cs => by
    show getC (bif Nat.beq c.1 j then (j, xs) :: cs else c :: setC cs j xs) i = (bif Nat.beq c.1 i then some c.2 else getC cs i)
    cases k : Nat.beq c.1 j with
    | true =>
      have e := Nat.eq_of_beq_eq_true k
      have k2 : Nat.beq c.1 i = false := Bool.eq_false_iff.mpr fun z => ne ((Nat.eq_of_beq_eq_true z).symm.trans e)
      have k3 : Nat.beq j i = false := by rw [← e]; exact k2
      show (bif Nat.beq j i then some xs else getC cs i) = _
      rw [k2, k3]
      rfl
    | false =>
      show (bif Nat.beq c.1 i then some c.2 else getC (setC cs j xs) i) = _
      rw [getC_ne ne]
theorem nvx_appendPop (gi : getC cs i = some ys) (gj : getC cs j = some xs) (h : EV (withC Ds cs) te (dEx (fun k => k < xs.length) dN)) (z1 : ys.length < 100000) (z2 : xs.length < 100000) (ne : i ≠ j := by decide) :
    NVX Ds cs (tDrop (tBM K "list" rAppend (tVar i) (tCons (tBM K "list" rPopAt (tVar j) (tCons te tNil)) tNil))) Ds (fun c => ∃ k y, k < xs.length ∧ xs[k]? = some y ∧ c = setC (setC cs j (xs.eraseIdx k)) i (ys ++ [y])) := fun D σ H G ce iv en q => by
  obtain ⟨p, e, hp⟩ := cell_at ce gi
  obtain ⟨r, e2, hr⟩ := cell_at ce gj
  refine ⟨.ref p, e, .inl ⟨rfl, _, SqL.of hp⟩, .ref r, e2, .inl ⟨rfl, _, SqL.of hr⟩, ev_run h ce iv en fun v H1 G1 c1 l1 _ ⟨k, hk, o⟩ => ?_⟩
  have hy : xs[k]? = some xs[k] := List.getElem?_eq_getElem hk
  obtain ⟨r2, e3, hr2, c2⟩ := c1.change (ys := xs.eraseIdx k) gj
  rw [e2] at e3
  cases e3
  rw [show v = V.int (k : Int) from o]
  refine ⟨r, xs, k, k, xs[k], rfl, rfl, hr2, by omega, by omega, ?_, hy, ?_⟩
  · unfold seqIndex?
    have h0 : ¬ ((k : Int) < 0) := by omega
    have h1 : (0 : Int) ≤ (k : Int) := by omega
    have h2 : (k : Int) < (xs.length : Int) := by omega
    simp only [h0, if_false, h1, h2, decide_true, Bool.and_self, if_true, Int.toNat_natCast]
  · obtain ⟨p2, e4, hp2, c3⟩ := c2.change (i := i) (xs := ys) (ys := ys ++ [xs[k]]) (by rw [getC_ne ne]; exact gi)
    rw [e] at e4
    cases e4
    exact ⟨p, ys, xs[k], rfl, rfl, hp2, sl_lt (by omega), q _ _ _ _ ⟨k, xs[k], hk, hy, rfl⟩ c3 l1 (en.st l1)⟩
theorem nvc_ifX (h : TX (withC Ds cs) tt) (h1 : NVC Ds cs t1 Es cs1) (h2 : NVC Ds cs t2 Es cs1) : NVC Ds cs (tIfS tt t1 t2) Es cs1 := fun D σ H G ce iv en q =>
  h σ H _ (W.step (ce.up iv) iv) (ce.env iv en) fun b H1 l => by
    obtain ⟨G1, c1, l1⟩ := ce.go l
    cases b with
    | true => exact h1 D σ H1 G1 c1 (W.step l1 iv) (en.st l1) fun σ2 H2 G2 c2 l2 e2 => q σ2 H2 G2 c2 (W.trans l1 l2) e2
    | false => exact h2 D σ H1 G1 c1 (W.step l1 iv) (en.st l1) fun σ2 H2 G2 c2 l2 e2 => q σ2 H2 G2 c2 (W.trans l1 l2) e2
theorem nvc_sub' {Gs : EnvT W} (h : NVC Ds cs ts Gs cs1) (hn : Es.n = Gs.n) (k : AllIn Gs Es.l) : NVC Ds cs ts Es cs1 := fun D σ H G ce iv en q => h D σ H G ce iv en fun σ' H' G' c l e => q σ' H' G' c l (e.sub hn k)
theorem nvc_env {Gs : EnvT W} (h : NVC Ds cs ts Gs cs1) (k : ∀ σ H, EnvL Gs σ H → EnvL Es σ H) : NVC Ds cs ts Es cs1 := fun D σ H G ce iv en q => h D σ H G ce iv en fun σ' H' G' c l e => q σ' H' G' c l (k _ _ e)
theorem nvx_env {Gs : EnvT W} (h : NVX Ds cs ts Gs P) (k : ∀ σ H, EnvL Gs σ H → EnvL Es σ H) : NVX Ds cs ts Es P := fun D σ H G ce iv en q => h D σ H G ce iv en fun c σ' H' G' pc c' l e => q c σ' H' G' pc c' l (k _ _ e)
theorem pu_Ex {ι : Type} {R : ι → Prop} {f : ι → V} : Pu (dEx R fun x => dV (f x) : Dn W) := fun _ _ _ ⟨x, r, o⟩ => ⟨x, r, o⟩
/-- a value told in part alone and a new list -/
theorem sv_parXC {ι : Type} {R : ι → Prop} {f : ι → Dn W} (h : EV Ds ta' (dEx R f)) (h2 : FL Ds tb ys) (r : ∀ x, R x → SVC ((Ds.set i (some (f x))).set j none) [(j, ys)] tu d) (hj : Nat.ble (j + 1) Ds.n = true := by rfl) :
    SV Ds (tSeq (tPar i j (tCons ta' (tCons tb tNil))) tu) d := fun D σ H iv en q =>
  h σ H _ iv en fun v H1 l1 ⟨x, rx, o1⟩ =>
    h2 σ H1 _ (W.step l1 iv) (en.st l1) fun p H2 np fp l2 e2 => by
      have LG : W.L H (del p H2) := W.trans l1 l2
      have lj := Nat.le_of_ble_eq_true hj
      have ln := en.1
      refine ⟨v, .ref p, rfl, ?_⟩
      exact r x rx D _ H2 _ ⟨p, List.getElem?_set_self (by rw [List.length_set, ln]; exact lj), fp, e2, rfl⟩ (W.step LG iv) (((en.st LG).set ((f x).st l2 o1)).dropS) fun v H3 l3 o => q v H3 (W.trans LG l3) o
/-! a list made anew by list(range(..)) -/
theorem fl_listRg (hn : n ≤ 100000) (h : EV Ds te (dN n)) : FL Ds (tLstRg (tRg1 te)) (vs (List.range n)) := fun σ H Q iv en q => h σ H _ iv en fun v H1 l1 o1 => by
  have iv1 := W.step l1 iv
  refine ⟨n, o1, RgOk.of_le (by omega) (by omega) (by omega) (by omega), fun p np => q p _ (none_back iv1 l1 np) (W.fresh iv1 np) (by rw [del_upd np]; exact l1) ?_⟩
  rw [upd_same, rg_vs]
/-- all but the last one -/
theorem cutLast' (xs : List V) : cutV xs none (some (-1)) = xs.dropLast := by
  unfold cutV
  rw [HT.sIx_none]
  have e : HT.sIx xs.length xs.length (some (-1)) = xs.length - 1 := by
    unfold HT.sIx
    simp
    omega
  rw [e, List.drop_zero, Nat.sub_zero, List.dropLast_eq_take]
theorem ev_slL (h : EV Ds te (dVs l)) (h2 : EV Ds ti (dI (-1))) : EV Ds (tSl (rSlL K) te tNoPart (tPart ti)) (dVs l.dropLast) := fun σ H Q iv en q =>
  h σ H _ iv en fun v H1 l1 o1 => h2 σ H1 _ (W.step l1 iv) (en.st l1) fun u H2 l2 o2 => by
    have iv2 := W.step l2 (W.step l1 iv)
    have o1 := (dVs l).st l2 o1
    obtain ⟨a, e, _, ha⟩ := o1
    subst e
    refine ⟨-1, o2, a, _, rfl, SqL.of ha, fun p np => q _ _ (W.trans (W.trans l1 l2) (W.put iv2 (W.refl _) np)) ⟨p, rfl, W.fresh iv2 np, ?_⟩⟩
    rw [upd_same, cutLast']
    unfold vs
    rw [List.map_dropLast]
end
end Vf

set_option Elab.async false
set_option linter.all false
set_option maxRecDepth 100000
set_option maxHeartbeats 4000000
namespace Vf
/-! ### led words by |, pairs, still lists -/
section
variable {n m k w : Nat} {s l B ws : List Nat}
theorem or_add {x a : Nat} (h : x.testBit a = false) : x ||| 2 ^ a = x + 2 ^ a := by
  rw [Nat.add_comm, pow_add_off h]
  apply Nat.eq_of_testBit_eq
  intro i
  rw [Nat.testBit_or, Nat.testBit_xor, Nat.testBit_two_pow]
  by_cases q : a = i
  · subst q
    rw [h, decide_eq_true rfl]
    rfl
  · rw [decide_eq_false q, Bool.or_false, Bool.xor_false]
theorem ledK_off (h : s.Nodup) (hk : k < s.length) : (ledK s w k).testBit (s.getD k 0) = false := by
  unfold ledK
  have nd : (((List.range k).filter fun i => w.testBit i).map fun i => s.getD i 0).Nodup := by
    unfold List.Nodup
    rw [List.pairwise_map]
    refine ((List.nodup_range (n := k)).filter _).imp_of_mem fun {a b} ha hb ne e => ne ?_
    have h1 := List.mem_range.mp (List.mem_filter.mp ha).1
    have h2 := List.mem_range.mp (List.mem_filter.mp hb).1
    exact getD_inj h (by omega) (by omega) e
  rw [sumPow_bit nd, decide_eq_false]
  intro z
  obtain ⟨i, hi, e⟩ := List.mem_map.mp z
  have h1 := List.mem_range.mp (List.mem_filter.mp hi).1
  have := getD_inj h (by omega) hk e
  omega
theorem ledK_or (h : s.Nodup) (hk : k < s.length) : ledK s w (k + 1) = if w.testBit k = true then ledK s w k ||| 2 ^ s.getD k 0 else ledK s w k := by
  rw [ledK_step, or_add (ledK_off h hk)]
def pairB (n : Nat) : List Nat := (List.range n).map fun i => 3 <<< (2 * i)
theorem three_bit (x : Nat) : (3 : Nat).testBit x = decide (x < 2) := by
  match x with
  | 0 => rfl
  | 1 => rfl
  | x + 2 =>
    rw [decide_eq_false (by omega)]
    exact Nat.testBit_lt_two_pow (Nat.lt_of_lt_of_le (show 3 < 2 ^ 2 by decide) (Nat.pow_le_pow_right (by decide) (by omega)))
theorem three_eq (i : Nat) : 3 <<< (2 * i) = 2 ^ (2 * i) ^^^ 2 ^ (2 * i + 1) := by
  apply Nat.eq_of_testBit_eq
  intro j
  rw [Nat.testBit_shiftLeft, three_bit, Nat.testBit_xor, Nat.testBit_two_pow, Nat.testBit_two_pow]
  by_cases a : 2 * i = j
  · subst a
    simp
  · by_cases b : 2 * i + 1 = j
    · subst b
      simp
    · simp only [a, b, decide_false, Bool.xor_false]
      by_cases c : 2 * i ≤ j
      · simp [c]
        omega
      · simp [c]
theorem three_lt {i : Nat} (h : i < n) : 3 <<< (2 * i) < 2 ^ (2 * n) := by
  rw [Nat.shiftLeft_eq]
  have : 2 ^ (2 * i + 2) ≤ 2 ^ (2 * n) := pw_le (by omega)
  have p := Nat.two_pow_pos (2 * i)
  rw [Nat.pow_add] at this
  omega
theorem three_par {i j : Nat} (h : i < 12) : par (3 <<< (2 * i)) (3 <<< (2 * j)) = false := by
  rw [three_eq i, par_xor, par_pow (by omega), par_pow (by omega), Nat.testBit_shiftLeft, Nat.testBit_shiftLeft, three_bit, three_bit]
  by_cases e : i = j
  · subst e
    simp
  · have h1 : ¬ (2 * j ≤ 2 * i ∧ 2 * i - 2 * j < 2) := by omega
    have h2 : ¬ (2 * j ≤ 2 * i + 1 ∧ 2 * i + 1 - 2 * j < 2) := by omega
    have e1 : (decide (2 * i ≥ 2 * j) && decide (2 * i - 2 * j < 2)) = false := by
      rw [Bool.eq_false_iff]
      intro z
      simp only [Bool.and_eq_true, decide_eq_true_iff] at z
      exact h1 z
    have e2 : (decide (2 * i + 1 ≥ 2 * j) && decide (2 * i + 1 - 2 * j < 2)) = false := by
      rw [Bool.eq_false_iff]
      intro z
      simp only [Bool.and_eq_true, decide_eq_true_iff] at z
      exact h2 z
    rw [e1, e2]
    rfl
theorem pairB_lt : ∀ v ∈ pairB n, v < 2 ^ (2 * n) := fun v hv => by
  obtain ⟨i, hi, rfl⟩ := List.mem_map.mp hv
  exact three_lt (List.mem_range.mp hi)
theorem pairB_even (h : n ≤ 12) {a b : Nat} (ha : span (pairB n) a) (hb : span (pairB n) b) : par a b = false := by
  have h0 : ∀ x ∈ pairB n, ∀ y ∈ pairB n, par x y = false := fun x hx y hy => by
    obtain ⟨i, hi, rfl⟩ := List.mem_map.mp hx
    obtain ⟨j, hj, rfl⟩ := List.mem_map.mp hy
    have := List.mem_range.mp hi
    exact three_par (by omega)
  have h1 : ∀ c ∈ pairB n, par b c = false := fun c hc => by
    have := (par_span (v := c)).mp (fun x hx => h0 c hc x hx) b hb
    rwa [par_comm]
  have := par_span.mp h1 a ha
  rwa [par_comm]
theorem led_par {a b : Nat} (h : Seq n s) (n24 : n ≤ 24) (ha : a < 2 ^ n) : par (ledN s a) (ledN s b) = par a b := by
  unfold par
  rw [← ledN_and h.nd, ledN_pc h n24 (Nat.lt_of_le_of_lt Nat.and_le_left ha)]
/-- even to one another, each with each -/
def lstillB (ws : List Nat) : Bool := !(ws.any fun a => !((ws.map fun b => !par a b).all id))
theorem lstill_iff : lstillB ws = true ↔ ∀ a ∈ ws, ∀ b ∈ ws, par a b = false := by
  unfold lstillB
  rw [Bool.not_eq_true', List.any_eq_false]
  constructor
  · intro h a ha b hb
    have := h a ha
    rw [Bool.not_eq_true', Bool.not_eq_false, List.all_eq_true] at this
    have := this _ (List.mem_map_of_mem hb)
    simpa using this
  · intro h a ha
    rw [Bool.not_eq_true', Bool.not_eq_false, List.all_eq_true]
    intro x hx
    obtain ⟨b, hb, rfl⟩ := List.mem_map.mp hx
    simp [h a ha b hb]
theorem lstill_eq : lstillB ws = stillB ws := by rw [Bool.eq_iff_iff, lstill_iff, still_iff]
theorem still_bas (h : ∀ a ∈ ws, ∀ b ∈ ws, par a b = false) : stillB (bas ws) = true := by
  rw [still_span]
  intro a ha b hb
  have ha := (bas_span ws a).mp ha
  have hb := (bas_span ws b).mp hb
  exact still_span.mp (still_iff.mpr h) a ha b hb
end
open PySem PySem.Spec PyProof.Rows L2
variable {W : Wd}
section
variable {p : Addr} {n m : Nat} {s l ws : List Nat}
structure SeqP (W : Wd) (i : Addr × Nat) : Prop where
  hp : IsPot W i.1
  n24 : i.2 ≤ 24
def sp_lseq : Sp := spW (ι := Addr × Nat) (fun W i => SeqP W i) (fun _ i => [dV (.ref i.1), dN i.2]) fun _ i => dEx (fun s => Seq i.2 s) dVs
theorem sd_lseq (hp : IsPot W p) (h : n ≤ 24) : SpD sp_lseq [] [dV (.ref p), dN n] (dEx (fun s => Seq n s) dVs : Dn W) := spW_sd (i := (p, n)) ⟨hp, h⟩
structure LedQ (i : Nat × Nat × List Nat) : Prop where
  n24 : i.1 ≤ 24
  sq : Seq i.1 i.2.2
def sp_lled2 : Sp := spW (ι := Nat × Nat × List Nat) (fun _ i => LedQ i) (fun _ i => [dN i.2.1, dVs i.2.2]) fun _ i => dN (ledN i.2.2 i.2.1)
theorem sd_lled2 {w : Nat} (h : Seq n s) (n24 : n ≤ 24) : SpD sp_lled2 [] [(dN w : Dn W), dVs s] (dN (ledN s w)) := spW_sd (i := (n, w, s)) ⟨n24, h⟩
structure PairP (W : Wd) (i : Addr × Nat × Nat) : Prop where
  hp : IsPot W i.1
  n12 : i.2.1 ≤ 12
  m100 : i.2.2 ≤ 100
def sp_lpaired : Sp := spW (ι := Addr × Nat × Nat) (fun W i => PairP W i) (fun _ i => [dV (.ref i.1), dN i.2.1, dN i.2.2]) fun _ i => dEx (fun l => StillL (2 * i.2.1) i.2.2 l) dVs
theorem sd_lpaired (hp : IsPot W p) (h : n ≤ 12) (hm : m ≤ 100) : SpD sp_lpaired [] [dV (.ref p), dN n, dN m] (dEx (fun l => StillL (2 * n) m l) dVs : Dn W) := spW_sd (i := (p, n, m)) ⟨hp, h, hm⟩
def sp_lis_still : Sp := spW (ι := List Nat) (fun _ i => LplP i) (fun _ i => [dVs i]) fun _ i => dB (stillB i)
theorem sd_lis_still (h : ∀ v ∈ ws, v < 2 ^ 24) (hl : ws.length ≤ 1000) : SpD sp_lis_still [] [(dVs ws : Dn W)] (dB (stillB ws)) := spW_sd (i := ws) ⟨h, hl⟩
end
end Vf
namespace Vf
open PySem PySem.Spec PyProof.Rows L2
theorem ev_neg {W : Wd} {Ds : EnvT W} {te : TE} {i : Int} (h : EV Ds te (dI i)) : EV Ds (tUn (rU fun i => .int (-i)) te) (dI (-i)) := fun σ H Q iv en q => h σ H _ iv en fun v H1 l o => ⟨i, o, q _ H1 l rfl⟩
end Vf
namespace Vf
theorem vs_erase : ∀ (l : List Nat) (k : Nat), (vs l).eraseIdx k = vs (l.eraseIdx k)
  | [], _ => rfl
  | _ :: _, 0 => rfl
  | _ :: l, k + 1 => congrArg (List.cons _) (vs_erase l k)
end Vf
namespace Vf
section
variable {n m : Nat} {s B ws : List Nat}
theorem three_log (i : Nat) : (3 <<< (2 * i)).log2 = 2 * i + 1 := by
  have h0 : 3 <<< (2 * i) ≠ 0 := by
    rw [Nat.shiftLeft_eq]
    have := Nat.two_pow_pos (2 * i)
    omega
  rw [Nat.log2_eq_iff h0, Nat.shiftLeft_eq, Nat.pow_succ, Nat.pow_succ]
  have := Nat.two_pow_pos (2 * i)
  omega
theorem pairB_piv (m : Nat) : Piv (pairB m) := by
  refine ⟨?_, fun x hx => ?_⟩
  · unfold pairB
    rw [List.pairwise_map]
    refine List.pairwise_lt_range.imp fun {i j} k => ?_
    constructor
    · rw [three_log, Nat.testBit_shiftLeft, three_bit]
      have : ¬ 2 * i + 1 ≥ 2 * j := by omega
      simp [this]
    · rw [three_log, Nat.testBit_shiftLeft, three_bit]
      have : ¬ 2 * j + 1 - 2 * i < 2 := by omega
      simp [this]
  · obtain ⟨i, _, rfl⟩ := List.mem_map.mp hx
    rw [Nat.shiftLeft_eq]
    have := Nat.two_pow_pos (2 * i)
    omega
/-- as many dimensions as words, if each top is off in the others -/
theorem piv_dim (h : Piv B) : (bas B).length = B.length := by
  obtain ⟨m1, n1, l1⟩ := sums_ok h
  have k := (SpanL.sort n1 m1).len
  rw [sortN_len, l1] at k
  exact (pow_inj k).symm
theorem exB_dim (hs : Seq n s) (ltB : ∀ b ∈ B, b < 2 ^ n) : (bas (exB B s)).length = (bas B).length := by
  have e : bas (exB B s) = bas (exB (bas B) s) := plain_unique (bas_plain _) (bas_plain _) fun v => by
    rw [exB_span hs, exB_span hs]
    exact ⟨fun ⟨a, ha, e⟩ => ⟨a, (bas_span B a).mpr ha, e⟩, fun ⟨a, ha, e⟩ => ⟨a, (bas_span B a).mp ha, e⟩⟩
  rw [e]
  exact ex_dim hs (bas_plain B) (bas_lt ltB) (words_spanL (bas_plain B))
/-- all pairs led -/
def whB (m : Nat) (s : List Nat) : List Nat := (List.range m).map fun i => ledN s (3 <<< (2 * i))
theorem whB_eq : whB m s = exB (pairB m) s := by
  unfold whB exB pairB
  rw [List.map_map]
  rfl
theorem whB_len : (whB m s).length = m := by
  unfold whB
  rw [List.length_map, List.length_range]
theorem whB_lt (hs : Seq (2 * m) s) : ∀ v ∈ whB m s, v < 2 ^ (2 * m) := fun v hv => by
  obtain ⟨i, _, rfl⟩ := List.mem_map.mp hv
  exact ledN_lt hs _
theorem whB_even (hs : Seq (2 * m) s) (h : m ≤ 12) : ∀ a ∈ whB m s, ∀ b ∈ whB m s, par a b = false := fun a ha b hb => by
  obtain ⟨i, hi, rfl⟩ := List.mem_map.mp ha
  obtain ⟨j, hj, rfl⟩ := List.mem_map.mp hb
  have hi := List.mem_range.mp hi
  rw [led_par hs (by omega) (three_lt hi)]
  exact three_par (by omega)
theorem whB_dim (hs : Seq (2 * m) s) : (bas (whB m s)).length = m := by
  rw [whB_eq, exB_dim hs pairB_lt, piv_dim (pairB_piv m)]
  unfold pairB
  rw [List.length_map, List.length_range]
end
end Vf

set_option Elab.async false
set_option linter.all false
set_option maxRecDepth 100000
set_option maxHeartbeats 4000000
namespace Vf
/-! ### fill-ups -/
section
variable {n k w : Nat} {A B ws : List Nat}
theorem pc_mask (h : n ≤ 24) : pc (2 ^ n - 1) = n := by
  rw [← spots_len]
  have e : spots (2 ^ n - 1) = List.range n := by
    refine up_eq ?_ List.pairwise_lt_range fun v => ?_
    · unfold spots spotsK
      exact (List.pairwise_lt_range).filter _
    · rw [spots_mem, List.mem_range, Nat.testBit_two_pow_sub_one, decide_eq_true_iff]
      omega
  rw [e, List.length_range]
theorem par_mask {v : Nat} (h : v < 2 ^ n) : par v (2 ^ n - 1) = par v v := by
  unfold par
  rw [and_whole h, Nat.and_self]
theorem add_dim (pB : Plain B) (h : ¬ span B w) : (bas (B ++ [w])).length = B.length + 1 := by
  have l : Lpl B B := ⟨pB.1, fun _ => Iff.rfl, Nat.le_refl _⟩
  have r0 : restOf w B ≠ 0 := fun z => h ((rest_zero pB.1 w).mp z)
  have k := l.put r0
  have e : bas (B.map (clear1 (restOf w B)) ++ [restOf w B]) = bas (B ++ [w]) := plain_unique (bas_plain _) (bas_plain _) fun v => by rw [bas_span, bas_span, k.sp]
  rw [← e, piv_dim k.pv, List.length_append, List.length_map]
  rfl
noncomputable def lackW (n : Nat) (B : List Nat) : Option Nat := (bas (conB n B)).find? fun w => !decide (restOf w B = 0)
noncomputable def withB (n : Nat) (B : List Nat) : List Nat := bas (B ++ [2 ^ n - 1])
noncomputable def stepF (n : Nat) (B : List Nat) : List Nat := match lackW n B with
  | some w => bas (B ++ [w])
  | none => B
noncomputable def iterF (n : Nat) (B : List Nat) : Nat → List Nat
  | 0 => B
  | k + 1 => stepF n (iterF n B k)
noncomputable def fillB (n : Nat) (B : List Nat) : List Nat := iterF n (withB n B) (n / 2 - (withB n B).length)
structure Full (n : Nat) (B : List Nat) : Prop where
  pl : Plain B
  lt : ∀ b ∈ B, b < 2 ^ n
  st : stillB B = true
  ma : span B (2 ^ n - 1)
theorem app_lt (h : ∀ b ∈ B, b < 2 ^ n) (hw : w < 2 ^ n) : ∀ b ∈ B ++ [w], b < 2 ^ n := fun b hb => (List.mem_append.mp hb).elim (h b) fun k => by rw [List.mem_singleton.mp k]; exact hw
theorem app_even (h : ∀ a ∈ B, ∀ b ∈ B, par a b = false) (k : ∀ b ∈ B, par w b = false) (ww : par w w = false) : ∀ a ∈ B ++ [w], ∀ b ∈ B ++ [w], par a b = false := fun a ha b hb => by
  rcases List.mem_append.mp ha with p | p <;> rcases List.mem_append.mp hb with q | q
  · exact h a p b q
  · rw [List.mem_singleton.mp q, par_comm]
    exact k a p
  · rw [List.mem_singleton.mp p]
    exact k b q
  · rw [List.mem_singleton.mp p, List.mem_singleton.mp q]
    exact ww
theorem full_with (pl : Plain B) (n24 : n ≤ 24) (ltB : ∀ b ∈ B, b < 2 ^ n) (st : stillB B = true) (ev : n % 2 = 0) : Full n (withB n B) := by
  have h := still_iff.mp st
  refine ⟨bas_plain _, bas_lt (app_lt ltB (whole_lt n)), still_bas (app_even h (fun b hb => ?_) ?_), (bas_span _ _).mpr (span_mem (List.mem_append_right _ List.mem_cons_self))⟩
  · rw [par_comm, par_mask (ltB b hb)]
    exact h b hb b hb
  · rw [par_self, pc_mask n24, decide_eq_false (by omega)]
theorem lack_some (f : Full n B) (n24 : n ≤ 24) (h : 2 * B.length < n) : ∃ w, lackW n B = some w ∧ w < 2 ^ n ∧ ¬ span B w ∧ (∀ b ∈ B, par w b = false) ∧ par w w = false := by
  have d := con_dim f.pl n24 f.lt
  cases q : lackW n B with
  | none =>
    exfalso
    have all := List.find?_eq_none.mp q
    have sub : ∀ v, span (bas (conB n B)) v → span B v := fun v => span_sub fun w hw => by
      have := all w hw
      simp only [Bool.not_eq_true', decide_eq_false_iff_not, Decidable.not_not] at this
      exact (rest_zero f.pl.1 w).mp this
    have := dim_le (bas_plain _) f.pl sub
    omega
  | some w =>
    have m := List.mem_of_find?_eq_some q
    have p := List.find?_some q
    simp only [Bool.not_eq_true', decide_eq_false_iff_not] at p
    obtain ⟨h1, h2⟩ := (con_spanS f.pl n24 f.lt w).mp (span_mem m)
    refine ⟨w, rfl, h1, fun z => p ((rest_zero f.pl.1 w).mpr z), fun b hb => h2 b (span_mem hb), ?_⟩
    rw [← par_mask h1]
    exact h2 _ f.ma
theorem full_step (f : Full n B) (n24 : n ≤ 24) (h : 2 * B.length < n) : Full n (stepF n B) ∧ (stepF n B).length = B.length + 1 ∧ ∀ v, span B v → span (stepF n B) v := by
  obtain ⟨w, e, h1, h2, h3, h4⟩ := lack_some f n24 h
  unfold stepF
  rw [e]
  refine ⟨⟨bas_plain _, bas_lt (app_lt f.lt h1), still_bas (app_even (still_iff.mp f.st) h3 h4), (bas_span _ _).mpr (span_left f.ma)⟩, add_dim f.pl h2, fun v hv => (bas_span _ _).mpr (span_left hv)⟩
theorem iter_ok (f : Full n B) (n24 : n ≤ 24) : ∀ k, 2 * (B.length + k) ≤ n → Full n (iterF n B k) ∧ (iterF n B k).length = B.length + k ∧ ∀ v, span B v → span (iterF n B k) v
  | 0, _ => ⟨f, rfl, fun _ h => h⟩
  | k + 1, h => by
    obtain ⟨f1, l1, s1⟩ := iter_ok f n24 k (by omega)
    obtain ⟨f2, l2, s2⟩ := full_step f1 n24 (by omega)
    exact ⟨f2, by show (stepF n _).length = _; omega, fun v hv => s2 v (s1 v hv)⟩
theorem fill_ok (pl : Plain B) (n24 : n ≤ 24) (ltB : ∀ b ∈ B, b < 2 ^ n) (st : stillB B = true) (ev : n % 2 = 0) : Full n (fillB n B) ∧ 2 * (fillB n B).length = n ∧ ∀ v, span B v → span (fillB n B) v := by
  have f := full_with pl n24 ltB st ev
  have d := still_dim f.pl n24 f.lt f.st
  obtain ⟨f1, l1, s1⟩ := iter_ok f n24 (n / 2 - (withB n B).length) (by omega)
  exact ⟨f1, by show 2 * (iterF n _ _).length = n; omega, fun v hv => s1 v ((bas_span _ _).mpr (span_left hv))⟩
theorem own_of_full (f : Full n B) (h : 2 * B.length = n) : ownB n B = true := by
  unfold ownB
  rw [f.st, decide_eq_true h]
  rfl
theorem own_mask (pl : Plain B) (n24 : n ≤ 24) (ltB : ∀ b ∈ B, b < 2 ^ n) (h : ownB n B = true) : span B (2 ^ n - 1) := by
  have e := (own_iff pl n24 ltB).mp h
  have st : stillB B = true := by
    unfold ownB at h
    exact (Bool.and_eq_true _ _ |>.mp h).1
  have s := still_span.mp st
  rw [e, con_spanS pl n24 ltB]
  refine ⟨whole_lt n, fun b hb => ?_⟩
  rw [par_comm, par_mask (span_lt ltB hb)]
  exact s b hb b hb
theorem own_with (pl : Plain B) (n24 : n ≤ 24) (ltB : ∀ b ∈ B, b < 2 ^ n) (h : ownB n B = true) : withB n B = B := by
  have m := own_mask pl n24 ltB h
  exact plain_unique (bas_plain _) pl fun v => by
    unfold withB
    rw [bas_span, span_append_of fun x hx => by rw [List.mem_singleton.mp hx]; exact m]
theorem own_len (h : ownB n B = true) : 2 * B.length = n := by
  unfold ownB at h
  exact of_decide_eq_true (Bool.and_eq_true _ _ |>.mp h).2
theorem own_fill (pl : Plain B) (n24 : n ≤ 24) (ltB : ∀ b ∈ B, b < 2 ^ n) (h : ownB n B = true) : fillB n B = B := by
  have l := own_len h
  unfold fillB
  rw [own_with pl n24 ltB h, show n / 2 - B.length = 0 by omega]
  rfl
def prodN : Nat → Nat
  | 0 => 1
  | k + 1 => prodN k * ((2 <<< k) + 1)
theorem prodN_pos : ∀ k, 1 ≤ prodN k
  | 0 => Nat.le_refl _
  | k + 1 => Nat.mul_pos (prodN_pos k) (Nat.succ_pos _)
noncomputable def countN (n : Nat) (B : List Nat) : Nat := if n % 2 = 1 then 0 else prodN (n / 2 - (withB n B).length)
end
open PySem PySem.Spec PyProof.Rows L2
variable {W : Wd}
section
variable {C : Addr} {n m w : Nat} {A B ws : List Nat} {X : Cx}
theorem op_mulE {X : Cx} : OpR X (binaryOp .Mult) (fun x y H Q => ∃ n m : Nat, x = .int (n : Int) ∧ y = .int (m : Int) ∧ m ≤ 4294967296 ∧ Q (.int ((n * m : Nat) : Int)) H) := by
  intro pins s σ H x y v u Q I rx ry h
  obtain ⟨n, m, rfl, rfl, c, q⟩ := h
  rw [Int.natCast_mul] at q
  exact op_mul pins s σ H _ _ v u Q I rx ry ⟨_, _, rfl, rfl, show CMul (n : Int) (m : Int) from Or.inr ⟨by omega, by omega⟩, q⟩
theorem od_mulE (h : m ≤ 4294967296) : OpD (W := W) (fun x y H Q => ∃ n m : Nat, x = .int (n : Int) ∧ y = .int (m : Int) ∧ m ≤ 4294967296 ∧ Q (.int ((n * m : Nat) : Int)) H) (dN n) (dN m) (dN (n * m)) := fun x y H Q iv e1 e2 q => ⟨n, m, e1, e2, h, q _ H (W.refl H) rfl⟩
theorem od_orL {r r' : R2} {d1 d2 d : Dn W} (h : OpD r d1 d2 d) : OpD (fun x y H Q => r x y H Q ∨ r' x y H Q) d1 d2 d := fun x y H Q iv o1 o2 q => .inl (h x y H Q iv o1 o2 q)
theorem od_orR {r r' : R2} {d1 d2 d : Dn W} (h : OpD r' d1 d2 d) : OpD (fun x y H Q => r x y H Q ∨ r' x y H Q) d1 d2 d := fun x y H Q iv o1 o2 q => .inr (h x y H Q iv o1 o2 q)
theorem od_neNon : OpD (W := W) rNe (dV .non) (dV .non) (dB false) := fun u v H Q iv e1 e2 k => by
  rw [show u = V.non from e1, show v = V.non from e2]
  exact ⟨rfl, k _ H (W.refl H) rfl⟩
theorem od_isR : OpD (W := W) (fun x y H Q => y = .non ∧ Q (.bl (decide (x = .non))) H) (dRoom C n B) (dV .non) (dB false) := fun u v H Q iv e1 e2 k => by
  obtain ⟨a, dx, b, e, _⟩ := e1
  subst e
  exact ⟨e2, k _ H (W.refl H) rfl⟩
/-! the defs -/
def sp_check_still (C : Addr) : Sp := spW (ι := Nat × List Nat) (fun _ i => stillB i.2 = true) (fun _ i => [dRoom C i.1 i.2]) fun _ _ => dV .non
theorem sd_check_still (h : stillB B = true) : SpD (sp_check_still C) [] [(dRoom C n B : Dn W)] (dV .non) := spW_sd (i := (n, B)) h
def sp_room_with (C : Addr) : Sp := spW (ι := Nat × List Nat × Nat) (fun _ i => i.2.2 < 2 ^ i.1) (fun _ i => [dRoom C i.1 i.2.1, dN i.2.2]) fun _ i => dRoom C i.1 (bas (i.2.1 ++ [i.2.2]))
theorem sd_room_with (h : w < 2 ^ n) : SpD (sp_room_with C) [] [(dRoom C n B : Dn W), dN w] (dRoom C n (bas (B ++ [w]))) := spW_sd (i := (n, B, w)) h
def sp_all_on : Sp := spW (ι := Nat) (fun _ i => i ≤ 24) (fun _ i => [dN i]) fun _ i => dN (2 ^ i - 1)
theorem sd_all_on (h : n ≤ 24) : SpD sp_all_on [] [(dN n : Dn W)] (dN (2 ^ n - 1)) := spW_sd (i := n) h
def sp_with_all (C : Addr) : Sp := spW (ι := Nat × List Nat) (fun _ _ => True) (fun _ i => [dRoom C i.1 i.2]) fun _ i => dRoom C i.1 (withB i.1 i.2)
theorem sd_with_all : SpD (sp_with_all C) [] [(dRoom C n B : Dn W)] (dRoom C n (withB n B)) := spW_sd (i := (n, B)) trivial
def sp_lacking_dim (C : Addr) : Sp := spW (ι := Nat × List Nat) (fun _ i => i.2.length ≤ i.1 / 2) (fun _ i => [dRoom C i.1 i.2]) fun _ i => dN (i.1 / 2 - i.2.length)
theorem sd_lacking_dim (h : B.length ≤ n / 2) : SpD (sp_lacking_dim C) [] [(dRoom C n B : Dn W)] (dN (n / 2 - B.length)) := spW_sd (i := (n, B)) h
def dON (o : Option Nat) : Dn W := match o with
  | none => dV .non
  | some w => dN w
def sp_lacking_word (C : Addr) : Sp := spW (ι := Nat × List Nat) (fun _ _ => True) (fun _ i => [dRoom C i.1 i.2]) fun _ i => dON (lackW i.1 i.2)
theorem sd_lacking_word : SpD (sp_lacking_word C) [] [(dRoom C n B : Dn W)] (dON (lackW n B)) := spW_sd (i := (n, B)) trivial
noncomputable def dFill (C : Addr) (n : Nat) (B : List Nat) : Dn W := if n % 2 = 1 then dV .non else dRoom C n (fillB n B)
def sp_filled (C : Addr) : Sp := spW (ι := Nat × List Nat) (fun _ i => stillB i.2 = true) (fun _ i => [dRoom C i.1 i.2]) fun _ i => dFill C i.1 i.2
theorem sd_filled (h : stillB B = true) : SpD (sp_filled C) [] [(dRoom C n B : Dn W)] (dFill C n B) := spW_sd (i := (n, B)) h
def sp_fill_count (C : Addr) : Sp := spW (ι := Nat × List Nat) (fun _ i => stillB i.2 = true) (fun _ i => [dRoom C i.1 i.2]) fun _ i => dN (countN i.1 i.2)
theorem sd_fill_count (h : stillB B = true) : SpD (sp_fill_count C) [] [(dRoom C n B : Dn W)] (dN (countN n B)) := spW_sd (i := (n, B)) h
structure LioP (i : Nat × List Nat) : Prop where
  lt : ∀ v ∈ i.2, v < 2 ^ 24
  ln : i.2.length ≤ 1000
def sp_lis_own : Sp := spW (ι := Nat × List Nat) (fun _ i => LioP i) (fun _ i => [dN i.1, dVs i.2]) fun _ i => dB (ownB i.1 i.2)
theorem sd_lis_own (h : ∀ v ∈ ws, v < 2 ^ 24) (hl : ws.length ≤ 1000) : SpD sp_lis_own [] [(dN n : Dn W), dVs ws] (dB (ownB n ws)) := spW_sd (i := (n, ws)) ⟨h, hl⟩
end
end Vf
namespace Vf
open PySem PySem.Spec PyProof.Rows L2
variable {W : Wd} {n N M : Nat} {ws : List Nat}
structure RoomrS (N M : Nat) (i : Nat × List Nat) : Prop where
  n1 : 1 ≤ i.1
  nN : i.1 ≤ N
  st : StillL i.1 M i.2
/-- room_right of still rooms -/
def sp_roomrS (N M : Nat) : Sp := spW (ι := Nat × List Nat) (fun _ i => RoomrS N M i) (fun _ i => [dN i.1, dVs i.2]) fun _ _ => dB true
theorem sd_roomrS (n1 : 1 ≤ n) (nN : n ≤ N) (h : StillL n M ws) : SpD (sp_roomrS N M) [] [(dN n : Dn W), dVs ws] (dB true) := spW_sd (i := (n, ws)) ⟨n1, nN, h⟩
end Vf

set_option Elab.async false
set_option linter.all false
set_option maxRecDepth 100000
set_option maxHeartbeats 4000000
namespace Vf
/-! ### papers -/
inductive Pap where
  | none
  | odd (a b : Nat)
  | lacks (a : Nat)
noncomputable def paperN (n : Nat) (B : List Nat) : Pap := match oddP B with
  | some p => .odd p.1 p.2
  | Option.none => match lackW n B with
    | some w => .lacks w
    | Option.none => .none
def Pap.isNone : Pap → Bool
  | .none => true
  | _ => false
/-- a right one -/
def RightP (n : Nat) (B : List Nat) : Pap → Prop
  | .none => False
  | .odd a b => span B a ∧ span B b ∧ par a b = true
  | .lacks a => a < 2 ^ n ∧ ¬ span B a ∧ ∀ b ∈ B, par a b = false
/-- within the places -/
def PapLt (n : Nat) : Pap → Prop
  | .none => True
  | .odd a b => a < 2 ^ n ∧ b < 2 ^ n
  | .lacks a => a < 2 ^ n
noncomputable def whyB (n : Nat) (B : List Nat) : Pap → Bool
  | .none => false
  | .odd a b => (decide (restOf a B = 0) && (decide (restOf b B = 0) && par a b))
  | .lacks a => (decide (restOf a (bas (conB n B)) = 0) && !decide (restOf a B = 0))
section
variable {n : Nat} {B : List Nat} {p : Pap}
theorem oddP_some {B : List Nat} {p : Nat × Nat} (h : oddP B = some p) : p.1 ∈ B ∧ p.2 ∈ B ∧ par p.1 p.2 = true := by
  induction B with
  | nil =>
    rw [show oddP [] = none from rfl] at h
    cases h
  | cons w B ih =>
    rw [oddP] at h
    cases q : (w :: B).find? (par w) with
    | some o =>
      rw [q] at h
      have h : some (w, o) = some p := h
      have h := Option.some.inj h
      have h3 := List.find?_some q
      have h4 := List.mem_of_find?_eq_some q
      rw [← h]
      exact ⟨List.mem_cons_self, h4, h3⟩
    | none =>
      rw [q] at h
      have h : oddP B = some p := h
      obtain ⟨h1, h2, h3⟩ := ih h
      exact ⟨List.mem_cons_of_mem _ h1, List.mem_cons_of_mem _ h2, h3⟩
theorem paper_right (pl : Plain B) (n24 : n ≤ 24) (ltB : ∀ b ∈ B, b < 2 ^ n) (h : paperN n B = p) (k : p.isNone = false) : RightP n B p := by
  unfold paperN at h
  cases q : oddP B with
  | some r =>
    rw [q] at h
    subst h
    obtain ⟨h1, h2, h3⟩ := oddP_some q
    exact ⟨span_mem h1, span_mem h2, h3⟩
  | none =>
    rw [q] at h
    cases q2 : lackW n B with
    | some w =>
      rw [q2] at h
      subst h
      have m := List.mem_of_find?_eq_some q2
      have r := List.find?_some q2
      simp only [Bool.not_eq_true', decide_eq_false_iff_not] at r
      obtain ⟨h1, h2⟩ := (con_spanS pl n24 ltB w).mp (span_mem m)
      exact ⟨h1, fun z => r ((rest_zero pl.1 w).mpr z), fun b hb => h2 b (span_mem hb)⟩
    | none =>
      rw [q2] at h
      subst h
      cases k
theorem right_none (pl : Plain B) (n24 : n ≤ 24) (ltB : ∀ b ∈ B, b < 2 ^ n) (h : RightP n B p) : ownB n B = false := by
  rw [Bool.eq_false_iff]
  intro o
  have e := (own_iff pl n24 ltB).mp o
  cases p with
  | none => exact h
  | odd a b =>
    obtain ⟨h1, h2, h3⟩ := h
    have := ((con_spanS pl n24 ltB a).mp (e ▸ h1)).2 b h2
    rw [h3] at this
    cases this
  | lacks a =>
    obtain ⟨h1, h2, h3⟩ := h
    refine h2 ?_
    rw [e, con_span pl n24 ltB]
    exact ⟨h1, h3⟩
theorem paper_own (pl : Plain B) (n24 : n ≤ 24) (ltB : ∀ b ∈ B, b < 2 ^ n) : (paperN n B).isNone = ownB n B := by
  cases h : paperN n B with
  | none =>
    unfold paperN at h
    cases q : oddP B with
    | some r =>
      rw [q] at h
      cases h
    | none =>
      rw [q] at h
      cases q2 : lackW n B with
      | some w =>
        rw [q2] at h
        cases h
      | none =>
        have all := List.find?_eq_none.mp q2
        have sub : ∀ v, span (bas (conB n B)) v → span B v := fun v => span_sub fun w hw => by
          have := all w hw
          simp only [Bool.not_eq_true', decide_eq_false_iff_not, Decidable.not_not] at this
          exact (rest_zero pl.1 w).mp this
        have st : stillB B = true := by
          unfold stillB
          rw [q]
          rfl
        have sub2 := (still_con pl n24 ltB).mp st
        symm
        show ownB n B = true
        exact (own_iff pl n24 ltB).mpr (plain_unique pl (bas_plain _) fun v => ⟨sub2 v, sub v⟩)
  | odd a b => exact (right_none pl n24 ltB (paper_right pl n24 ltB h rfl)).symm
  | lacks a => exact (right_none pl n24 ltB (paper_right pl n24 ltB h rfl)).symm
theorem right_lt (ltB : ∀ b ∈ B, b < 2 ^ n) (h : RightP n B p) : PapLt n p := by
  cases p with
  | none => trivial
  | odd a b => exact ⟨span_lt ltB h.1, span_lt ltB h.2.1⟩
  | lacks a => exact h.1
theorem right_why (pl : Plain B) (n24 : n ≤ 24) (ltB : ∀ b ∈ B, b < 2 ^ n) (h : RightP n B p) : whyB n B p = true := by
  cases p with
  | none => exact h.elim
  | odd a b =>
    obtain ⟨h1, h2, h3⟩ := h
    show (_ && (_ && _)) = true
    rw [decide_eq_true ((rest_zero pl.1 a).mpr h1), decide_eq_true ((rest_zero pl.1 b).mpr h2), h3]
    rfl
  | lacks a =>
    obtain ⟨h1, h2, h3⟩ := h
    show (_ && !_) = true
    rw [decide_eq_true ((rest_zero (bas_plain _).1 a).mpr ((con_span pl n24 ltB a).mpr ⟨h1, h3⟩)), decide_eq_false fun z => h2 ((rest_zero pl.1 a).mp z)]
    rfl
end
open PySem PySem.Spec PyProof.Rows L2
variable {W : Wd}
def dPap : Pap → Dn W
  | .none => dV .non
  | .odd a b => dTD [dS "odd", dN a, dN b]
  | .lacks a => dTD [dS "lacks", dN a]
section
variable {Ds : EnvT W} {d d1 d2 d3 : Dn W} {ds : List (Dn W)} {te ta tb tc : TE} {C : Addr} {n m k : Nat} {A B ws : List Nat} {K : PySem.W.Frag} {p : Pap} {r r' : R2}
theorem cd_isiT {S T : String} {b : Bool} (h : ∀ v H, d.ok v H → TyOf K H v (.type S)) (e : PySem.W.kitOne K (.type S) (.type T) = some b) : CrD (W := W) (rIsi K) [d, dV (.ty T)] (dB b) := fun vs H Q iv o q => by
  match vs, o with
  | [v, u], ⟨o1, o2, _⟩ =>
    rw [show u = V.ty T from o2]
    exact ⟨v, .ty T, .type S, .type T, b, rfl, .ty _, .base (h v H o1), e, q _ H (W.refl H) rfl⟩
theorem ty_non : ∀ v H, (dV .non : Dn W).ok v H → TyOf K H v (.type "NoneType") := fun v H o => by
  rw [show v = V.non from o]
  exact .non
theorem ty_TD : ∀ v H, (dTD ds).ok v H → TyOf K H v (.type "tuple") := fun v H ⟨a, xs, e, _, h, _⟩ => by
  subst e
  exact .tup h
theorem ty_S {x : Str} : ∀ v H, (dS x : Dn W).ok v H → TyOf K H v (.type "str") := fun v H o => by
  rw [show v = V.str x from o]
  exact .str x
theorem od_ixTD (h : ds[k]? = some d) : OpD (W := W) (rIxT K) (dTD ds) (dN k) d := fun u v H Q iv ⟨a, xs, e, g, h1, o⟩ e2 q => by
  subst e
  rw [show v = V.int (k : Int) from e2]
  have lk : k < xs.length := by
    rw [o.length]
    exact (List.getElem?_eq_some_iff.mp h).1
  have hx : xs[k]? = some xs[k] := List.getElem?_eq_getElem lk
  have ok : d.ok xs[k] H := by
    have : ∀ {ds : List (Dn W)} {xs : List V} {k : Nat} {d : Dn W} {x : V}, OkL ds xs H → ds[k]? = some d → xs[k]? = some x → d.ok x H := by
      intro ds
      induction ds with
      | nil => intro xs k d x _ h; simp at h
      | cons d0 ds ih =>
        intro xs k d x o h hx
        cases xs with
        | nil => exact o.elim
        | cons x0 xs =>
          cases k with
          | zero =>
            have e1 : d0 = d := by simpa using h
            have e2 : x0 = x := by simpa using hx
            subst e1 e2
            exact o.1
          | succ k => exact ih o.2 (by simpa using h) (by simpa using hx)
    exact this o h hx
  exact ⟨a, xs, k, xs[k], rfl, rfl, .inl (.inl h1), atI_nat (j := k) hx, q _ H (W.refl H) ok⟩
theorem cd_lenTD : CrD (W := W) (fun xs H Q => ∃ p ys, xs = [.ref p] ∧ (SqL K H p ys ∨ SqT K H p ys) ∧ Q (.int ys.length) H) [dTD ds] (dN ds.length) := fun vs H Q iv o q => by
  match vs, o with
  | [v], ⟨⟨a, xs, e, g, h, o⟩, _⟩ =>
    subst e
    exact ⟨a, xs, rfl, .inr (.inl (.inl h)), by rw [o.length]; exact q _ H (W.refl H) rfl⟩
theorem ev_chainT (ha : EV Ds ta d1) (hb : EV Ds tb d2) (h1 : OpD r d1 d2 (dB true)) (hc : EV Ds tc d3) (h2 : OpD r' d2 d3 d) : EV Ds (tChain r r' ta tb tc) d := fun σ H Q iv en q =>
  ha σ H _ iv en fun x H1 l1 o1 => hb σ H1 _ (W.step l1 iv) (en.st l1) fun y H2 l2 o2 => by
    have iv2 := W.step l2 (W.step l1 iv)
    refine h1 x y H2 _ iv2 (d1.st l2 o1) o2 fun z H3 l3 o3 => ⟨true, o3, ?_⟩
    rw [if_pos rfl]
    have iv3 := W.step l3 iv2
    refine hc σ H3 _ iv3 (((en.st l1).st l2).st l3) fun w H4 l4 o4 => ?_
    refine h2 y w H4 Q (W.step l4 iv3) (d2.st l4 (d2.st l3 o2)) o4 fun v H5 l5 o5 => q v H5 (W.trans l1 (W.trans l2 (W.trans l3 (W.trans l4 l5)))) o5
theorem dd_S (x : Str) : DD K (dS x : Dn W) (.str x) := fun v H o => by
  rw [show v = V.str x from o]
  exact .str x
def papD : Pap → PyData
  | .none => .none
  | .odd a b => .tuple [.str "odd", .int a, .int b]
  | .lacks a => .tuple [.str "lacks", .int a]
theorem dd_pap : ∀ p : Pap, DD K (dPap p : Dn W) (papD p)
  | .none => dd_non
  | .odd a b => dd_TD (.cons (dd_S _) (.cons (dd_N a) (.cons (dd_N b) .nil)))
  | .lacks a => dd_TD (.cons (dd_S _) (.cons (dd_N a) .nil))
theorem pap_eqv : ∀ p : Pap, PyData.eqv (papD p) (papD p) = true
  | .none => rfl
  | .odd a b => by simp [papD, PyData.eqv, PyData.eqvAll]
  | .lacks a => by simp [papD, PyData.eqv, PyData.eqvAll]
theorem pap_shape : ∀ p : Pap, SeqAt.shaped (papD p) = true
  | .none => rfl
  | .odd a b => by with_unfolding_all rfl
  | .lacks a => by with_unfolding_all rfl
theorem od_neP : OpD (W := W) (rNeD K) (dPap p) (dPap p) (dB false) := fun u v H Q iv o1 o2 q => by
  refine ⟨_, _, dd_pap p u H o1, dd_pap p v H o2, pap_shape p, pap_shape p, ?_⟩
  rw [pap_eqv]
  exact q _ H (W.refl H) rfl
theorem od_isP (p : Pap) : OpD (W := W) (fun x y H Q => y = .non ∧ Q (.bl (decide (x = .non))) H) (dPap p) (dV .non) (dB p.isNone) := fun u v H Q iv e1 e2 k => by
  refine ⟨e2, k _ H (W.refl H) ?_⟩
  cases p with
  | none => exact congrArg V.bl (decide_eq_true (show u = V.non from e1))
  | odd a b =>
    obtain ⟨a, xs, e, _⟩ := e1
    subst e
    rfl
  | lacks a =>
    obtain ⟨a, xs, e, _⟩ := e1
    subst e
    rfl
theorem od_notON (o : Option Nat) : OpD (W := W) (fun x y H Q => y = .non ∧ Q (.bl (!decide (x = .non))) H) (dON o) (dV .non) (dB o.isSome) := fun u v H Q iv e1 e2 k => by
  refine ⟨e2, k _ H (W.refl H) ?_⟩
  cases o with
  | none => exact congrArg (fun b => V.bl (!b)) (decide_eq_true (show u = V.non from e1))
  | some w =>
    rw [show u = V.int (w : Int) from e1]
    rfl
theorem sd_is_word (h1 : 1 ≤ n) (h2 : n ≤ 24) : SpD (W := W) sp_is_word [] [dN n, dN m] (dB (decide (m < 2 ^ n))) := fun vs H Q iv o q => by
  match vs, o with
  | [v, u], ⟨e1, e2, _⟩ =>
    rw [show v = V.int (n : Int) from e1, show u = V.int (m : Int) from e2]
    exact ⟨n, m, rfl, h1, h2, q _ H (W.refl H) rfl⟩
/-! the defs -/
def sp_is_word_of (C : Addr) : Sp := spW (ι := Nat × List Nat × Nat) (fun _ i => i.2.2 < 2 ^ i.1) (fun _ i => [dRoom C i.1 i.2.1, dN i.2.2]) fun _ i => dB (decide (restOf i.2.2 i.2.1 = 0))
theorem sd_is_word_of (h : m < 2 ^ n) : SpD (sp_is_word_of C) [] [(dRoom C n B : Dn W), dN m] (dB (decide (restOf m B = 0))) := spW_sd (i := (n, B, m)) h
def sp_meet_oddly (C : Addr) : Sp := spW (ι := Nat × List Nat × Nat × Nat) (fun _ i => i.2.2.1 < 2 ^ i.1 ∧ i.2.2.2 < 2 ^ i.1) (fun _ i => [dRoom C i.1 i.2.1, dN i.2.2.1, dN i.2.2.2]) fun _ i => dB (whyB i.1 i.2.1 (.odd i.2.2.1 i.2.2.2))
theorem sd_meet_oddly (h : m < 2 ^ n) (h2 : k < 2 ^ n) : SpD (sp_meet_oddly C) [] [(dRoom C n B : Dn W), dN m, dN k] (dB (whyB n B (.odd m k))) := spW_sd (i := (n, B, m, k)) ⟨h, h2⟩
def sp_is_lacking (C : Addr) : Sp := spW (ι := Nat × List Nat × Nat) (fun _ i => i.2.2 < 2 ^ i.1) (fun _ i => [dRoom C i.1 i.2.1, dN i.2.2]) fun _ i => dB (whyB i.1 i.2.1 (.lacks i.2.2))
theorem sd_is_lacking (h : m < 2 ^ n) : SpD (sp_is_lacking C) [] [(dRoom C n B : Dn W), dN m] (dB (whyB n B (.lacks m))) := spW_sd (i := (n, B, m)) h
def sp_is_why (C : Addr) : Sp := spW (ι := Nat × List Nat × Pap) (fun _ i => PapLt i.1 i.2.2) (fun _ i => [dRoom C i.1 i.2.1, dPap i.2.2]) fun _ i => dB (whyB i.1 i.2.1 i.2.2)
theorem sd_is_why (h : PapLt n p) : SpD (sp_is_why C) [] [(dRoom C n B : Dn W), dPap p] (dB (whyB n B p)) := spW_sd (i := (n, B, p)) h
def sp_why (C : Addr) : Sp := spW (ι := Nat × List Nat) (fun _ _ => True) (fun _ i => [dRoom C i.1 i.2]) fun _ i => dPap (paperN i.1 i.2)
theorem sd_why : SpD (sp_why C) [] [(dRoom C n B : Dn W)] (dPap (paperN n B)) := spW_sd (i := (n, B)) trivial
structure LpapP (i : Nat × List Nat × Pap) : Prop where
  n24 : i.1 ≤ 24
  pl : Plain i.2.1
  ln : i.2.1.length ≤ 14
  lt : ∀ b ∈ i.2.1, b < 2 ^ i.1
  rt : RightP i.1 i.2.1 i.2.2
def sp_lis_paper : Sp := spW (ι := Nat × List Nat × Pap) (fun _ i => LpapP i) (fun _ i => [dN i.1, dVs i.2.1, dPap i.2.2]) fun _ _ => dB true
theorem sd_lis_paper (n24 : n ≤ 24) (pl : Plain B) (ln : B.length ≤ 14) (lt : ∀ b ∈ B, b < 2 ^ n) (rt : RightP n B p) : SpD sp_lis_paper [] [(dN n : Dn W), dVs B, dPap p] (dB true) := spW_sd (i := (n, B, p)) ⟨n24, pl, ln, lt, rt⟩
/-- [b for x in l], l of values told one by one, each b true -/
theorem ev_lcD {tl : TE} {i : Nat} (hl : EV Ds tl (dLD ds)) (hz : ds.length ≤ 100000) (hb : ∀ d ∈ ds, EV (Ds.set i (some d)) te (dB true)) : EV Ds (tLc (iList K tl) (gName i) tYes te [i]) (dBs (List.replicate ds.length true)) := fun σ H Q iv en q =>
  hl σ H _ iv en fun v H1 l1 ⟨a, xs, e, ga, h, oxs⟩ => by
    subst e
    have iv1 := W.step l1 iv
    have len := oxs.length
    refine ⟨a, rfl, ⟨xs, .inl (.inl h)⟩, fun D nD => ?_⟩
    refine lc_list (K := K) (a := a) (xs := xs) (fun k H' => W.L H1 H' ∧ H' D = some (.lst ((List.replicate k true).map V.bl))) ⟨W.put iv1 (W.refl H1) nD, upd_same⟩ (fun k H' _ hP => .inl (.inl (W.keep ga hP.1 h))) (fun k x H' hx hP => ?_)
      fun H' hP => q _ H' (W.trans l1 hP.1) ⟨D, rfl, W.fresh iv1 nD, by rw [hP.2, len]⟩
    obtain ⟨lP, eD⟩ := hP
    obtain ⟨dd, hd, ox⟩ := (oxs.st lP).at hx
    have lk : k < ds.length := by
      rw [← len]
      exact (List.getElem?_eq_some_iff.mp hx).1
    have iv' := W.step lP iv1
    have en' : EnvL (Ds.set i (some dd)) ((wipe σ [i]).set i (some x)) H' := env_lc ox (en.st (W.trans l1 lP))
    refine ⟨wipe_lc, tv_yes _ H' _ iv' en' fun H2 l2 => ?_⟩
    refine (if_pos rfl).mpr (hb dd hd _ H2 _ (W.step l2 iv') (en'.st l2) fun y H3 l3 o3 => ?_)
    have eD3 := W.keep (W.fresh iv1 nD) l3 (W.keep (W.fresh iv1 nD) l2 eD)
    refine ⟨_, eD3, ?_, W.put iv1 (W.trans lP (W.trans l2 l3)) nD, ?_⟩
    · rw [List.length_map, List.length_replicate]
      exact sl_lt (by omega)
    · rw [upd_same, show y = V.bl true from o3, List.replicate_succ', List.map_append]
      rfl
theorem all_rep (k : Nat) : (List.replicate k true).all id = true := by simp
end
end Vf
namespace Vf
open PySem PySem.Spec PyProof.Rows L2
variable {W : Wd} {Ds : EnvT W} {tt t1 t2 : TT} {ts tu : TS} {d : Dn W}
theorem sv_ifRT (h : TV Ds tt true) (h1 : SV Ds ts d) : SV Ds (tSeq (tIfS tt ts tNext) tu) d := sv_ifR h (fun _ => h1) fun z => by cases z
theorem sv_ifRF (h : TV Ds tt false) (h1 : SV Ds tu d) : SV Ds (tSeq (tIfS tt ts tNext) tu) d := sv_ifR h (fun z => by cases z) fun _ => h1
theorem tv_andF (h : TV Ds t1 false) : TV Ds (tAnd t1 t2) false := tv_and (b2 := false) h fun z => by cases z
end Vf
namespace Vf
open PySem PySem.Spec PyProof.Rows L2
theorem ix_tupS {X : Cx} (K : PySem.W.Frag) (h : X.K = K := by rfl) : IxR X (rIxT K) := h ▸ ix_tup
theorem why_zero {n : Nat} {B : List Nat} : whyB n B (.odd 0 0) = false := by
  show (_ && (_ && par 0 0)) = false
  rw [par_zero, Bool.and_false, Bool.and_false]
theorem odd_still {n : Nat} {B : List Nat} {a b : Nat} (h : RightP n B (.odd a b)) : stillB B = false := by
  obtain ⟨h1, h2, h3⟩ := h
  rw [Bool.eq_false_iff]
  intro z
  have := still_span.mp z a h1 b h2
  rw [h3] at this
  cases this
end Vf

set_option Elab.async false
set_option linter.all false
set_option maxRecDepth 100000
set_option maxHeartbeats 400000
namespace Vf
/-! ### sums of signs, numbers by weight -/
def sg (b : Bool) : Int := if b then -1 else 1
theorem sg_xor (a b : Bool) : sg (a ^^ b) = sg a * sg b := by cases a <;> cases b <;> rfl
section
variable {α β : Type}
theorem sum_add' (f g : α → Int) : ∀ l : List α, (l.map fun x => f x + g x).sum = (l.map f).sum + (l.map g).sum
  | [] => rfl
  | x :: l => by
    rw [List.map_cons, List.sum_cons, sum_add' f g l, List.map_cons, List.sum_cons, List.map_cons, List.sum_cons]
    omega
theorem sum_mul' (c : Int) (f : α → Int) : ∀ l : List α, (l.map fun x => c * f x).sum = c * (l.map f).sum
  | [] => (Int.mul_zero c).symm
  | x :: l => by
    rw [List.map_cons, List.sum_cons, sum_mul' c f l, List.map_cons, List.sum_cons, Int.mul_add]
theorem sum_zero' : ∀ l : List α, (l.map fun _ => (0 : Int)).sum = 0
  | [] => rfl
  | x :: l => by
    rw [List.map_cons, List.sum_cons, sum_zero' l]
    rfl
theorem sum_swap (f : α → β → Int) (m : List β) : ∀ l : List α, (l.map fun a => (m.map fun b => f a b).sum).sum = (m.map fun b => (l.map fun a => f a b).sum).sum
  | [] => (sum_zero' m).symm
  | x :: l => by
    rw [List.map_cons, List.sum_cons, sum_swap f m l, ← sum_add']
    rfl
theorem sum_congr' {f g : α → Int} {l : List α} (h : ∀ x ∈ l, f x = g x) : (l.map f).sum = (l.map g).sum := by rw [List.map_congr_left h]
theorem sum_perm' {l m : List Int} (h : l.Perm m) : l.sum = m.sum := by
  induction h with
  | nil => rfl
  | cons x _ ih => rw [List.sum_cons, List.sum_cons, ih]
  | swap x y l => rw [List.sum_cons, List.sum_cons, List.sum_cons, List.sum_cons]; omega
  | trans _ _ a b => rw [a, b]
theorem sum_const' (c : Int) : ∀ l : List α, (l.map fun _ => c).sum = l.length * c
  | [] => by simp
  | x :: l => by
    rw [List.map_cons, List.sum_cons, sum_const' c l, List.length_cons, Int.natCast_succ, Int.add_mul, Int.one_mul, Int.add_comm]
/-- the sum over those that hold -/
theorem sum_filter (p : α → Bool) (f : α → Int) : ∀ l : List α, ((l.filter p).map f).sum = (l.map fun x => if p x = true then f x else 0).sum
  | [] => rfl
  | x :: l => by
    by_cases h : p x = true
    · rw [List.filter_cons_of_pos h, List.map_cons, List.sum_cons, sum_filter p f l, List.map_cons, List.sum_cons, if_pos h]
    · rw [List.filter_cons_of_neg h, sum_filter p f l, List.map_cons, List.sum_cons, if_neg h, Int.zero_add]
end
/-- the numbers of the product of 1 + e y -/
def polN : List Int → Nat → Int
  | [], j => if j = 0 then 1 else 0
  | e :: es, 0 => polN es 0
  | e :: es, j + 1 => polN es (j + 1) + e * polN es j
theorem pol_swap (a b : Int) (es : List Int) : ∀ j, polN (a :: b :: es) j = polN (b :: a :: es) j
  | 0 => rfl
  | 1 => by
    show (polN es 1 + b * polN es 0) + a * polN es 0 = (polN es 1 + a * polN es 0) + b * polN es 0
    omega
  | j + 2 => by
    show (polN es (j + 2) + b * polN es (j + 1)) + a * (polN es (j + 1) + b * polN es j) = (polN es (j + 2) + a * polN es (j + 1)) + b * (polN es (j + 1) + a * polN es j)
    rw [Int.mul_add, Int.mul_add, ← Int.mul_assoc, ← Int.mul_assoc, Int.mul_comm a b]
    omega
theorem pol_cons {e : Int} {es fs : List Int} (h : ∀ j, polN es j = polN fs j) : ∀ j, polN (e :: es) j = polN (e :: fs) j
  | 0 => h 0
  | j + 1 => by
    show polN es (j + 1) + e * polN es j = polN fs (j + 1) + e * polN fs j
    rw [h, h]
theorem pol_perm {es fs : List Int} (h : es.Perm fs) : ∀ j, polN es j = polN fs j := by
  induction h with
  | nil => exact fun _ => rfl
  | cons x _ ih => exact pol_cons ih
  | swap x y l => exact fun j => pol_swap y x l j
  | trans _ _ a b => exact fun j => (a j).trans (b j)
theorem pol_off {es : List Int} : ∀ {j : Nat}, es.length < j → polN es j = 0 := by
  induction es with
  | nil =>
    intro j h
    have h : 0 < j := h
    show (if j = 0 then (1 : Int) else 0) = 0
    rw [if_neg (by omega)]
  | cons e es ih =>
    intro j h
    have h : es.length + 1 < j := h
    match j, h with
    | j + 1, h =>
      show polN es (j + 1) + e * polN es j = 0
      rw [ih (by omega), ih (by omega), Int.mul_zero]
      rfl
section
variable {n k v w u j : Nat} {B L : List Nat}
/-- the signs of a word, the last place first -/
def sgs (v : Nat) : Nat → List Int
  | 0 => []
  | n + 1 => sg (v.testBit n) :: sgs v n
/-- over all numbers below 2 ^ n of weight j -/
def sumS (P : Nat → Nat) (Q : Nat → Bool) (n j : Nat) : Int := (((List.range (2 ^ n)).filter fun u => decide (P u = j)).map fun u => sg (Q u)).sum
def sgS (n v j : Nat) : Int := sumS pc (fun u => par u v) n j
theorem range_two (n : Nat) : List.range (2 ^ (n + 1)) = List.range (2 ^ n) ++ (List.range (2 ^ n)).map (2 ^ n + ·) := by
  rw [Nat.pow_succ, Nat.mul_two, List.range_add]
theorem top_xor (h : u < 2 ^ n) : 2 ^ n + u = u ^^^ 2 ^ n := pow_add_off (bit_hi h (Nat.le_refl _))
theorem pc_top (h : u < 2 ^ n) (n24 : n < 24) : pc (2 ^ n + u) = pc u + 1 := by
  have e := pc_two u (2 ^ n)
  have z : u &&& 2 ^ n = 0 := by
    apply Nat.eq_of_testBit_eq
    intro i
    rw [Nat.testBit_and, Nat.testBit_two_pow, Nat.zero_testBit]
    by_cases q : n = i
    · subst q
      rw [bit_hi h (Nat.le_refl _), Bool.false_and]
    · rw [decide_eq_false q, Bool.and_false]
  rw [z, pc_zero, pc_pow n24] at e
  rw [top_xor h]
  omega
theorem sumS_step {P : Nat → Nat} {Q : Nat → Bool} {c : Bool} (hP : ∀ u, u < 2 ^ n → P (2 ^ n + u) = P u + 1) (hQ : ∀ u, u < 2 ^ n → Q (2 ^ n + u) = (Q u ^^ c)) : ∀ j, sumS P Q (n + 1) j = (match j with | 0 => sumS P Q n 0 | j + 1 => sumS P Q n (j + 1) + sg c * sumS P Q n j) := by
  have key : ∀ j, sumS P Q (n + 1) j = sumS P Q n j + sg c * (((List.range (2 ^ n)).filter fun u => decide (P u + 1 = j)).map fun u => sg (Q u)).sum := fun j => by
    unfold sumS
    rw [range_two, List.filter_append, List.map_append, List.sum_append, List.filter_map, List.map_map, ← sum_mul']
    congr 1
    have e : ((List.range (2 ^ n)).filter ((fun u => decide (P u = j)) ∘ fun x => 2 ^ n + x)) = (List.range (2 ^ n)).filter fun u => decide (P u + 1 = j) := List.filter_congr fun u hu => by
      show decide (P (2 ^ n + u) = j) = _
      rw [hP u (List.mem_range.mp hu)]
    rw [e]
    refine sum_congr' fun u hu => ?_
    have lu := List.mem_range.mp (List.mem_filter.mp hu).1
    show sg (Q (2 ^ n + u)) = _
    rw [hQ u lu, sg_xor, Int.mul_comm]
  intro j
  rw [key j]
  match j with
  | 0 =>
    have e : ((List.range (2 ^ n)).filter fun u => decide (P u + 1 = 0)) = [] := List.filter_eq_nil_iff.mpr fun u _ => by simp
    rw [e]
    show _ + _ * 0 = _
    rw [Int.mul_zero, Int.add_zero]
  | j + 1 =>
    have e : ((List.range (2 ^ n)).filter fun u => decide (P u + 1 = j + 1)) = (List.range (2 ^ n)).filter fun u => decide (P u = j) := List.filter_congr fun u _ => decide_eq_decide.mpr (by omega)
    rw [e]
    rfl
theorem sumS_zero {P : Nat → Nat} {Q : Nat → Bool} (hP : P 0 = 0) (hQ : Q 0 = false) (j : Nat) : sumS P Q 0 j = if j = 0 then 1 else 0 := by
  unfold sumS
  rw [show List.range (2 ^ 0) = [0] from rfl]
  by_cases h : j = 0
  · rw [if_pos h, List.filter_cons_of_pos (by rw [hP, h]; simp), List.filter_nil, List.map_cons, List.map_nil, List.sum_cons, List.sum_nil, hQ]
    rfl
  · rw [if_neg h, List.filter_cons_of_neg (by rw [hP]; simp; omega), List.filter_nil, List.map_nil, List.sum_nil]
theorem sumS_pol {P : Nat → Nat} {Q : Nat → Bool} {c : Nat → Bool} {ss : Nat → List Int} (s0 : ss 0 = []) (hs : ∀ n, ss (n + 1) = sg (c n) :: ss n) (p0 : P 0 = 0) (q0 : Q 0 = false) (hP : ∀ n, n < 24 → ∀ u, u < 2 ^ n → P (2 ^ n + u) = P u + 1) (hQ : ∀ n, n < 24 → ∀ u, u < 2 ^ n → Q (2 ^ n + u) = (Q u ^^ c n)) : ∀ n, n ≤ 24 → ∀ j, sumS P Q n j = polN (ss n) j
  | 0, _, j => by
    rw [sumS_zero p0 q0, s0]
    rfl
  | n + 1, h, j => by
    rw [sumS_step (hP n (by omega)) (hQ n (by omega)) j, hs]
    match j with
    | 0 => exact sumS_pol s0 hs p0 q0 hP hQ n (by omega) 0
    | j + 1 =>
      show sumS P Q n (j + 1) + _ * sumS P Q n j = polN (ss n) (j + 1) + _ * polN (ss n) j
      rw [sumS_pol s0 hs p0 q0 hP hQ n (by omega), sumS_pol s0 hs p0 q0 hP hQ n (by omega)]
theorem sgS_pol (v : Nat) (n : Nat) (h : n ≤ 24) (j : Nat) : sgS n v j = polN (sgs v n) j := by
  unfold sgS
  exact sumS_pol (P := pc) (Q := fun u => par u v) (c := fun n => v.testBit n) (ss := sgs v) rfl (fun _ => rfl) pc_zero (par_zero v) (fun n hn u hu => pc_top hu hn) (fun n hn u hu => by
    show par (2 ^ n + u) v = _
    rw [top_xor hu, par_xor, par_pow hn]) n h j
/-- so many signs - first -/
def sgI (n i : Nat) : List Int := List.replicate i (-1) ++ List.replicate (n - i) 1
theorem sgs_perm (v : Nat) : ∀ n, n ≤ 24 → (sgs v n).Perm (sgI n (pc (v % 2 ^ n)))
  | 0, _ => by
    rw [Nat.pow_zero, Nat.mod_one, pc_zero]
    exact .refl _
  | n + 1, h => by
    have ih := sgs_perm v n (by omega)
    have lt : v % 2 ^ n < 2 ^ n := Nat.mod_lt _ (Nat.two_pow_pos n)
    have lp : pc (v % 2 ^ n) ≤ n := by
      have : ∀ m, m ≤ 24 → ∀ x, x < 2 ^ m → pc x ≤ m := fun m hm x hx => by
        rw [← spots_len]
        have e : (spots x).length = ((List.range m).filter fun i => x.testBit i).length := len_same (spots_nd x) (List.nodup_range.filter _) fun i => by
          rw [spots_mem, List.mem_filter, List.mem_range]
          exact ⟨fun ⟨a, b⟩ => ⟨Nat.lt_of_not_le fun z => (by rw [bit_hi hx z] at b; cases b), b⟩, fun ⟨a, b⟩ => ⟨by omega, b⟩⟩
        rw [e]
        have := List.length_filter_le (fun i => x.testBit i) (List.range m)
        rwa [List.length_range] at this
      exact this n (by omega) _ lt
    have e : v % 2 ^ (n + 1) = if v.testBit n = true then 2 ^ n + v % 2 ^ n else v % 2 ^ n := by
      have p := Nat.two_pow_pos n
      rw [Nat.testBit_eq_decide_div_mod_eq, Nat.pow_succ, Nat.mod_mul]
      by_cases q : v / 2 ^ n % 2 = 1
      · rw [q, decide_eq_true rfl, if_pos rfl]
        omega
      · have q0 : v / 2 ^ n % 2 = 0 := by omega
        rw [q0]
        simp
    show (sg (v.testBit n) :: sgs v n).Perm _
    rw [e]
    by_cases q : v.testBit n = true
    · rw [if_pos q, q, pc_top lt (by omega)]
      have e2 : sgI (n + 1) (pc (v % 2 ^ n) + 1) = (-1 : Int) :: sgI n (pc (v % 2 ^ n)) := by
        unfold sgI
        rw [List.replicate_succ, List.cons_append, show n + 1 - (pc (v % 2 ^ n) + 1) = n - pc (v % 2 ^ n) by omega]
      rw [e2]
      exact ih.cons _
    · rw [if_neg q, Bool.not_eq_true _ |>.mp q]
      have e2 : (sgI (n + 1) (pc (v % 2 ^ n))).Perm ((1 : Int) :: sgI n (pc (v % 2 ^ n))) := by
        unfold sgI
        rw [show n + 1 - pc (v % 2 ^ n) = (n - pc (v % 2 ^ n)) + 1 by omega, List.replicate_succ]
        exact List.perm_middle
      exact (ih.cons _).trans e2.symm
/-- the entry of j and i -/
def entN (n i j : Nat) : Int := polN (sgI n i) j
theorem sgS_ent (n24 : n ≤ 24) (hv : v < 2 ^ n) (j : Nat) : sgS n v j = entN n (pc v) j := by
  rw [sgS_pol v n n24, pol_perm (sgs_perm v n n24) j, Nat.mod_eq_of_lt hv]
  rfl
theorem pc_le_n (n24 : n ≤ 24) (hv : v < 2 ^ n) : pc v ≤ n := by
  rw [← spots_len]
  have e : (spots v).length = ((List.range n).filter fun i => v.testBit i).length := len_same (spots_nd v) (List.nodup_range.filter _) fun i => by
    rw [spots_mem, List.mem_filter, List.mem_range]
    exact ⟨fun ⟨a, b⟩ => ⟨Nat.lt_of_not_le fun z => (by rw [bit_hi hv z] at b; cases b), b⟩, fun ⟨a, b⟩ => ⟨by omega, b⟩⟩
  rw [e]
  have := List.length_filter_le (fun i => v.testBit i) (List.range n)
  rwa [List.length_range] at this
/-- how many of each weight -/
def rowL (n : Nat) (L : List Nat) : List Nat := (List.range (n + 1)).map fun j => (L.filter fun w => decide (pc w = j)).length
/-- sums by weight -/
theorem sum_group (g : Nat → Int) : ∀ {L : List Nat}, (∀ v ∈ L, pc v ≤ n) → (L.map fun v => g (pc v)).sum = ((List.range (n + 1)).map fun i => ((L.filter fun w => decide (pc w = i)).length : Int) * g i).sum
  | [], _ => by
    have : ((List.range (n + 1)).map fun i => (((([] : List Nat).filter fun w => decide (pc w = i)).length : Nat) : Int) * g i).sum = ((List.range (n + 1)).map fun _ => (0 : Int)).sum := sum_congr' fun i _ => by simp
    rw [this, sum_zero']
    rfl
  | v :: L, h => by
    rw [List.map_cons, List.sum_cons, sum_group g (L := L) fun x hx => h x (List.mem_cons_of_mem _ hx)]
    have e : ∀ i, (((((v :: L).filter fun w => decide (pc w = i)).length : Nat) : Int)) * g i = (if decide (i = pc v) = true then g (pc v) else 0) + ((L.filter fun w => decide (pc w = i)).length : Int) * g i := fun i => by
      by_cases q : pc v = i
      · subst q
        rw [List.filter_cons_of_pos (by simp), if_pos (by simp), List.length_cons, Int.natCast_succ, Int.add_mul, Int.one_mul, Int.add_comm]
      · rw [List.filter_cons_of_neg (by simp [q]), if_neg (by simp; omega), Int.zero_add]
    rw [List.map_congr_left fun i _ => e i, sum_add', ← sum_filter (fun i => decide (i = pc v)) (fun _ => g (pc v))]
    have e2 : (List.range (n + 1)).filter (fun i => decide (i = pc v)) = [pc v] := up_eq (List.pairwise_lt_range.filter _) (by simp) fun x => by
      have := h v List.mem_cons_self
      rw [List.mem_filter, List.mem_range, List.mem_singleton, decide_eq_true_iff]
      exact ⟨fun k => k.2, fun k => ⟨by omega, k⟩⟩
    rw [e2]
    simp
theorem flip_sum {q : Nat → Bool} {L : List Nat} {b : Nat} (pm : (L.map fun v => v ^^^ b).Perm L) (hq : ∀ v, q (v ^^^ b) = (q v ^^ true)) : (L.map fun v => sg (q v)).sum = 0 := by
  have e1 : (L.map fun v => sg (q v)).sum = ((L.map fun v => v ^^^ b).map fun v => sg (q v)).sum := (sum_perm' (pm.map _)).symm
  have e2 : ((L.map fun v => v ^^^ b).map fun v => sg (q v)).sum = (-1) * (L.map fun v => sg (q v)).sum := by
    rw [← sum_mul', List.map_map]
    refine sum_congr' fun v _ => ?_
    show sg (q (v ^^^ b)) = (-1) * sg (q v)
    rw [hq, sg_xor, Int.mul_comm, show sg true = -1 from rfl]
  rw [e2] at e1
  generalize (L.map fun v => sg (q v)).sum = S at e1
  omega
theorem xor_perm {b : Nat} (hL : ∀ x, x ∈ L ↔ span B x) (nd : L.Nodup) (sb : span B b) : (L.map fun v => v ^^^ b).Perm L := (List.perm_ext_iff_of_nodup (map_nd (fun x _ y _ e => by
  have := congrArg (· ^^^ b) e
  simpa [xor_cancel] using this) nd) nd).mpr fun x => by
    rw [List.mem_map, hL]
    constructor
    · rintro ⟨y, hy, rfl⟩
      exact span_xor ((hL y).mp hy) sb
    · intro hx
      exact ⟨x ^^^ b, (hL _).mpr (span_xor hx sb), xor_cancel x b⟩
def evTo (B : List Nat) (u : Nat) : Bool := B.all fun b => !par u b
theorem evTo_iff : evTo B u = true ↔ ∀ b ∈ B, par u b = false := by
  unfold evTo
  rw [List.all_eq_true]
  constructor
  · intro h b hb
    have := h b hb
    rwa [Bool.not_eq_true'] at this
  · intro h b hb
    rw [Bool.not_eq_true']
    exact h b hb
/-- signs over a room -/
theorem sum_room_sg (hL : ∀ x, x ∈ L ↔ span B x) (nd : L.Nodup) (u : Nat) : (L.map fun v => sg (par u v)).sum = if evTo B u = true then (L.length : Int) else 0 := by
  by_cases h : evTo B u = true
  · rw [if_pos h]
    have h' := evTo_iff.mp h
    have e : (L.map fun v => sg (par u v)).sum = (L.map fun _ => (1 : Int)).sum := sum_congr' fun v hv => by
      rw [par_span.mp h' v ((hL v).mp hv)]
      rfl
    rw [e, sum_const', Int.mul_one]
  · rw [if_neg h]
    have ⟨b, hb, pb⟩ : ∃ b, b ∈ B ∧ par u b = true := by
      refine Decidable.byContradiction fun z => h (evTo_iff.mpr fun b hb => Bool.eq_false_iff.mpr fun k => z ⟨b, hb, k⟩)
    exact flip_sum (q := fun v => par u v) (xor_perm hL nd (span_mem hb)) fun v => by
      show par u (v ^^^ b) = _
      rw [par_comm, par_xor, par_comm v, par_comm b, pb]
theorem mac_abs {P : Nat → Nat} {Q : Nat → Nat → Bool} {K : Nat → Int} {E : Nat → Bool} {N m : Nat} {L : List Nat} (hg : (L.map fun v => K (P v)).sum = ((List.range (n + 1)).map fun i => ((L.filter fun w => decide (P w = i)).length : Int) * K i).sum)
    (hS : ∀ v ∈ L, (((List.range N).filter fun u => decide (P u = j)).map fun u => sg (Q u v)).sum = K (P v)) (hR : ∀ u, (L.map fun v => sg (Q u v)).sum = if E u = true then (L.length : Int) else 0)
    (hM : (((List.range N).filter fun u => decide (P u = j)).filter E).length = m) : ((List.range (n + 1)).map fun i => ((L.filter fun w => decide (P w = i)).length : Int) * K i).sum = (L.length : Int) * (m : Int) := by
  rw [← hg, ← sum_congr' hS, sum_swap, sum_congr' (g := fun u => if E u = true then (L.length : Int) else 0) fun u _ => hR u, ← sum_filter E fun _ => (L.length : Int), sum_const', hM, Int.mul_comm]
/-- the contrary's row (MacWilliams) -/
theorem mac {M : List Nat} (pl : Plain B) (n24 : n ≤ 24) (ltB : ∀ b ∈ B, b < 2 ^ n) (hL : ∀ x, x ∈ L ↔ span B x) (nd : L.Nodup) (hM : ∀ x, x ∈ M ↔ span (bas (conB n B)) x) (ndM : M.Nodup) (j : Nat) :
    ((List.range (n + 1)).map fun i => ((L.filter fun w => decide (pc w = i)).length : Int) * entN n i j).sum = (L.length : Int) * ((M.filter fun w => decide (pc w = j)).length : Int) := by
  have lt : ∀ v ∈ L, v < 2 ^ n := fun v hv => span_lt ltB ((hL v).mp hv)
  refine mac_abs (Q := par) (E := evTo B) (N := 2 ^ n) (K := fun i => entN n i j) (sum_group (fun i => entN n i j) fun v hv => pc_le_n n24 (lt v hv)) (fun v hv => sgS_ent n24 (lt v hv) j) (fun u => sum_room_sg hL nd u) ?_
  refine len_same ((List.nodup_range.filter _).filter _) (ndM.filter _) fun u => ?_
  rw [List.mem_filter, List.mem_filter, List.mem_filter, List.mem_range, hM, con_span pl n24 ltB, evTo_iff]
  exact ⟨fun ⟨⟨a, b⟩, c⟩ => ⟨⟨a, c⟩, b⟩, fun ⟨⟨a, c⟩, b⟩ => ⟨⟨a, b⟩, c⟩⟩
end
end Vf

set_option Elab.async false
set_option linter.all false
set_option maxRecDepth 100000
set_option maxHeartbeats 400000
namespace Vf
/-! ### lists of numbers of a product -/
def polL (es : List Int) : List Int := (List.range (es.length + 1)).map (polN es)
theorem polL_len (es : List Int) : (polL es).length = es.length + 1 := by
  unfold polL
  rw [List.length_map, List.length_range]
/-- one factor more -/
def facL (e : Int) (l : List Int) : List Int := List.zipWith (fun x y => x + e * y) (l ++ [0]) ([0] ++ l)
theorem facL_len (e : Int) (l : List Int) : (facL e l).length = l.length + 1 := by
  unfold facL
  rw [List.length_zipWith, List.length_append, List.length_append]
  simp
  omega
theorem polL_at {es : List Int} {j : Nat} (h : j < es.length + 1) : (polL es)[j]? = some (polN es j) := by
  unfold polL
  rw [List.getElem?_map, List.getElem?_range h]
  rfl
theorem polL_step (e : Int) (es : List Int) : facL e (polL es) = polL (e :: es) := by
  apply List.ext_getElem?
  intro j
  by_cases h : j < es.length + 2
  · rw [polL_at (es := e :: es) (show j < es.length + 1 + 1 by omega)]
    unfold facL
    rw [List.getElem?_zipWith]
    have a1 : (polL es ++ [0])[j]? = some (polN es j) := by
      by_cases q : j < es.length + 1
      · rw [List.getElem?_append_left (by rw [polL_len]; exact q), polL_at q]
      · have : j = es.length + 1 := by omega
        subst this
        rw [List.getElem?_append_right (by rw [polL_len]; exact Nat.le_refl _), polL_len, Nat.sub_self, pol_off (Nat.lt_succ_self _)]
        rfl
    match j, h with
    | 0, _ =>
      rw [a1]
      show some (polN es 0 + e * 0) = some (polN es 0)
      rw [Int.mul_zero, Int.add_zero]
    | j + 1, h =>
      have a2 : ([0] ++ polL es)[j + 1]? = some (polN es j) := by
        show (polL es)[j]? = _
        exact polL_at (by omega)
      rw [a1, a2]
      rfl
  · rw [List.getElem?_eq_none (by rw [facL_len, polL_len]; omega), List.getElem?_eq_none (by rw [polL_len]; show es.length + 1 + 1 ≤ j; omega)]
def entL (n i : Nat) : List Int := (List.range (n + 1)).map (entN n i)
theorem sgs_len (v : Nat) : ∀ n, (sgs v n).length = n
  | 0 => rfl
  | n + 1 => congrArg (· + 1) (sgs_len v n)
theorem ent_of {n i : Nat} (n24 : n ≤ 24) (h : i ≤ n) : polL (sgs (2 ^ i - 1) n) = entL n i := by
  unfold polL entL
  rw [sgs_len]
  refine List.map_congr_left fun j _ => ?_
  have lt : 2 ^ i - 1 < 2 ^ n := by
    have := pw_le h
    have := Nat.two_pow_pos i
    omega
  rw [pol_perm (sgs_perm (2 ^ i - 1) n n24) j, Nat.mod_eq_of_lt lt, pc_mask (by omega)]
  rfl
theorem sg_mask (i k : Nat) : sg ((2 ^ i - 1).testBit k) = if k < i then -1 else 1 := by
  rw [Nat.testBit_two_pow_sub_one]
  by_cases h : k < i
  · rw [if_pos h, decide_eq_true h]
    rfl
  · rw [if_neg h, decide_eq_false h]
    rfl
theorem sg_one (b : Bool) : sg b = 1 ∨ sg b = -1 := by cases b <;> simp [sg]
theorem entL_at {n i j : Nat} (h : j ≤ n) : (entL n i)[j]? = some (entN n i j) := by
  unfold entL
  rw [List.getElem?_map, List.getElem?_range (by omega)]
  rfl
theorem entL_len (n i : Nat) : (entL n i).length = n + 1 := by
  unfold entL
  rw [List.length_map, List.length_range]
/-! identities -/
theorem pol_bound : ∀ {es : List Int}, (∀ e ∈ es, e = 1 ∨ e = -1) → ∀ j, (polN es j).natAbs ≤ 2 ^ es.length
  | [], _, j => by
    show (if j = 0 then (1 : Int) else 0).natAbs ≤ 1
    split <;> decide
  | e :: es, h, 0 => by
    have := pol_bound (es := es) (fun x hx => h x (List.mem_cons_of_mem _ hx)) 0
    show (polN es 0).natAbs ≤ 2 ^ (es.length + 1)
    rw [Nat.pow_succ]
    omega
  | e :: es, h, j + 1 => by
    have h1 := pol_bound (es := es) (fun x hx => h x (List.mem_cons_of_mem _ hx)) (j + 1)
    have h2 := pol_bound (es := es) (fun x hx => h x (List.mem_cons_of_mem _ hx)) j
    show (polN es (j + 1) + e * polN es j).natAbs ≤ 2 ^ (es.length + 1)
    rw [Nat.pow_succ]
    rcases h e List.mem_cons_self with k | k <;> rw [k] <;> omega
theorem sgI_mem {n i : Nat} : ∀ e ∈ sgI n i, e = 1 ∨ e = -1 := fun e he => by
  unfold sgI at he
  rcases List.mem_append.mp he with h | h
  · exact .inr (List.eq_of_mem_replicate h)
  · exact .inl (List.eq_of_mem_replicate h)
theorem sgI_len {n i : Nat} (h : i ≤ n) : (sgI n i).length = n := by
  unfold sgI
  rw [List.length_append, List.length_replicate, List.length_replicate]
  omega
theorem ent_bound {n i : Nat} (h : i ≤ n) (j : Nat) : (entN n i j).natAbs ≤ 2 ^ n := by
  have := pol_bound (sgI_mem (n := n) (i := i)) j
  rwa [sgI_len h] at this
theorem pol_zero : ∀ es : List Int, polN es 0 = 1
  | [] => rfl
  | e :: es => pol_zero es
def sumI : List Int → Int
  | [] => 0
  | x :: l => x + sumI l
theorem pol_one : ∀ es : List Int, polN es 1 = es.sum
  | [] => rfl
  | e :: es => by
    show polN es 1 + e * polN es 0 = _
    rw [pol_one es, pol_zero, Int.mul_one, List.sum_cons, Int.add_comm]
def prodI : List Int → Int
  | [] => 1
  | x :: l => x * prodI l
theorem pol_top : ∀ es : List Int, polN es es.length = prodI es
  | [] => rfl
  | e :: es => by
    show polN es (es.length + 1) + e * polN es es.length = e * prodI es
    rw [pol_top es, pol_off (Nat.lt_succ_self _), Int.zero_add]
/-- all numbers together -/
theorem pol_sum : ∀ (es : List Int) (m : Nat), es.length ≤ m → ((List.range (m + 1)).map (polN es)).sum = prodI (es.map fun e => 1 + e)
  | [], m, _ => by
    rw [List.range_succ_eq_map, List.map_cons, List.sum_cons, List.map_map]
    have : ((List.range m).map (polN [] ∘ Nat.succ)).sum = ((List.range m).map fun _ => (0 : Int)).sum := sum_congr' fun x _ => rfl
    rw [this, sum_zero']
    rfl
  | e :: es, m, h => by
    have h : es.length + 1 ≤ m := h
    obtain ⟨m, rfl⟩ : ∃ m', m = m' + 1 := ⟨m - 1, by omega⟩
    have i1 := pol_sum es (m + 1) (by omega)
    have i2 := pol_sum es m (by omega)
    rw [List.range_succ_eq_map, List.map_cons, List.sum_cons, List.map_map] at i1 ⊢
    have e1 : ((List.range (m + 1)).map (polN (e :: es) ∘ Nat.succ)).sum = ((List.range (m + 1)).map (polN es ∘ Nat.succ)).sum + e * ((List.range (m + 1)).map (polN es)).sum := by
      rw [← sum_mul', ← sum_add']
      rfl
    rw [e1]
    show polN es 0 + _ = (1 + e) * prodI (es.map fun e => 1 + e)
    rw [i2, Int.add_mul, Int.one_mul]
    omega
theorem prodI_rep (x : Int) : ∀ k, prodI (List.replicate k x) = x ^ k
  | 0 => (Int.pow_zero x).symm
  | k + 1 => by
    rw [List.replicate_succ, prodI, prodI_rep x k, Int.pow_succ, Int.mul_comm]
theorem prodI_app : ∀ l m : List Int, prodI (l ++ m) = prodI l * prodI m
  | [], m => (Int.one_mul _).symm
  | x :: l, m => by
    show x * prodI (l ++ m) = x * prodI l * prodI m
    rw [prodI_app l m, Int.mul_assoc]
theorem ent_sum {n i : Nat} (h : i ≤ n) : (entL n i).sum = if i = 0 then 2 ^ n else 0 := by
  unfold entL
  have := pol_sum (sgI n i) n (by rw [sgI_len h]; exact Nat.le_refl _)
  show ((List.range (n + 1)).map (polN (sgI n i))).sum = _
  rw [this]
  unfold sgI
  rw [List.map_append, List.map_replicate, List.map_replicate, prodI_app, prodI_rep, prodI_rep]
  by_cases q : i = 0
  · subst q
    rw [if_pos rfl]
    show 1 * (1 + 1 : Int) ^ (n - 0) = 2 ^ n
    rw [Int.one_mul, Nat.sub_zero]
    rfl
  · rw [if_neg q]
    obtain ⟨k, rfl⟩ : ∃ k, i = k + 1 := ⟨i - 1, by omega⟩
    rw [show (1 + -1 : Int) = 0 from rfl, Int.pow_succ, Int.mul_zero, Int.zero_mul]
theorem sum_rep (x : Int) : ∀ k, (List.replicate k x).sum = k * x
  | 0 => by simp
  | k + 1 => by
    rw [List.replicate_succ, List.sum_cons, sum_rep x k, Int.natCast_succ, Int.add_mul, Int.one_mul, Int.add_comm]
theorem ent_one {n i : Nat} (h : i ≤ n) : entN n i 1 = (n : Int) - 2 * i := by
  show polN (sgI n i) 1 = _
  rw [pol_one]
  unfold sgI
  rw [List.sum_append, sum_rep, sum_rep]
  omega
theorem ent_top {n i : Nat} (h : i ≤ n) : entN n i n = (-1) ^ i := by
  have := pol_top (sgI n i)
  rw [sgI_len h] at this
  show polN (sgI n i) n = _
  rw [this]
  unfold sgI
  rw [prodI_app, prodI_rep, prodI_rep, Int.one_pow, Int.mul_one]
theorem neg_pow (k : Nat) : ((-1) ^ k : Int) = if k % 2 = 0 then 1 else -1 := by
  induction k with
  | zero => rfl
  | succ k ih =>
    rw [Int.pow_succ, ih]
    by_cases q : k % 2 = 0
    · rw [if_pos q, if_neg (by omega)]
      rfl
    · rw [if_neg q, if_pos (by omega)]
      rfl
/-- with all signs turned -/
theorem pol_neg : ∀ (es : List Int) (j : Nat), polN (es.map fun e => -e) j = (-1) ^ j * polN es j
  | [], j => by
    show (if j = 0 then (1 : Int) else 0) = _ * (if j = 0 then (1 : Int) else 0)
    by_cases q : j = 0
    · subst q
      rfl
    · rw [if_neg q, Int.mul_zero]
  | e :: es, 0 => by
    show polN (es.map fun e => -e) 0 = (-1) ^ 0 * polN es 0
    exact pol_neg es 0
  | e :: es, j + 1 => by
    show polN (es.map fun e => -e) (j + 1) + -e * polN (es.map fun e => -e) j = (-1) ^ (j + 1) * (polN es (j + 1) + e * polN es j)
    rw [pol_neg es (j + 1), pol_neg es j, Int.mul_add, Int.pow_succ]
    congr 1
    rw [Int.neg_mul, Int.mul_left_comm, Int.mul_assoc ((-1) ^ j) (-1), Int.neg_mul, Int.one_mul, Int.mul_neg]
theorem ent_mirror {n i : Nat} (h : i ≤ n) (j : Nat) : entN n (n - i) j = (-1) ^ j * entN n i j := by
  show polN (sgI n (n - i)) j = _ * polN (sgI n i) j
  rw [← pol_neg]
  refine pol_perm ?_ j
  unfold sgI
  rw [List.map_append, List.map_replicate, List.map_replicate, show n - (n - i) = i by omega, Int.neg_neg]
  exact List.perm_append_comm
theorem ent_zero {n j : Nat} (n24 : n ≤ 24) : entN n 0 j = (((List.range (2 ^ n)).filter fun u => decide (pc u = j)).length : Int) := by
  have := sgS_ent (v := 0) n24 (Nat.two_pow_pos n) j
  rw [pc_zero] at this
  rw [← this]
  show (((List.range (2 ^ n)).filter fun u => decide (pc u = j)).map fun u => sg (par u 0)).sum = _
  rw [sum_congr' (g := fun _ => (1 : Int)) fun u _ => by rw [par_comm, par_zero]; rfl, sum_const', Int.mul_one]
/-- counted twice -/
theorem count_twice {P : Nat → Nat} {Q : Nat → Nat → Bool} {K : Nat → Nat → Int} {N i j : Nat} (hQ : ∀ u v, Q u v = Q v u) (hK : ∀ v, v < N → ∀ j, (((List.range N).filter fun u => decide (P u = j)).map fun u => sg (Q u v)).sum = K (P v) j) :
    (((List.range N).filter fun u => decide (P u = i)).length : Int) * K i j = (((List.range N).filter fun u => decide (P u = j)).length : Int) * K j i := by
  have one : ∀ i j, (((List.range N).filter fun u => decide (P u = i)).length : Int) * K i j = (((List.range N).filter fun v => decide (P v = i)).map fun v => (((List.range N).filter fun u => decide (P u = j)).map fun u => sg (Q u v)).sum).sum := fun i j => by
    rw [← sum_const']
    refine sum_congr' fun v hv => ?_
    obtain ⟨h1, h2⟩ := List.mem_filter.mp hv
    rw [hK v (List.mem_range.mp h1) j, of_decide_eq_true h2]
  rw [one i j, one j i, sum_swap]
  refine sum_congr' fun u _ => sum_congr' fun v _ => ?_
  rw [hQ]
theorem ent_twice {n : Nat} (n24 : n ≤ 24) (i j : Nat) : entN n 0 i * entN n i j = entN n 0 j * entN n j i := by
  rw [ent_zero n24, ent_zero n24]
  exact count_twice (P := pc) (Q := par) (K := entN n) par_comm fun v hv j => sgS_ent n24 hv j
/-- each in just one part -/
theorem sum_fiber {P : Nat → Nat} {n : Nat} (f : Nat → Int) {L : List Nat} (h : ∀ u ∈ L, P u ≤ n) : ((List.range (n + 1)).map fun k => ((L.filter fun u => decide (P u = k)).map f).sum).sum = (L.map f).sum := by
  have e : ∀ k, ((L.filter fun u => decide (P u = k)).map f).sum = (L.map fun u => if decide (P u = k) = true then f u else 0).sum := fun k => sum_filter (fun u => decide (P u = k)) f L
  rw [List.map_congr_left fun k _ => e k, sum_swap]
  refine sum_congr' fun u hu => ?_
  have e2 : (List.range (n + 1)).filter (fun k => decide (P u = k)) = [P u] := up_eq (List.pairwise_lt_range.filter _) (by simp) fun x => by
    have := h u hu
    rw [List.mem_filter, List.mem_range, List.mem_singleton, decide_eq_true_iff]
    exact ⟨fun k => k.2.symm, fun k => ⟨by omega, k.symm⟩⟩
  rw [← sum_filter (fun k => decide (P u = k)) (fun _ => f u), e2]
  simp
theorem orth_abs {P : Nat → Nat} {Q : Nat → Nat → Bool} {K : Nat → Nat → Int} {X : Nat → Nat → Nat} {N n v j : Nat} {c : Int} (hP : ∀ u, u < N → P u ≤ n) (hQ : ∀ u v, Q u v = Q v u) (hX : ∀ u v w, Q u (X v w) = (Q u v ^^ Q u w)) (hv : v < N) (hK : ∀ v, v < N → ∀ j, (((List.range N).filter fun u => decide (P u = j)).map fun u => sg (Q u v)).sum = K (P v) j)
    (h0 : (((List.range N).filter fun w => decide (P w = j)).map fun w => ((List.range N).map fun u => sg (Q u (X v w))).sum).sum = c) : ((List.range (n + 1)).map fun k => K (P v) k * K k j).sum = c := by
  have e1 : ∀ k, K (P v) k * K k j = (((List.range N).filter fun u => decide (P u = k)).map fun u => sg (Q u v) * K (P u) j).sum := fun k => by
    rw [← hK v hv k, Int.mul_comm, ← sum_mul']
    refine sum_congr' fun u hu => ?_
    rw [of_decide_eq_true (List.mem_filter.mp hu).2, Int.mul_comm]
  rw [List.map_congr_left fun k _ => e1 k, sum_fiber (P := P) (fun u => sg (Q u v) * K (P u) j) fun u hu => hP u (List.mem_range.mp hu), ← h0, sum_swap]
  refine sum_congr' fun u hu => ?_
  rw [← hK u (List.mem_range.mp hu) j, ← sum_mul']
  refine sum_congr' fun w _ => ?_
  rw [hX, sg_xor, hQ w u]
theorem full_sum {n x : Nat} (n24 : n ≤ 24) (hx : x < 2 ^ n) : ((List.range (2 ^ n)).map fun u => sg (par u x)).sum = if x = 0 then (2 : Int) ^ n else 0 := by
  have h := sum_room_sg (B := (List.range n).map (2 ^ ·)) (L := List.range (2 ^ n)) (fun v => by rw [List.mem_range, span_units]) List.nodup_range x
  rw [sum_congr' (g := fun u => sg (par x u)) fun u _ => by rw [par_comm], h, List.length_range]
  by_cases q : x = 0
  · rw [if_pos q, if_pos (evTo_iff.mpr fun b _ => by rw [q, par_zero])]
    exact Int.natCast_pow 2 n
  · rw [if_neg q, if_neg]
    intro z
    refine q (Nat.eq_of_testBit_eq fun i => ?_)
    rw [Nat.zero_testBit]
    by_cases k : i < n
    · have := evTo_iff.mp z (2 ^ i) (List.mem_map_of_mem (List.mem_range.mpr k))
      rwa [par_comm, par_pow (by omega)] at this
    · exact bit_hi hx (by omega)
theorem ent_orth {n i j : Nat} (n24 : n ≤ 24) (hi : i ≤ n) : ((List.range (n + 1)).map fun k => entN n i k * entN n k j).sum = if j = i then (2 : Int) ^ n else 0 := by
  have lv : 2 ^ i - 1 < 2 ^ n := by
    have := pw_le hi
    have := Nat.two_pow_pos i
    omega
  have pv := pc_mask (show i ≤ 24 by omega)
  have := orth_abs (P := pc) (Q := par) (K := entN n) (X := fun v w => v ^^^ w) (N := 2 ^ n) (n := n) (v := 2 ^ i - 1) (j := j) (c := if j = i then (2 : Int) ^ n else 0) (fun u hu => pc_le_n n24 hu) par_comm (fun u v w => by rw [par_comm, par_xor, par_comm v, par_comm w]) lv (fun v hv j => sgS_ent n24 hv j) (by
    rw [sum_congr' (g := fun w => if decide (w = 2 ^ i - 1) = true then (2 : Int) ^ n else 0) fun w hw => ?_]
    · rw [← sum_filter (fun w => decide (w = 2 ^ i - 1)) fun _ => (2 : Int) ^ n]
      by_cases q : j = i
      · have e : (((List.range (2 ^ n)).filter fun w => decide (pc w = j)).filter fun w => decide (w = 2 ^ i - 1)) = [2 ^ i - 1] := up_eq ((List.pairwise_lt_range.filter _).filter _) (by simp) fun x => by
          rw [List.mem_filter, List.mem_filter, List.mem_range, List.mem_singleton, decide_eq_true_iff, decide_eq_true_iff]
          exact ⟨fun k => k.2, fun k => by rw [k, pv]; exact ⟨⟨lv, q.symm⟩, rfl⟩⟩
        rw [e, if_pos q]
        simp
      · have e : (((List.range (2 ^ n)).filter fun w => decide (pc w = j)).filter fun w => decide (w = 2 ^ i - 1)) = [] := List.filter_eq_nil_iff.mpr fun x hx z => by
          have h1 := of_decide_eq_true (List.mem_filter.mp hx).2
          rw [of_decide_eq_true z, pv] at h1
          exact q h1.symm
        rw [e, if_neg q]
        rfl
    · have lw := List.mem_range.mp (List.mem_filter.mp hw).1
      rw [full_sum n24 (Nat.xor_lt_two_pow lv lw)]
      by_cases q : w = 2 ^ i - 1
      · rw [if_pos (by rw [q, Nat.xor_self]), if_pos (decide_eq_true q)]
      · rw [if_neg (fun z => q (xor_zero_iff z).symm), if_neg (by rw [decide_eq_true_iff]; exact q)])
  rw [pv] at this
  exact this
end Vf

set_option Elab.async false
set_option linter.all false
set_option maxRecDepth 100000
set_option maxHeartbeats 1000000
namespace Vf
open PySem PySem.Spec PyProof.Rows L2
variable {W : Wd}
/-! ### numbers with signs -/
abbrev dIs (l : List Int) : Dn W := dLst (l.map V.int)
section
variable {Ds Es Fs : EnvT W} {cs cs1 : List (Nat × List V)} {d d1 d2 : Dn W} {te ti tl tb : TE} {t ta : TA} {tt : TT} {ts tu : TS} {i j k n m : Nat} {K : PySem.W.Frag} {xs ys : List V} {a b : Int} {l l2 : List Int} {C : Addr}
theorem od_addI : OpD (W := W) (rI0 fun i j => .int (i + j)) (dI a) (dI b) (dI (a + b)) := fun x y H Q iv e1 e2 q => ⟨a, b, e1, e2, q _ H (W.refl H) rfl⟩
theorem od_subI : OpD (W := W) (rI0 fun i j => .int (i - j)) (dI a) (dI b) (dI (a - b)) := fun x y H Q iv e1 e2 q => ⟨a, b, e1, e2, q _ H (W.refl H) rfl⟩
theorem od_mulI (h : CMul a b) : OpD (W := W) (rI CMul fun i j => .int (i * j)) (dI a) (dI b) (dI (a * b)) := fun x y H Q iv e1 e2 q => ⟨a, b, e1, e2, h, q _ H (W.refl H) rfl⟩
theorem od_eqI : OpD (W := W) rEq (dI a) (dI b) (dB (decide (a = b))) := fun u v H Q iv e1 e2 k => by
  rw [show u = V.int a from e1, show v = V.int b from e2]
  refine ⟨rfl, k _ H (W.refl H) ?_⟩
  exact congrArg V.bl (decide_eq_decide.mpr ⟨fun z => by injection z, fun z => by rw [z]⟩)
theorem od_neI : OpD (W := W) rNe (dI a) (dI b) (dB (!decide (a = b))) := fun u v H Q iv e1 e2 k => by
  rw [show u = V.int a from e1, show v = V.int b from e2]
  refine ⟨rfl, k _ H (W.refl H) ?_⟩
  exact congrArg (fun b => V.bl (!b)) (decide_eq_decide.mpr ⟨fun z => by injection z, fun z => by rw [z]⟩)
theorem flat_is (l : List Int) : ∀ x ∈ l.map V.int, flat x = true := fun x hx => by
  obtain ⟨i, _, rfl⟩ := List.mem_map.mp hx
  rfl
theorem eqv_is : ∀ l : List Int, PyData.eqvAll ((l.map V.int).map toD) ((l.map V.int).map toD) = true
  | [] => rfl
  | x :: l => by
    rw [List.map_cons, List.map_cons, PyData.eqvAll, eqv_is l]
    show (PyData.eqv (.int x) (.int x) && true) = true
    simp [PyData.eqv]
theorem od_neIs : OpD (W := W) (rNeD K) (dIs l) (dIs l) (dB false) := fun u v H Q iv ⟨a, e1, g1, h1⟩ ⟨b, e2, g2, h2⟩ k => by
  subst e1 e2
  refine ⟨_, _, .lst (SqL.of h1) (dp_all (flat_is l)), .lst (SqL.of h2) (dp_all (flat_is l)), shaped_flat (flat_is l), shaped_flat (flat_is l), ?_⟩
  rw [PyData.eqv, eqv_is]
  exact k _ H (W.refl H) rfl
theorem od_ixG {x : V} (h : xs[k]? = some x) : OpD (W := W) (rIxL K) (dLst xs) (dN k) (dV x) := fun u v H Q iv ⟨p, e1, g1, h1⟩ e2 q => by
  subst e1
  rw [show v = V.int (k : Int) from e2]
  exact ⟨p, _, k, x, rfl, rfl, SqL.of h1, atI_nat (j := k) h, q _ H (W.refl H) rfl⟩
theorem od_ixI (h : l[k]? = some a) : OpD (W := W) (rIxL K) (dIs l) (dN k) (dI a) := od_ixG (by rw [List.getElem?_map, h]; rfl)
theorem ev_lstI (l : List Int) (h : AV Ds t (l.map fun n => dI n)) (hn : l.length ≤ 100000 := by exact Nat.le_of_ble_eq_true rfl) : EV Ds (tLst t) (dIs l) := ev_fl (fl_lst (l.map V.int) (by rw [List.map_map]; exact h) (by rw [List.length_map]; exact hn))
theorem od_catI (h : l.length + l2.length ≤ 100000) : OpD (W := W) rCat (dIs l) (dIs l2) (dIs (l ++ l2)) := fun u v H Q iv o1 o2 k => od_catG (by rw [List.length_map, List.length_map]; exact h) u v H Q iv o1 o2 fun v' H' l' o' => k v' H' l' (by
  show (dLst ((l ++ l2).map V.int)).ok v' H'
  rw [List.map_append]
  exact o')
theorem cd_lenI : CrD (W := W) (fun xs H Q => ∃ p ys, xs = [.ref p] ∧ (SqL K H p ys ∨ SqT K H p ys) ∧ Q (.int ys.length) H) [dIs l] (dN l.length) := fun vs H Q iv o q => cd_len vs H Q iv o (by rw [List.length_map]; exact q)
theorem cd_sumI : CrD (W := W) (rSum K) [dIs l] (dI l.sum) := fun vs H Q iv o q => by
  match vs, o with
  | [v], ⟨⟨p, e, g, h⟩, _⟩ =>
    subst e
    exact ⟨p, l, rfl, SqL.of h, q _ H (W.refl H) rfl⟩
theorem dd_Is (l : List Int) : DD K (dIs l : Dn W) (.list ((l.map V.int).map toD)) := fun v H ⟨a, e, g, h⟩ => by
  subst e
  exact .lst (SqL.of h) (dp_all (flat_is l))
theorem nice_is {l : List Int} (h : ∀ v ∈ l, v.natAbs < 2 ^ 64) : Nice 1 (l.length * 1923 + 2) (.list ((l.map V.int).map toD)) := by
  have := nice_list (dep := 0) (n := 1921) (es := (l.map V.int).map toD) fun e he => by
    obtain ⟨x, hx, rfl⟩ := List.mem_map.mp he
    obtain ⟨v, hv, rfl⟩ := List.mem_map.mp hx
    refine nice_int ?_
    by_cases h0 : v.natAbs = 0
    · rw [h0]
      decide
    · exact Nat.lt_of_lt_of_le ((Nat.log2_lt h0).mpr (h v hv)) (by decide)
  rw [List.length_map, List.length_map] at this
  exact this
/-- repr, where no class stands -/
theorem cd_reprD {e : PyData} {dep z : Nat} (hd : DD K d e) (hr : ∀ v H, d.ok v H → ∃ a, v = .ref a) (nc : Nice dep z e) (h1 : dep ≤ 60) (h2 : z ≤ 16000000) : CrD (W := W) (rRepr K) [d] (dS e.shown) := fun vs H Q iv o q => by
  match vs, o with
  | [v], ⟨o, _⟩ =>
    obtain ⟨a, rfl⟩ := hr v H o
    exact ⟨⟨a, e, rfl, hd _ _ o, nc.sh, nc.nd, Nat.le_trans nc.dp h1, Nat.le_trans nc.ln (Nat.le_trans h2 (by decide)), q _ H (W.refl H) rfl⟩⟩
theorem cd_reprI (h : ∀ v ∈ l, v.natAbs < 2 ^ 64) (hl : l.length ≤ 1000) : CrD (W := W) (rRepr K) [dIs l] (dS (PyData.list ((l.map V.int).map toD)).shown) := cd_reprD (dd_Is l) ref_Lst (nice_is h) (by decide) (by omega)
/-- [g x y for x, y in zip(l, m)] -/
theorem ev_lcZ {g : Int → Int → Int} (hl : AV Ds ta [dIs l, dIs l2]) (hlen : l.length = l2.length) (hz : l.length ≤ 100000) (ne : i ≠ j) (hb : ∀ x y, x ∈ l → y ∈ l2 → EV ((Ds.set i (some (dI x))).set j (some (dI y))) te (dI (g x y))) :
    EV Ds (tLc (iZip K ta) (gTup K 2 (gCons (gName i) (gCons (gName j) gNil))) tYes te [i, j]) (dIs (List.zipWith g l l2)) := fun σ H Q iv en q =>
  hl σ H _ iv en fun vs H1 l1 o1 => by
    match vs, o1 with
    | [v, u], ⟨⟨a, e1, ga, ha⟩, ⟨b, e2, gb, hb2⟩, _⟩ =>
      subst e1 e2
      have iv1 := W.step l1 iv
      refine ⟨a, b, _, _, rfl, SqL.of ha, SqL.of hb2, fun D nD => ?_⟩
      refine ⟨fun k m H' => k + m = l.length ∧ W.L H1 H' ∧ H' D = some (.lst ((List.zipWith g (l.take k) (l2.take k)).map V.int)), ⟨l.length, Nat.zero_add _, W.put iv1 (W.refl H1) nD, upd_same⟩, fun k m H' hW => ?_⟩
      obtain ⟨km, lP, eD⟩ := hW
      have iv' := W.step lP iv1
      have hLa : SqL K H' a (l.map V.int) := SqL.of (W.keep ga lP ha)
      have hLb : SqL K H' b (l2.map V.int) := SqL.of (W.keep gb lP hb2)
      by_cases hk : k < l.length
      · have hk2 : k < l2.length := by omega
        have hx : (l.map V.int)[k]? = some (V.int l[k]) := by rw [List.getElem?_map, List.getElem?_eq_getElem hk]; rfl
        have hy : (l2.map V.int)[k]? = some (V.int l2[k]) := by rw [List.getElem?_map, List.getElem?_eq_getElem hk2]; rfl
        refine .inr ⟨⟨_, _, _, _, hLa, hLb, hx, hy⟩, fun H2 => W.L H1 H2 ∧ H2 D = some (.lst ((List.zipWith g (l.take (k + 1)) (l2.take (k + 1))).map V.int)), fun H2 hN => ⟨m - 1, by omega, by omega, hN⟩, fun z H2 hyl => ?_⟩
        obtain ⟨T, x1, y1, rfl, nT, rfl, fx, fy⟩ := hyl
        have ex : x1 = V.int l[k] := by
          have h2 := fx _ hLa
          rw [hx] at h2
          exact (Option.some.inj h2).symm
        have ey : y1 = V.int l2[k] := by
          have h2 := fy _ hLb
          rw [hy] at h2
          exact (Option.some.inj h2).symm
        subst ex ey
        have l3 : W.L H' (upd H' T (.tup [V.int l[k], V.int l2[k]])) := W.put iv' (W.refl _) nT
        have iv3 := W.step l3 iv'
        refine ⟨T, _, rfl, .inl (.inl upd_same), rfl, _, _, rfl, _, _, rfl, rfl, wipe2 ne, tv_yes _ _ _ iv3 (env_wipe (d1 := dI l[k]) (d2 := dI l2[k]) rfl rfl (en.st (W.trans l1 (W.trans lP l3))) ne) fun H3 l4 => ?_⟩
        refine (if_pos rfl).mpr (hb l[k] l2[k] (List.getElem_mem hk) (List.getElem_mem hk2) _ H3 _ (W.step l4 iv3) ((env_wipe (d1 := dI l[k]) (d2 := dI l2[k]) rfl rfl (en.st (W.trans l1 (W.trans lP l3))) ne).st l4) fun y H4 l5 o5 => ?_)
        have eD5 := W.keep (W.fresh iv1 nD) l5 (W.keep (W.fresh iv1 nD) l4 (W.keep (W.fresh iv1 nD) l3 eD))
        refine ⟨_, eD5, ?_, W.put iv1 (W.trans lP (W.trans l3 (W.trans l4 l5))) nD, ?_⟩
        · rw [List.length_map, List.length_zipWith, List.length_take]
          exact sl_lt (by omega)
        · rw [upd_same, show y = V.int (g l[k] l2[k]) from o5, List.take_add_one, List.take_add_one, List.getElem?_eq_getElem hk, List.getElem?_eq_getElem hk2, List.zipWith_append (by rw [List.length_take, List.length_take]; omega), List.map_append]
          rfl
      · refine .inl ⟨⟨_, _, hLa, hLb, .inl (by rw [List.length_map]; omega)⟩, q _ H' (W.trans l1 lP) ⟨D, rfl, W.fresh iv1 nD, ?_⟩⟩
        rw [eD, List.take_of_length_le (by omega), List.take_of_length_le (by omega)]
theorem ev_lcRI {g : Nat → Int} (hl : AV Ds t [dN n]) (hz : n ≤ 100000) (hb : ∀ x < n, EV (Ds.set i (some (dN x))) te (dI (g x))) : EV Ds (tLc (iRng1 t) (gName i) tYes te [i]) (dIs ((List.range n).map g)) := by
  have := ev_lcR (p := fun _ => true) (g := fun x => V.int (g x)) hl hz (fun _ _ => tv_yes) fun x hx _ => hb x hx
  rw [filt_true] at this
  unfold dIs
  rw [List.map_map]
  exact this
end
/-! ### the defs of entries -/
section
variable {n m i j k : Nat} {l : List Int} {e : Int}
theorem sd_check_places (h1 : 1 ≤ n) (h24 : n ≤ 24) : SpD (W := W) sp_check_places [] [dN n] (dV .non) := fun vs H Q iv o q => by
  match vs, o with
  | [v], ⟨e1, _⟩ =>
    rw [show v = V.int (n : Int) from e1]
    exact ⟨n, rfl, h1, h24, q _ H (W.refl H) rfl⟩
theorem sd_is_countN : SpD (W := W) sp_is_count [] [dN n] (dB true) := fun vs H Q iv o q => by
  match vs, o with
  | [v], ⟨e1, _⟩ =>
    rw [show v = V.int (n : Int) from e1]
    refine ⟨n, rfl, ?_⟩
    rw [decide_eq_true (by omega)]
    exact q _ H (W.refl H) rfl
def sp_check_at : Sp := spW (ι := Nat × Nat) (fun _ i => i.2 ≤ i.1) (fun _ i => [dN i.1, dN i.2]) fun _ _ => dV .non
theorem sd_check_at (h : j ≤ n) : SpD sp_check_at [] [(dN n : Dn W), dN j] (dV .non) := spW_sd (i := (n, j)) h
structure EntP (i : Nat × Nat) : Prop where
  n24 : i.1 ≤ 24
  h : i.2 ≤ i.1
def sp_entries : Sp := spW (ι := Nat × Nat) (fun _ i => EntP i) (fun _ i => [dN i.1, dN i.2]) fun _ i => dIs (entL i.1 i.2)
theorem sd_entries (n24 : n ≤ 24) (h : i ≤ n) : SpD sp_entries [] [(dN n : Dn W), dN i] (dIs (entL n i)) := spW_sd (i := (n, i)) ⟨n24, h⟩
structure EntQ (i : Nat × Nat × Nat) : Prop where
  n1 : 1 ≤ i.1
  n24 : i.1 ≤ 24
  h1 : i.2.1 ≤ i.1
  h2 : i.2.2 ≤ i.1
def sp_entry : Sp := spW (ι := Nat × Nat × Nat) (fun _ i => EntQ i) (fun _ i => [dN i.1, dN i.2.1, dN i.2.2]) fun _ i => dI (entN i.1 i.2.2 i.2.1)
theorem sd_entry (n1 : 1 ≤ n) (n24 : n ≤ 24) (h1 : j ≤ n) (h2 : i ≤ n) : SpD sp_entry [] [(dN n : Dn W), dN j, dN i] (dI (entN n i j)) := spW_sd (i := (n, j, i)) ⟨n1, n24, h1, h2⟩
structure TimP (i : List Int × Int) : Prop where
  ln : i.1.length ≤ 100
  e1 : i.2 = 1 ∨ i.2 = -1
def sp_ltimes : Sp := spW (ι := List Int × Int) (fun _ i => TimP i) (fun _ i => [dIs i.1, dIs [1, i.2]]) fun _ i => dIs (facL i.2 i.1)
theorem sd_ltimes (ln : l.length ≤ 100) (e1 : e = 1 ∨ e = -1) : SpD sp_ltimes [] [(dIs l : Dn W), dIs [1, e]] (dIs (facL e l)) := spW_sd (i := (l, e)) ⟨ln, e1⟩
/-- where the product stands -/
def tabL (l : List Int) (e : Int) (k : Nat) : List Int := (List.range (l.length + 1)).map fun j => (if j < k then l.getD j 0 else 0) + (if 1 ≤ j ∧ j ≤ k then e * l.getD (j - 1) 0 else 0)
theorem tabL_len : (tabL l e k).length = l.length + 1 := by
  unfold tabL
  rw [List.length_map, List.length_range]
theorem tabL_at (h : j ≤ l.length) : (tabL l e k)[j]? = some ((if j < k then l.getD j 0 else 0) + (if 1 ≤ j ∧ j ≤ k then e * l.getD (j - 1) 0 else 0)) := by
  unfold tabL
  rw [List.getElem?_map, List.getElem?_range (by omega)]
  rfl
theorem tabL_zero : tabL l e 0 = List.replicate (l.length + 1) 0 := by
  apply List.ext_getElem?
  intro j
  by_cases h : j ≤ l.length
  · rw [tabL_at h, List.getElem?_replicate_of_lt (by omega), if_neg (by omega), if_neg (by omega)]
    rfl
  · rw [List.getElem?_eq_none (by rw [tabL_len]; omega), List.getElem?_eq_none (by rw [List.length_replicate]; omega)]
theorem tabL_step (h : k < l.length) : ((tabL l e k).set k ((if 1 ≤ k ∧ k ≤ k then e * l.getD (k - 1) 0 else 0) + l.getD k 0)).set (k + 1) (e * l.getD k 0) = tabL l e (k + 1) := by
  apply List.ext_getElem?
  intro j
  by_cases hj : j ≤ l.length
  · rw [tabL_at hj]
    by_cases q1 : j = k + 1
    · subst q1
      rw [List.getElem?_set_self (by rw [List.length_set, tabL_len]; omega), if_neg (by omega), if_pos (by omega), Nat.add_sub_cancel, Int.zero_add]
    · rw [List.getElem?_set_ne (fun z => q1 z.symm)]
      by_cases q2 : j = k
      · subst q2
        rw [List.getElem?_set_self (by rw [tabL_len]; omega), if_pos (Nat.lt_succ_self j), Int.add_comm]
        by_cases q3 : 1 ≤ j
        · rw [if_pos ⟨q3, Nat.le_refl j⟩, if_pos ⟨q3, Nat.le_succ j⟩]
        · rw [if_neg (fun z => q3 z.1), if_neg (fun z => q3 z.1)]
      · rw [List.getElem?_set_ne (fun z => q2 z.symm), tabL_at hj]
        have a1 : (j < k) = (j < k + 1) := propext ⟨fun z => by omega, fun z => by omega⟩
        have a2 : (1 ≤ j ∧ j ≤ k) = (1 ≤ j ∧ j ≤ k + 1) := propext ⟨fun z => by omega, fun z => by omega⟩
        simp only [a1, a2]
  · rw [List.getElem?_eq_none (by rw [List.length_set, List.length_set, tabL_len]; omega), List.getElem?_eq_none (by rw [tabL_len]; omega)]
theorem tabL_end : tabL l e l.length = facL e l := by
  apply List.ext_getElem?
  intro j
  by_cases hj : j ≤ l.length
  · rw [tabL_at hj]
    unfold facL
    rw [List.getElem?_zipWith]
    have b1 : (l ++ [0])[j]? = some (if j < l.length then l.getD j 0 else 0) := by
      by_cases q : j < l.length
      · rw [if_pos q, List.getElem?_append_left q, List.getD_eq_getElem?_getD, List.getElem?_eq_getElem q]
        rfl
      · have : j = l.length := by omega
        rw [if_neg q, this, List.getElem?_append_right (Nat.le_refl _), Nat.sub_self]
        rfl
    have b2 : ([0] ++ l)[j]? = some (if 1 ≤ j then l.getD (j - 1) 0 else 0) := by
      match j, hj with
      | 0, _ => rfl
      | j + 1, hj =>
        rw [if_pos (by omega), Nat.add_sub_cancel, List.getD_eq_getElem?_getD, List.getElem?_eq_getElem (show j < l.length by omega)]
        show l[j]? = _
        rw [List.getElem?_eq_getElem (show j < l.length by omega)]
        rfl
    rw [b1, b2]
    show some _ = some (_ + e * _)
    by_cases q : 1 ≤ j
    · rw [if_pos (show 1 ≤ j ∧ j ≤ l.length from ⟨q, hj⟩), if_pos q]
    · rw [if_neg (show ¬ (1 ≤ j ∧ j ≤ l.length) from fun z => q z.1), if_neg q, Int.mul_zero]
  · rw [List.getElem?_eq_none (by rw [tabL_len]; omega), List.getElem?_eq_none (by rw [facL_len]; omega)]
def sp_lentries : Sp := spW (ι := Nat × Nat) (fun _ i => EntP i) (fun _ i => [dN i.1, dN i.2]) fun _ i => dIs (entL i.1 i.2)
theorem sd_lentries (n24 : n ≤ 24) (h : i ≤ n) : SpD sp_lentries [] [(dN n : Dn W), dN i] (dIs (entL n i)) := spW_sd (i := (n, i)) ⟨n24, h⟩
structure SgnP (W : Wd) (i : Addr × Nat) : Prop where
  hp : IsPot W i.1
  n1 : 1 ≤ i.2
  n7 : i.2 ≤ 7
def sp_signs : Sp := spW (ι := Addr × Nat) (fun W i => SgnP W i) (fun _ i => [dV (.ref i.1), dN i.2]) fun _ _ => dB true
theorem sd_signs {p : Addr} (hp : IsPot W p) (n1 : 1 ≤ n) (n7 : n ≤ 7) : SpD sp_signs [] [dV (.ref p), dN n] (dB true : Dn W) := spW_sd (i := (p, n)) ⟨hp, n1, n7⟩
end
end Vf

set_option Elab.async false
set_option linter.all false
set_option maxRecDepth 100000
set_option maxHeartbeats 1000000
namespace Vf
open PySem PySem.Spec PyProof.Rows L2
variable {W : Wd}
section
variable {Ds Es Fs : EnvT W} {d d1 d2 d3 : Dn W} {t ta tk : TA} {te : TE}
theorem ev_kw3 {sp : Sp} (h : SpD sp [] [d1, d2, d3] d) (ha : AV Ds tk [d3, d2, d1]) : EV Ds (fun σ H Q => tk σ H fun zs H1 => zs.length = 3 ∧ sp (kw2 [] zs) H1 Q E0) d := ev_callKw h (fun vs H o => by
  match vs, o with
  | [x, y, z], ⟨o1, o2, o3, _⟩ => exact ⟨o3, o2, o1, trivial⟩) rfl ha
theorem ev_eqD (h : EV Ds te d1) (e : d1 = d2) : EV Ds te d2 := e ▸ h
end
/-! sums gone through -/
def sgK (P : Nat → Nat) (Q : Nat → Bool) (j k : Nat) : Int := (((List.range k).filter fun u => decide (P u = j)).map fun u => sg (Q u)).sum
theorem sgK_zero (P : Nat → Nat) (Q : Nat → Bool) (j : Nat) : sgK P Q j 0 = 0 := rfl
theorem sgK_yes {P : Nat → Nat} {Q : Nat → Bool} {j k : Nat} (h : P k = j) : sgK P Q j (k + 1) = sgK P Q j k + sg (Q k) := by
  unfold sgK
  rw [List.range_succ, List.filter_append, List.map_append, List.sum_append_int, List.filter_cons, if_pos (decide_eq_true h)]
  simp
theorem sgK_no {P : Nat → Nat} {Q : Nat → Bool} {j k : Nat} (h : ¬ P k = j) : sgK P Q j (k + 1) = sgK P Q j k := by
  unfold sgK
  rw [List.range_succ, List.filter_append, List.map_append, List.sum_append_int, List.filter_cons, if_neg (by rw [decide_eq_false h]; decide)]
  simp
theorem sgK_all (P : Nat → Nat) (Q : Nat → Bool) (n j : Nat) : sgK P Q j (2 ^ n) = sumS P Q n j := rfl
theorem par_sg (u v : Nat) : sg (par u v) = if pc (u &&& v) &&& 1 = 0 then 1 else -1 := by
  unfold par
  generalize pc (u &&& v) = x
  rw [Nat.and_one_is_mod]
  by_cases h : x % 2 = 0
  · rw [if_pos h, decide_eq_false (by omega)]
    rfl
  · rw [if_neg h, decide_eq_true (by omega)]
    rfl
theorem ent_words {n i j : Nat} (n24 : n ≤ 24) (h : i ≤ n) : sgK pc (fun u => par u (2 ^ i - 1)) j (2 ^ n) = entN n i j := by
  have := sgS_ent (v := 2 ^ i - 1) n24 (by have := pw_le h; have := Nat.two_pow_pos i; omega) j
  rw [pc_mask (by omega)] at this
  rw [sgK_all]
  exact this
/-! the list of entries, from its factors -/
theorem ent_step {i k : Nat} : facL (if k < i then -1 else 1) (polL (sgs (2 ^ i - 1) k)) = polL (sgs (2 ^ i - 1) (k + 1)) := by
  rw [polL_step, ← sg_mask]
  rfl
theorem polS_len {v k : Nat} : (polL (sgs v k)).length = k + 1 := by rw [polL_len, sgs_len]
theorem facL_eq {l : List Int} {e : Int} : facL e l = List.zipWith (fun x y => x + e * y) (l ++ [0]) ([0] ++ l) := rfl
theorem sgn_cases (p : Prop) [Decidable p] : (if p then (-1 : Int) else 1) = 1 ∨ (if p then (-1 : Int) else 1) = -1 := by
  by_cases h : p
  · rw [if_pos h]; exact .inr rfl
  · rw [if_neg h]; exact .inl rfl
theorem cmul_l {a b : Int} (h : a = 1 ∨ a = -1) : CMul a b := .inl (by rcases h with rfl | rfl <;> omega)
theorem cmul_ent {n i j : Nat} {b : Int} (n24 : n ≤ 24) (h : i ≤ n) : CMul (entN n i j) b := by
  have h1 := ent_bound h j
  have h2 : 2 ^ n ≤ 2 ^ 24 := pw_le n24
  refine .inl ?_
  omega
theorem natCast_pow2 (n : Nat) : ((2 ^ n : Nat) : Int) = 2 ^ n := by simp
theorem if_cast {p : Prop} [Decidable p] {a : Nat} {b : Int} (h : (a : Int) = b) : (if p then b else 0) = ((if p then a else 0 : Nat) : Int) := by
  by_cases q : p
  · rw [if_pos q, if_pos q, h]
  · rw [if_neg q, if_neg q]; rfl
theorem ent_nought {n i : Nat} : entN n i 0 = 1 := pol_zero _
theorem and1 (k : Nat) : (k &&& 1 = 0) = (k % 2 = 0) := by rw [Nat.and_one_is_mod]
end Vf

set_option Elab.async false
set_option linter.all false
set_option maxRecDepth 100000
set_option maxHeartbeats 1000000
namespace Vf
open PySem PySem.Spec PyProof.Rows L2
variable {W : Wd}
/-! ### defs whose result is a list made anew -/
def SVF (Ds : EnvT W) (cs : List (Nat × List V)) (ts : TS) (xs : List V) : Prop := ∀ (D : Ends) (σ : L2.St) (H G : Hp), CE W cs σ H G → W.inv G → EnvL Ds σ G →
  (∀ p H', H' p = some (.lst xs) → W.F p → W.L G (del p H') → D.rt (.ref p) H') → ts D σ H
def spF {ι : Type} (P : Wd → ι → Prop) (ds : (W : Wd) → ι → List (Dn W)) (xs : ι → List V) : Sp := fun vs H Q _ => ∃ (W : Wd) (i : ι), P W i ∧ W.inv H ∧ OkL (ds W i) vs H ∧ ∀ p H', H' p = some (.lst (xs i)) → W.F p → W.L H (del p H') → Q (.ref p) H'
theorem fresh_none {H H' : Hp} {p : Addr} (f : W.F p) (l : W.L H (del p H')) : H p = none := by
  cases e : H p with
  | none => rfl
  | some o =>
    have := W.keep f l e
    rw [del_same] at this
    cases this
section
variable {Ds Es Fs : EnvT W} {cs cs1 : List (Nat × List V)} {d d1 d2 : Dn W} {te ti tl : TE} {t ta : TA} {tt : TT} {ts tu tb : TS} {i j k n : Nat} {K : PySem.W.Frag} {xs ys : List V} {l : List Nat}
theorem svf_seq (h : NVC Ds cs ts Es cs1) (k : SVF Es cs1 tu xs) : SVF Ds cs (tSeq ts tu) xs := fun D σ H G ce iv en q =>
  h _ σ H G ce iv en fun σ' H' G' ce' l e' => k D σ' H' G' ce' (W.step l iv) e' fun p H2 e f l2 => q p H2 e f (W.trans l l2)
theorem svf_seqN (h : NV Ds ts Es) (k : SVF Es [] tu xs) : SVF Ds [] (tSeq ts tu) xs := fun D σ H G ce iv en q => by
  have ce : G = H := ce
  subst ce
  exact h _ σ G iv en fun σ' H' l e' => k D σ' H' H' rfl (W.step l iv) e' fun p H2 e f l2 => q p H2 e f (W.trans l l2)
theorem svf_ret (h : FL Ds te xs) : SVF Ds [] (tRet te) xs := fun D σ H G ce iv en q => by
  have ce : G = H := ce
  subst ce
  exact h σ G _ iv en fun p H' _ f l e => q p H' e f l
theorem svf_cell (h : FL Ds te ys) (r : SVF (Ds.set i none) [(i, ys)] tu xs) (hi : Nat.ble (i + 1) Ds.n = true := by rfl) : SVF Ds [] (tSeq (tAsg te (gName i)) tu) xs := fun D σ H G ce iv en q => by
  have ce : G = H := ce
  subst ce
  refine h σ G _ iv en fun p H1 hp fp l e => ?_
  refine r D _ H1 _ ⟨p, ?_, fp, e, rfl⟩ (W.step l iv) (en.st l).dropS fun p2 H2 e2 f2 l2 => q p2 H2 e2 f2 (W.trans l l2)
  exact List.getElem?_set_self (by rw [en.1]; exact Nat.le_of_ble_eq_true hi)
/-- the one cell is told -/
theorem svf_retC : SVF Ds [(i, xs)] (tRet (tVar i)) xs := fun D σ H G ce iv en q => by
  obtain ⟨p, e, f, hp, h⟩ := ce
  have h : G = del p H := h
  subst h
  exact ⟨.ref p, e, q p H hp f (W.refl _)⟩
theorem svf_ifR {b : Bool} (h : TV Ds tt b) (h1 : b = true → SVF Ds [] ts xs) (h2 : b = false → SVF Ds [] tu xs) : SVF Ds [] (tSeq (tIfS tt ts tNext) tu) xs := fun D σ H G ce iv en q => by
  have ce : G = H := ce
  subst ce
  refine h σ G _ iv en fun H1 l1 => ?_
  cases b with
  | true => exact (if_pos rfl).mpr (h1 rfl { D with nx := tu D } σ H1 H1 rfl (W.step l1 iv) (en.st l1) fun p H2 e f l2 => q p H2 e f (W.trans l1 l2))
  | false => exact (if_neg Bool.false_ne_true).mpr (h2 rfl D σ H1 H1 rfl (W.step l1 iv) (en.st l1) fun p H2 e f l2 => q p H2 e f (W.trans l1 l2))
theorem spF_sd {ι : Type} {P : Wd → ι → Prop} {ds : (W : Wd) → ι → List (Dn W)} {ys : ι → List V} {i : ι} (h : P W i) : SpD (spF P ds ys) [] (ds W i) (dLst (ys i)) := fun vs H Q iv o q => by
  rw [List.append_nil]
  exact ⟨W, i, h, iv, o, fun p H' e f l => q _ H' (W.trans l (L_del (W.step l iv) e)) ⟨p, rfl, f, e⟩⟩
theorem fl_call {ι : Type} {P : Wd → ι → Prop} {ds : (W : Wd) → ι → List (Dn W)} {ys : ι → List V} {i : ι} (h : P W i) (ha : AV Ds t (ds W i)) : FL Ds (tCall (spF P ds ys) [] E0 t) (ys i) := fun σ H Q iv en q =>
  ha σ H _ iv en fun vs H1 l1 o1 => by
    rw [List.append_nil]
    exact ⟨W, i, h, W.step l1 iv, o1, fun p H' e f l => q p H' (fresh_none f (W.trans l1 l)) f (W.trans l1 l) e⟩
/-! a loop over a told list, cells at hand -/
theorem CE.more {p : Addr} {o : HO} : ∀ {cs : List (Nat × List V)} {σ : L2.St} {H G : Hp}, CE W cs σ (del p H) G → H p = some o → CE W cs σ H (upd G p o)
  | [], σ, H, G, h, e => by
    have h : G = del p H := h
    subst h
    exact upd_del e
  | c :: cs, σ, H, G, ⟨q, e1, f, hq, h⟩, e => by
    obtain ⟨ne, hq⟩ := del_some hq
    rw [del_del] at h
    refine ⟨q, e1, f, hq, CE.more h ?_⟩
    rw [del_ne (Ne.symm ne)]
    exact e
theorem nvc_forE (E : Nat → EnvT W) (C : Nat → List (Nat × List V)) (hl : FL (withC Ds cs) te xs) (h0 : ∀ σ H, EnvL Ds σ H → EnvL (E 0) σ H) (hC : CE W cs = CE W (C 0))
    (hs : ∀ k, ((C k).all fun c => !(Nat.beq c.1 i)) = true) (hb : ∀ k x, xs[k]? = some x → NVC ((E k).set i (some (dV x))) (C k) ts (E (k + 1)) (C (k + 1))) :
    NVC Ds cs (tFor (iList K te) (gName i) ts) (E xs.length) (C xs.length) := fun D σ H G ce iv en q =>
  hl σ H _ (W.step (ce.up iv) iv) (ce.env iv en) fun a H1 _ fa l1 ea => by
    obtain ⟨G1, c1, lG⟩ := ce.go l1
    have iv1 := W.step lG iv
    have nG : G1 a = none := by
      cases z : G1 a with
      | none => rfl
      | some o =>
        have := c1.ne z
        rw [del_same] at this
        cases this
    have lU : W.L G1 (upd G1 a (.lst xs)) := W.put iv1 (W.refl G1) nG
    have c2 := CE.more c1 ea
    have ivU := W.step lU iv1
    refine ⟨a, rfl, ⟨xs, SqL.of ea⟩, ?_⟩
    refine for_list (K := K) (a := a) (xs := xs) (fun k σ' H' => ∃ G', CE W (C k) σ' H' G' ∧ W.L (upd G1 a (.lst xs)) G' ∧ EnvL (E k) σ' G') ⟨_, hC ▸ c2, W.refl _, h0 _ _ ((en.st lG).st lU)⟩ (fun k σ' H' _ hP => ?_) (fun k x σ' H' hx hP => ?_) fun σ' H' hP => ?_
    · obtain ⟨G', cP, lP, _⟩ := hP
      exact SqL.of (cP.ne (W.keep fa lP upd_same))
    · obtain ⟨G', cP, lP, eP⟩ := hP
      exact hb k x hx _ _ H' G' (cP.slot (hs k)) (W.step lP ivU) (eP.set rfl) fun σ2 H2 G2 c2 l2 e2 => ⟨G2, c2, W.trans lP l2, e2⟩
    · obtain ⟨G', cP, lP, eP⟩ := hP
      exact q σ' H' G' cP (W.trans lG (W.trans lU lP)) eP
theorem fl_sums {B : List Nat} (pl : Piv B) (h : B.length ≤ 12) (ha : AV Ds t [dVs B]) : FL Ds (tCall sp_sums_of [] E0 t) (vs (wordsOf B)) := fun σ H Q iv en q =>
  ha σ H _ iv en fun us H1 l1 o1 => by
    match us, o1 with
    | [u], ⟨⟨b, e, fb, hb⟩, _⟩ =>
      subst e
      have iv1 := W.step l1 iv
      refine ⟨b, B, rfl, hb, pl, h, fun H' p L sm np ep pm od => ?_⟩
      have s2 : Same H1 (del p H') := fun c v hc => by
        have nc : c ≠ p := fun z => by
          subst z
          rw [np] at hc
          cases hc
        rw [del_ne nc]
        exact sm c v hc
      refine q p H' (none_back iv1 l1 np) (W.fresh iv1 np) (W.trans l1 (W.same s2)) ?_
      rw [ep, sort_uniq pm od]
      rfl
/-! numbers[k] += y -/
def rGetN (K : PySem.W.Frag) : V → V → Hp → VK → Prop := fun o i H Q => ∃ (p : Addr) (xs : List V) (k : Nat) (v : V), o = .ref p ∧ i = .int (k : Int) ∧ SqL K H p xs ∧ xs[k]? = some v ∧ Q v H
theorem get_listN {X : Cx} : PGet X (rGetN X.K) := by
  intro pins s σ H o i ov iv Q I ro ri h
  obtain ⟨p, xs, k, z, rfl, rfl, hq, he, q⟩ := h
  cases ro
  obtain ⟨t, rfl⟩ := ri
  obtain ⟨its, r, pl, hz⟩ := I.list hq
  obtain ⟨w, ew, rw'⟩ := r.get he
  have fin : EP X pins σ Q w s := ⟨z, H, I, rw', q⟩
  have hl := r.length
  have hk := (List.getElem?_eq_some_iff.mp he).1
  have hn := line63
  exact wpAny_getItem_list pl.isList (by omega) (by omega) (by simpa using ew) fin
theorem nvc_aug {a b : Int} (g : getC cs i = some xs) (hk : EV (withC Ds cs) ti (dN k)) (gx : xs[k]? = some (.int a)) (h : EV (withC Ds cs) te (dI b)) : NVC Ds cs (tAugS (tVar i) ti te (rGetN K) (ipI fun i j => i + j) rSetL) Ds (setC cs i (xs.set k (.int (a + b)))) := fun D σ H G ce iv en q => by
  obtain ⟨p0, e0, hp0⟩ := cell_at ce g
  refine ⟨.ref p0, e0, ev_run hk ce iv en fun u H1 G1 c1 l1 _ o => ?_⟩
  obtain ⟨p, e, hp⟩ := cell_at c1 g
  have ep : p = p0 := by
    rw [e] at e0
    cases e0
    rfl
  subst ep
  refine ⟨p, xs, k, _, rfl, o, SqL.of hp, gx, ev_run h c1 (W.step l1 iv) (en.st l1) fun v H2 G2 c2 l2 _ o2 => ?_⟩
  obtain ⟨p2, e2, hp2, c3⟩ := c2.change (ys := xs.set k (.int (a + b))) g
  have eq : p = p2 := by
    rw [e] at e2
    cases e2
    rfl
  subst eq
  refine ⟨a, b, rfl, o2, ?_⟩
  have lt := (List.getElem?_eq_some_iff.mp gx).1
  exact ⟨p, xs, k, k, rfl, o, hp2, ixN_nat lt, q _ _ _ c3 (W.trans l1 l2) ((en.st l1).st l2)⟩
end
end Vf

set_option Elab.async false
set_option linter.all false
set_option maxRecDepth 100000
set_option maxHeartbeats 400000
namespace Vf
open PySem PySem.Spec PyProof.Rows L2
variable {W : Wd}
/-! ### a comprehension as a new list; defs that tell new lists -/
section
variable {Ds : EnvT W} {te ti tl : TE} {tt : TT} {i j k n : Nat} {K : PySem.W.Frag} {xs : List V} {l : List Nat}
theorem fl_lc {p : V → Bool} {g : V → V} (hl : EV Ds tl (dLst xs)) (hz : xs.length ≤ 100000) (ht : ∀ x ∈ xs, TV (Ds.set i (some (dV x))) tt (p x))
    (hb : ∀ x ∈ xs, p x = true → EV (Ds.set i (some (dV x))) te (dV (g x))) : FL Ds (tLc (iList K tl) (gName i) tt te [i]) ((xs.filter p).map g) := fun σ H Q iv en q =>
  hl σ H _ iv en fun v H1 l1 ⟨a, e, ga, h⟩ => by
    subst e
    have iv1 := W.step l1 iv
    refine ⟨a, rfl, ⟨xs, .inl (.inl h)⟩, fun D nD => ?_⟩
    have fD := W.fresh iv1 nD
    have up : ∀ {H' : Hp} {o : HO}, W.L H1 (del D H') → H' D = some o → W.L H1 H' := fun l e => W.trans l (L_del (W.step l iv1) e)
    refine lc_list (K := K) (a := a) (xs := xs) (fun k H' => W.L H1 (del D H') ∧ H' D = some (.lst (((xs.take k).filter p).map g))) ⟨by rw [del_upd nD]; exact W.refl H1, upd_same⟩ (fun k H' _ hP => .inl (.inl (W.keep ga (up hP.1 hP.2) h))) (fun k x H' hx hP => ?_)
      fun H' hP => q D H' (none_back iv1 l1 nD) fD (W.trans l1 hP.1) (by rw [hP.2, List.take_length])
    obtain ⟨lP', eD⟩ := hP
    have lP := up lP' eD
    have xm := List.mem_of_getElem? hx
    have en' : EnvL (Ds.set i (some (dV x))) ((wipe σ [i]).set i (some x)) H' := env_lc rfl (en.st (W.trans l1 lP))
    have tk : (xs.take (k + 1)).filter p = (xs.take k).filter p ++ [x].filter p := by
      rw [List.take_add_one, hx, List.filter_append]
      rfl
    refine ⟨wipe_lc, ?_⟩
    refine ht x xm _ H' _ (W.step lP iv1) en' fun H2 l2 => ?_
    cases hp : p x with
    | true =>
      refine (if_pos rfl).mpr (hb x xm hp _ H2 _ (W.step l2 (W.step lP iv1)) (en'.st l2) fun y H3 l3 o3 => ?_)
      have eD3 := W.keep fD l3 (W.keep fD l2 eD)
      refine ⟨_, eD3, ?_, ?_, ?_⟩
      · rw [List.length_map]
        refine sl_lt (Nat.le_trans (List.length_filter_le _ _) ?_)
        rw [List.length_take]
        omega
      · rw [del_updS]
        exact W.trans lP' (W.trans (W.delL fD l2) (W.delL fD l3))
      · rw [upd_same, tk, List.map_append, (show y = g x from o3), List.filter_cons_of_pos hp]
        rfl
    | false =>
      refine (if_neg Bool.false_ne_true).mpr ⟨W.trans lP' (W.delL fD l2), ?_⟩
      rw [tk, List.filter_cons_of_neg (by simp [hp]), List.filter_nil, List.append_nil]
      exact W.keep fD l2 eD
theorem fl_eq {ys : List V} (h : FL Ds te xs) (e : xs = ys) : FL Ds te ys := e ▸ h
end
section
variable {P : Program} {w : World} {K : PySem.W.Frag} {mg : Str → Option Value} {base : Heap} {x qual : Str} {st : Stmt} {f : Addr} {fd : FuncData} {N ps : List Str} {k : Nat}
  {ι : Type} {Pr : Wd → ι → Prop} {ds : (W : Wd) → ι → List (Dn W)} {ys : ι → List V}
theorem fn_svf (F : Fun K x qual st f fd) (S : FnScope N ps (defScope st)) (len : ∀ W i, (ds W i).length = ps.length)
    (hb : ∀ (W : Wd) (i : ι), Pr W i → ∀ (cdv : Value) (A : Around) (outer : List Env) (s : Shared) (H : Hp) (E : XK), Room k (A.deeper (envOfC qual (defScope st) s.heap.objs.size f cdv)) →
      ∃ t, PSs (cxOf CX0 P w K mg base N qual (defScope st) f cdv A outer s H E).nox (defBody st) t ∧ SVF (envOf (ds W i) (N.length - ps.length)) [] t (ys i)) : FnOk P w K mg base CX0 (k + 1) f fd ps (spF Pr ds ys) := by
  refine F.ok S (fun vs H Q E h => ?_) (fun cdv A outer s H vs Q E hr h => ?_)
  · obtain ⟨W, i, _, _, o, _⟩ := h
    exact o.length.trans (len W i)
  · obtain ⟨W, i, p, iv, o, q⟩ := h
    obtain ⟨t, ht, sv⟩ := hb W i p cdv A outer s H E hr
    refine ⟨t, ht, sv _ _ H H rfl iv ?_ q⟩
    have l := o.length.trans (len W i)
    unfold L2.start
    rw [l]
    exact EnvL.start o
end
/-! ### rows -/
def rowP (P : Nat → Nat) (n : Nat) (L : List Nat) : List Nat := (List.range (n + 1)).map fun j => (L.filter fun w => decide (P w = j)).length
theorem rowP_len (P : Nat → Nat) (n : Nat) (L : List Nat) : (rowP P n L).length = n + 1 := by
  unfold rowP
  rw [List.length_map, List.length_range]
theorem rowP_at {P : Nat → Nat} {n j : Nat} {L : List Nat} (h : j ≤ n) : (rowP P n L)[j]? = some (L.filter fun w => decide (P w = j)).length := by
  unfold rowP
  rw [List.getElem?_map, List.getElem?_range (by omega)]
  rfl
theorem rowP_nil (P : Nat → Nat) (n : Nat) : rowP P n [] = List.replicate (n + 1) 0 := by
  apply List.ext_getElem?
  intro j
  by_cases h : j ≤ n
  · rw [rowP_at h, List.getElem?_replicate_of_lt (by omega)]
    rfl
  · rw [List.getElem?_eq_none (by rw [rowP_len]; omega), List.getElem?_eq_none (by rw [List.length_replicate]; omega)]
theorem rowP_step {P : Nat → Nat} {n w : Nat} {L : List Nat} (h : P w ≤ n) : (rowP P n L).set (P w) ((L.filter fun v => decide (P v = P w)).length + 1) = rowP P n (L ++ [w]) := by
  apply List.ext_getElem?
  intro j
  by_cases hj : j ≤ n
  · rw [rowP_at hj, List.filter_append, List.length_append]
    by_cases e : P w = j
    · subst e
      rw [List.getElem?_set_self (by rw [rowP_len]; omega), List.filter_cons, if_pos (decide_eq_true rfl)]
      rfl
    · rw [List.getElem?_set_ne e, rowP_at hj, List.filter_cons, if_neg (by rw [decide_eq_false e]; decide)]
      rfl
  · rw [List.getElem?_eq_none (by rw [List.length_set, rowP_len]; omega), List.getElem?_eq_none (by rw [rowP_len]; omega)]
theorem rowP_perm {P : Nat → Nat} {n : Nat} {L M : List Nat} (h : L.Perm M) : rowP P n L = rowP P n M := by
  unfold rowP
  exact List.map_congr_left fun j _ => (h.filter _).length_eq
theorem rowP_sum {P : Nat → Nat} {n : Nat} : ∀ {L : List Nat}, (∀ v ∈ L, P v ≤ n) → (rowP P n L).sum = L.length
  | [], _ => by rw [rowP_nil]; simp
  | w :: L, h => by
    have ih := rowP_sum (P := P) (n := n) (L := L) fun v hv => h v (List.mem_cons_of_mem _ hv)
    have hw := h w (List.mem_cons_self ..)
    rw [rowP_perm (show (w :: L).Perm (L ++ [w]) from (List.perm_append_singleton w L).symm), ← rowP_step hw]
    have ha := rowP_at (P := P) (L := L) hw
    generalize (L.filter fun v => decide (P v = P w)).length = c at ha ⊢
    generalize rowP P n L = R at ih ha ⊢
    have : ∀ (R : List Nat) (k c : Nat), R[k]? = some c → (R.set k (c + 1)).sum = R.sum + 1 := by
      intro R
      induction R with
      | nil => intro k c h; cases h
      | cons a R ih =>
        intro k c h
        cases k with
        | zero =>
          cases h
          rw [List.set_cons_zero, List.sum_cons, List.sum_cons]
          omega
        | succ k =>
          rw [List.set_cons_succ, List.sum_cons, List.sum_cons, ih k c h]
          omega
    rw [this R _ _ ha, ih, List.length_cons]
theorem pc_pos {v : Nat} (hv : v < 2 ^ 24) (h : pc v = 0) : v = 0 := by
  refine Decidable.byContradiction fun z => ?_
  rw [← spots_len, List.length_eq_zero_iff] at h
  have h : ((List.range 24).filter fun i => v.testBit i) = [] := h
  rw [List.filter_eq_nil_iff] at h
  exact h v.log2 (List.mem_range.mpr ((Nat.log2_lt z).mpr hv)) (Nat.testBit_log2 z)
end Vf

set_option Elab.async false
set_option linter.all false
set_option maxRecDepth 100000
set_option maxHeartbeats 400000
namespace Vf
open PySem PySem.Spec PyProof.Rows L2
variable {W : Wd}
/-- the row of a room -/
noncomputable def rowB (n : Nat) (B : List Nat) : List Nat := rowP pc n (wordsOf B)
theorem rowB_rowL : rowB n B = rowL n (wordsOf B) := rfl
theorem words_ok {B : List Nat} (pl : Plain B) : (∀ v, v ∈ wordsOf B ↔ span B v) ∧ (wordsOf B).Nodup ∧ (wordsOf B).length = 2 ^ B.length := by
  have s := words_spanL pl
  have pm : (wordsOf B).Perm (sumsOf B) := List.mergeSort_perm _ _
  have ok := sums_ok pl.1
  exact ⟨s.1, pm.nodup_iff.mpr ok.2.1, by rw [pm.length_eq, ok.2.2]⟩
theorem words_lt {B : List Nat} {n : Nat} (pl : Plain B) (lt : ∀ b ∈ B, b < 2 ^ n) : ∀ v ∈ wordsOf B, v < 2 ^ n := fun v hv => span_lt lt (((words_ok pl).1 v).mp hv)
structure RowP (r : List Nat) : Prop where
  l2 : 2 ≤ r.length
  l25 : r.length ≤ 25
  one : r[0]? = some 1
  pw : ∃ k, r.sum = 2 ^ k ∧ k + 1 ≤ r.length
theorem RowP.sum0 {r : List Nat} (h : RowP r) : 0 < r.sum ∧ r.sum < 1073741824 := by
  obtain ⟨k, e, hk⟩ := h.pw
  have := h.l25
  rw [e]
  exact ⟨Nat.two_pow_pos k, pw_lt (by omega)⟩
theorem rowB_P {n : Nat} {B : List Nat} (f : RoomF n B) : RowP (rowB n B) := by
  obtain ⟨mem, nd, len⟩ := words_ok f.pl
  have lt := words_lt f.pl f.lt
  have n1 := f.n1
  have n24 := f.n24
  have pl := plain_len f.pl f.lt
  have z : 0 ∈ wordsOf B := (mem 0).mpr (span_zero _)
  have l24 : ∀ v ∈ wordsOf B, v < 2 ^ 24 := fun v hv => lt24 n24 (lt v hv)
  have ple : ∀ v ∈ wordsOf B, pc v ≤ n := fun v hv => pc_le_n n24 (lt v hv)
  have z1 : (List.filter (fun w => decide (pc w = 0)) (wordsOf B)).length = 1 := by
    refine (len_same (m := [0]) (nd.filter _) (by simp) fun x => ?_).trans rfl
    rw [List.mem_filter, List.mem_singleton, decide_eq_true_eq]
    refine ⟨fun ⟨a, b⟩ => pc_pos (l24 x a) b, fun e => ?_⟩
    rw [e]
    exact ⟨z, pc_zero⟩
  unfold rowB
  generalize wordsOf B = L at *
  have lr := rowP_len pc n L
  refine ⟨by omega, by omega, ?_, B.length, ?_, by omega⟩
  · rw [rowP_at (Nat.zero_le n), z1]
  · rw [rowP_sum ple, len]
/-- what a row is changed to -/
def chK (r : List Nat) (k : Nat) : List Int := (List.range r.length).map fun j => ((List.range k).map fun i => (r.getD i 0 : Int) * entN (r.length - 1) i j).sum
structure ChgP (i : List Nat × List Nat) : Prop where
  row : RowP i.1
  len : i.2.length = i.1.length
  ch : ∀ j < i.1.length, ((List.range i.1.length).map fun k => (i.1.getD k 0 : Int) * entN (i.1.length - 1) k j).sum = (i.1.sum : Int) * (i.2.getD j 0 : Int)
theorem chK_len (r : List Nat) (k : Nat) : (chK r k).length = r.length := by
  unfold chK
  rw [List.length_map, List.length_range]
theorem chK_at {r : List Nat} {k j : Nat} (h : j < r.length) : (chK r k)[j]? = some ((List.range k).map fun i => (r.getD i 0 : Int) * entN (r.length - 1) i j).sum := by
  unfold chK
  rw [List.getElem?_map, List.getElem?_range h]
  rfl
theorem chK_zero (r : List Nat) : chK r 0 = List.replicate r.length 0 := by
  apply List.ext_getElem?
  intro j
  by_cases h : j < r.length
  · rw [chK_at h, List.getElem?_replicate_of_lt h]
    rfl
  · rw [List.getElem?_eq_none (by rw [chK_len]; omega), List.getElem?_eq_none (by rw [List.length_replicate]; omega)]
theorem chK_step {r : List Nat} {k : Nat} : List.zipWith (fun x y => x + (r.getD k 0 : Int) * y) (chK r k) (entL (r.length - 1) k) = chK r (k + 1) := by
  apply List.ext_getElem?
  intro j
  by_cases h : j < r.length
  · rw [chK_at h, List.getElem?_zipWith, chK_at h, entL_at (show j ≤ r.length - 1 by omega), List.range_succ, List.map_append, List.sum_append_int]
    simp
  · rw [List.getElem?_eq_none (by rw [List.length_zipWith, chK_len]; omega), List.getElem?_eq_none (by rw [chK_len]; omega)]
theorem chK_end {r d : List Nat} (h : ChgP (r, d)) : (chK r r.length).map V.int = vs (d.map (r.sum * ·)) := by
  have hl : d.length = r.length := h.len
  apply List.ext_getElem?
  intro j
  by_cases hj : j < r.length
  · have hc := h.ch j hj
    have gd : d[j]? = some (d.getD j 0) := by rw [List.getD_eq_getElem?_getD, List.getElem?_eq_getElem (show j < d.length by omega)]; rfl
    unfold vs
    rw [List.getElem?_map, chK_at hj, List.getElem?_map, List.getElem?_map, gd]
    exact congrArg (fun z => some (V.int z)) (hc.trans (Int.natCast_mul _ _).symm)
  · rw [List.getElem?_eq_none (by rw [List.length_map, chK_len]; omega), List.getElem?_eq_none (by rw [len_vs, List.length_map]; omega)]
/-- MacWilliams, for rows of rooms -/
theorem rowB_chg {n : Nat} {B : List Nat} (f : RoomF n B) (f2 : RoomF n (bas (conB n B))) : ChgP (rowB n B, rowB n (bas (conB n B))) := by
  obtain ⟨mem, nd, len⟩ := words_ok f.pl
  obtain ⟨mem2, nd2, _⟩ := words_ok f2.pl
  have m := fun j => mac (n := n) f.pl f.n24 f.lt mem nd mem2 nd2 j
  have sm : (rowB n B).sum = (wordsOf B).length := rowP_sum fun v hv => pc_le_n f.n24 (words_lt f.pl f.lt v hv)
  have l1 := rowP_len pc n (wordsOf B)
  have a1 := fun j (h : j ≤ n) => rowP_at (P := pc) (L := wordsOf B) h
  have a2 := fun j (h : j ≤ n) => rowP_at (P := pc) (L := wordsOf (bas (conB n B))) h
  refine ⟨rowB_P f, (rowP_len ..).trans (rowP_len ..).symm, fun j hj => ?_⟩
  have hj : j < (rowB n B).length := hj
  show ((List.range (rowB n B).length).map fun k => ((rowB n B).getD k 0 : Int) * entN ((rowB n B).length - 1) k j).sum = ((rowB n B).sum : Int) * ((rowB n (bas (conB n B))).getD j 0 : Int)
  unfold rowB at hj sm ⊢
  rw [l1] at hj
  rw [sm, l1, Nat.add_sub_cancel, List.getD_eq_getElem?_getD, a2 j (by omega)]
  refine Eq.trans ?_ (m j)
  refine sum_congr' fun i hi => ?_
  rw [List.getD_eq_getElem?_getD, a1 i (by have := List.mem_range.mp hi; omega)]
  rfl
theorem rowB_congr {n : Nat} {A B : List Nat} (pA : Plain A) (pB : Plain B) (h : ∀ v, span A v ↔ span B v) : rowB n A = rowB n B := by
  obtain ⟨mem, nd, _⟩ := words_ok pA
  obtain ⟨mem2, nd2, _⟩ := words_ok pB
  exact rowP_perm ((List.perm_ext_iff_of_nodup nd nd2).mpr fun v => (mem v).trans ((h v).trans (mem2 v).symm))
/-! promises -/
section
variable {n k : Nat} {B r d l : List Nat} {C : Addr}
def sp_pow2 : Sp := spW (ι := Nat) (fun _ k => k ≤ 24) (fun _ k => [dN (2 ^ k)]) fun _ _ => dB true
theorem sd_pow2 (h : k ≤ 24) : SpD sp_pow2 [] [(dN (2 ^ k) : Dn W)] (dB true) := spW_sd (i := k) h
theorem pow2_and (k : Nat) : 2 ^ k &&& (2 ^ k - 1) = 0 := by rw [Nat.and_two_pow_sub_one_eq_mod, Nat.mod_self]
theorem sd_is_listL {xs : List V} : SpD (W := W) sp_is_list [] [dLst xs] (dB true) := fun vs H Q iv o q => by
  match vs, o with
  | [v], ⟨⟨a, e, g, h⟩, _⟩ =>
    subst e
    exact ⟨a, xs, rfl, .inl h, fun H' s => q _ H' (W.same s) rfl⟩
def sp_is_row : Sp := spW (ι := List Nat) (fun _ r => RowP r) (fun _ r => [dVs r]) fun _ _ => dB true
theorem sd_is_row (h : RowP r) : SpD sp_is_row [] [(dVs r : Dn W)] (dB true) := spW_sd (i := r) h
def sp_check_row : Sp := spW (ι := List Nat) (fun _ r => RowP r) (fun _ r => [dVs r]) fun _ _ => dV .non
theorem sd_check_row (h : RowP r) : SpD sp_check_row [] [(dVs r : Dn W)] (dV .non) := spW_sd (i := r) h
def sp_changed_sums : Sp := spW (ι := List Nat × List Nat) (fun _ i => ChgP i) (fun _ i => [dVs i.1]) fun _ i => dVs (i.2.map (i.1.sum * ·))
theorem sd_changed_sums (h : ChgP (r, d)) : SpD sp_changed_sums [] [(dVs r : Dn W)] (dVs (d.map (r.sum * ·))) := spW_sd (i := (r, d)) h
noncomputable def sp_changed : Sp := spF (ι := List Nat × List Nat) (fun _ i => ChgP i) (fun _ i => [dVs i.1]) fun i => vs i.2
theorem sd_changed (h : ChgP (r, d)) : SpD sp_changed [] [(dVs r : Dn W)] (dVs d) := spF_sd (i := (r, d)) h
noncomputable def sp_counted (C : Addr) : Sp := spF (ι := Nat × List Nat) (fun _ i => i.2.length ≤ 12) (fun _ i => [dRoom C i.1 i.2]) fun i => vs (rowB i.1 i.2)
theorem sd_counted (h : B.length ≤ 12) : SpD (sp_counted C) [] [(dRoom C n B : Dn W)] (dVs (rowB n B)) := spF_sd (i := (n, B)) h
noncomputable def sp_row (C : Addr) : Sp := spF (ι := Nat × List Nat) (fun _ _ => True) (fun _ i => [dRoom C i.1 i.2]) fun i => vs (rowB i.1 i.2)
theorem sd_row : SpD (sp_row C) [] [(dRoom C n B : Dn W)] (dVs (rowB n B)) := spF_sd (i := (n, B)) trivial
theorem fl_row {Ds : EnvT W} {t : TA} (ha : AV Ds t [dRoom C n B]) : FL Ds (tCall (sp_row C) [] E0 t) (vs (rowB n B)) := fl_call (i := (n, B)) trivial ha
end
end Vf

set_option Elab.async false
set_option linter.all false
set_option maxRecDepth 100000
set_option maxHeartbeats 400000
namespace Vf
open PySem PySem.Spec PyProof.Rows L2
variable {W : Wd}
section
variable {Ds : EnvT W} {te ti tl : TE} {ts : TS} {tt : TT} {i j k n : Nat} {K : PySem.W.Frag} {xs ys : List V} {l : List Nat} {d1 d2 : Dn W}
theorem od_tt {r : R2} {b : Bool} (h : OpD (W := W) r d1 d2 (dB b)) (e : b = true) : OpD r d1 d2 (dB true) := e ▸ h
theorem fl_lcM {g : Nat → Nat} (hl : EV Ds tl (dVs l)) (hz : l.length ≤ 100000) (hb : ∀ x ∈ l, EV (Ds.set i (some (dN x))) te (dN (g x))) : FL Ds (tLc (iList K tl) (gName i) tYes te [i]) (vs (l.map g)) := by
  have h := fl_lc (K := K) (i := i) (tt := tYes) (te := te) (p := fun _ => true) (g := fun x => .int (g (nOf x) : Int)) hl (by rw [len_vs]; exact hz) (fun x hx => tv_yes) fun x hx hp => by
    obtain ⟨c, hc, rfl⟩ := List.mem_map.mp hx
    exact hb c hc
  rw [filt_true] at h
  unfold vs at h ⊢
  rw [List.map_map] at h ⊢
  exact h
theorem svf_roomF {C : Addr} {B : List Nat} (i : Nat) (e : Ds.get i = some (dRoom C n B)) (h : RoomF n B → SVF Ds [] ts xs) (hi : Nat.ble (i + 1) Ds.n = true := by rfl) : SVF Ds [] ts xs := fun D σ H G ce iv en q => by
  obtain ⟨v, _, a, dx, b, _, _, _, _, _, f⟩ := en.get e hi
  exact h f D σ H G ce iv en q
theorem svf_eq {cs : List (Nat × List V)} (h : SVF Ds cs ts xs) (e : xs = ys) : SVF Ds cs ts ys := e ▸ h
end
theorem vs_getR {l : List Nat} {k c : Nat} (h : l[k]? = some c) : (vs l)[k]? = some (.int (c : Int)) := by
  unfold vs
  rw [List.getElem?_map, h]
  rfl
theorem chK_start (r : List Nat) : (dLst (List.replicate r.length (V.int 0)) : Dn W) = dIs (chK r 0) := by
  unfold dIs
  rw [chK_zero, List.map_replicate]
theorem cmul_mem {n i : Nat} {a b : Int} (n24 : n ≤ 24) (h : i ≤ n) (hb : b ∈ entL n i) : CMul a b := by
  unfold entL at hb
  obtain ⟨j, _, rfl⟩ := List.mem_map.mp hb
  have h1 := ent_bound h j
  have h2 : 2 ^ n ≤ 2 ^ 24 := pw_le n24
  refine .inr ?_
  omega
theorem con_F {n : Nat} {B : List Nat} (f : RoomF n B) : RoomF n (bas (conB n B)) := ⟨bas_plain _, f.n1, f.n24, con_lt f.pl f.lt⟩
theorem rowB_chg2 {n : Nat} {B : List Nat} (f : RoomF n B) : ChgP (rowB n (bas (conB n B)), rowB n B) := by
  have := rowB_chg (con_F f) (con_F (con_F f))
  rw [rowB_congr (bas_plain _) f.pl (con_con f.pl f.n24 f.lt)] at this
  exact this
end Vf

set_option Elab.async false
set_option linter.all false
set_option maxRecDepth 100000
set_option maxHeartbeats 400000
namespace Vf
open PySem PySem.Spec PyProof.Rows L2
variable {W : Wd}
/-! ### steps whose next state is told by an index -/
def NVY {ι : Type} (Ds : EnvT W) (cs : List (Nat × List V)) (ts : TS) (E : ι → EnvT W) (P : ι → List (Nat × List V) → Prop) : Prop := ∀ (D : Ends) (σ : L2.St) (H G : Hp), CE W cs σ H G → W.inv G → EnvL Ds σ G →
  (∀ x c σ' H' G', P x c → CE W c σ' H' G' → W.L G G' → EnvL (E x) σ' G' → D.nx σ' H') → ts D σ H
section
variable {ι : Type} {E : ι → EnvT W} {P : ι → List (Nat × List V) → Prop} {Ds Es Fs : EnvT W} {cs cs1 cs2 : List (Nat × List V)} {d d1 d2 : Dn W} {te ti tl tb : TE} {t ta : TA} {tt tt2 : TT} {ts tu t1 t2 : TS} {i j k n m : Nat} {K : PySem.W.Frag} {xs ys zs : List V} {l : List Nat} {b : Bool}
theorem nvy_of (x : ι) (c : List (Nat × List V)) (h : NVC Ds cs ts (E x) c) (p : P x c) : NVY Ds cs ts E P := fun D σ H G ce iv en q => h D σ H G ce iv en fun σ' H' G' ce' l e => q x c σ' H' G' p ce' l e
theorem nvy_seqC (h : NVC Ds cs ts Fs cs1) (k : NVY Fs cs1 tu E P) : NVY Ds cs (tSeq ts tu) E P := fun D σ H G ce iv en q =>
  h _ σ H G ce iv en fun σ' H' G' ce' l e' => k D σ' H' G' ce' (W.step l iv) e' fun x c σ2 H2 G2 p c2 l2 e2 => q x c σ2 H2 G2 p c2 (W.trans l l2) e2
/-- if a and b: .. else: .., a known, b any -/
theorem nvy_ifA (h : TV (withC Ds cs) tt b) (h2 : TX (withC Ds cs) tt2) (k1 : b = true → NVY Ds cs t1 E P) (k2 : NVY Ds cs t2 E P) : NVY Ds cs (tIfS (tAnd tt tt2) t1 t2) E P := fun D σ H G ce iv en q =>
  h σ H _ (W.step (ce.up iv) iv) (ce.env iv en) fun H1 l => by
    obtain ⟨G1, c1, l1⟩ := ce.go l
    have iv1 := W.step l1 iv
    cases b with
    | false => exact (if_neg Bool.false_ne_true).mpr (k2 D σ H1 G1 c1 iv1 (en.st l1) fun x c σ2 H2 G2 p c2 l2 e2 => q x c σ2 H2 G2 p c2 (W.trans l1 l2) e2)
    | true =>
      refine h2 σ H1 _ (W.step (c1.up iv1) iv1) (c1.env iv1 (en.st l1)) fun b2 H2 l2 => ?_
      obtain ⟨G2, c2, l2⟩ := c1.go l2
      have iv2 := W.step l2 iv1
      have e2 := (en.st l1).st l2
      cases b2 with
      | false => exact (if_neg Bool.false_ne_true).mpr (k2 D σ H2 G2 c2 iv2 e2 fun x c σ3 H3 G3 p c3 l3 e3 => q x c σ3 H3 G3 p c3 (W.trans l1 (W.trans l2 l3)) e3)
      | true => exact (if_pos rfl).mpr (k1 rfl D σ H2 G2 c2 iv2 e2 fun x c σ3 H3 G3 p c3 l3 e3 => q x c σ3 H3 G3 p c3 (W.trans l1 (W.trans l2 l3)) e3)
theorem svy_while (I : ι → List (Nat × List V) → Prop) (μ : ι → Nat) (b : ι → Bool) (x0 : ι) (h0 : I x0 cs) (he : ∀ σ H, EnvL Ds σ H → EnvL (E x0) σ H) (ht : ∀ x c, I x c → TV (withC (E x) c) tt (b x)) (hb : ∀ x c, I x c → b x = true → NVY (E x) c ts E (fun y c' => I y c' ∧ μ y < μ x))
    (hk : ∀ x c, I x c → b x = false → SVC (E x) c tu d) : SVC Ds cs (tSeq (tWhile tt ts) tu) d := fun D σ H G ce iv en q => by
  refine ⟨fun m σ' H' => ∃ x c G', I x c ∧ μ x = m ∧ CE W c σ' H' G' ∧ W.L G G' ∧ EnvL (E x) σ' G', ⟨μ x0, x0, cs, G, h0, rfl, ce, W.refl G, he _ _ en⟩, fun m σ' H' hW => ?_⟩
  obtain ⟨x, c, G', ic, mc, cP, lP, eP⟩ := hW
  have iv' := W.step lP iv
  refine tv_run (ht x c ic) cP iv' eP fun H1 G1 c1 l1 => ?_
  cases q2 : b x with
  | true =>
    refine (if_pos rfl).mpr ⟨fun σ2 H2 => ∃ y c' G2, (I y c' ∧ μ y < μ x) ∧ CE W c' σ2 H2 G2 ∧ W.L G G2 ∧ EnvL (E y) σ2 G2, fun σ2 H2 ⟨y, c', G2, hc, r⟩ => ⟨μ y, by omega, y, c', G2, hc.1, rfl, r⟩, ?_⟩
    exact hb x c ic q2 _ σ' H1 G1 c1 (W.step l1 iv') (eP.st l1) fun y c' σ2 H2 G2 pc c2 l2 e2 => ⟨y, c', G2, pc, c2, W.trans lP (W.trans l1 l2), e2⟩
  | false =>
    refine (if_neg Bool.false_ne_true).mpr ?_
    exact hk x c ic q2 D σ' H1 G1 c1 (W.step l1 iv') (eP.st l1) fun v H2 l2 o => q v H2 (W.trans lP (W.trans l1 l2)) o
end
/-! promises of the laws of rows -/
def SpanN (ws L : List Nat) : Prop := (∀ v, v ∈ L ↔ span ws v) ∧ L.Nodup
structure LrowP (i : Nat × List Nat) : Prop where
  n24 : i.1 ≤ 24
  lt : ∀ v ∈ i.2, v < 2 ^ i.1
def sp_lrow : Sp := spW (ι := Nat × List Nat) (fun _ i => LrowP i) (fun _ i => [dN i.1, dVs i.2]) fun _ i => dVs (rowP pc i.1 i.2)
theorem sd_lrow {n : Nat} {L : List Nat} (n24 : n ≤ 24) (h : ∀ v ∈ L, v < 2 ^ n) : SpD sp_lrow [] [(dN n : Dn W), dVs L] (dVs (rowP pc n L)) := spW_sd (i := (n, L)) ⟨n24, h⟩
structure LspP (i : Nat × List Nat) : Prop where
  n12 : i.1 ≤ 12
  lt : ∀ v ∈ i.2, v < 2 ^ i.1
def sp_lspanN : Sp := spW (ι := Nat × List Nat) (fun _ i => LspP i) (fun _ i => [dVs i.2]) fun _ i => dEx (fun L => SpanN i.2 L) dVs
theorem sd_lspanN {n : Nat} {ws : List Nat} (n12 : n ≤ 12) (h : ∀ v ∈ ws, v < 2 ^ n) : SpD sp_lspanN [] [(dVs ws : Dn W)] (dEx (fun L => SpanN ws L) dVs) := spW_sd (i := (n, ws)) ⟨n12, h⟩
structure LownP (W : Wd) (i : Addr × Nat) : Prop where
  hp : IsPot W i.1
  n24 : i.2 ≤ 24
  ev : i.2 % 2 = 0
def sp_lown : Sp := spW (ι := Addr × Nat) (fun W i => LownP W i) (fun _ i => [dV (.ref i.1), dN i.2]) fun _ i => dEx (fun l => (∀ v ∈ l, v < 2 ^ i.2) ∧ l.length * 2 ≤ i.2) dVs
theorem sd_lown {p : Addr} {n : Nat} (hp : IsPot W p) (n24 : n ≤ 24) (ev : n % 2 = 0) : SpD sp_lown [] [dV (.ref p), dN n] (dEx (fun l : List Nat => (∀ v ∈ l, v < 2 ^ n) ∧ l.length * 2 ≤ n) dVs : Dn W) := spW_sd (i := (p, n)) ⟨hp, n24, ev⟩
structure LwdP (W : Wd) (i : Addr × Nat × Nat) : Prop where
  hp : IsPot W i.1
  n1 : 1 ≤ i.2.1
  n24 : i.2.1 ≤ 24
  m100 : i.2.2 ≤ 100
def sp_lwordsE : Sp := spW (ι := Addr × Nat × Nat) (fun W i => LwdP W i) (fun _ i => [dV (.ref i.1), dN i.2.1, dN i.2.2]) fun _ i => dEx (fun l => l.length = i.2.2 ∧ ∀ v ∈ l, v < 2 ^ i.2.1) dVs
theorem sd_lwordsE {p : Addr} {n m : Nat} (hp : IsPot W p) (n1 : 1 ≤ n) (n24 : n ≤ 24) (m100 : m ≤ 100) : SpD sp_lwordsE [] [dV (.ref p), dN n, dN m] (dEx (fun l : List Nat => l.length = m ∧ ∀ v ∈ l, v < 2 ^ n) dVs : Dn W) := spW_sd (i := (p, n, m)) ⟨hp, n1, n24, m100⟩
structure LtoP (i : Nat × List Nat) : Prop where
  n1 : 1 ≤ i.1
  n12 : i.1 ≤ 12
  lt : ∀ v ∈ i.2, v < 2 ^ i.1
  ln : i.2.length ≤ 20
def sp_ltold : Sp := spW (ι := Nat × List Nat) (fun _ i => LtoP i) (fun _ i => [dN i.1, dVs i.2]) fun _ _ => dB true
theorem sd_ltold {n : Nat} {ws : List Nat} (n1 : 1 ≤ n) (n12 : n ≤ 12) (lt : ∀ v ∈ ws, v < 2 ^ n) (ln : ws.length ≤ 20) : SpD sp_ltold [] [(dN n : Dn W), dVs ws] (dB true) := spW_sd (i := (n, ws)) ⟨n1, n12, lt, ln⟩
end Vf

set_option Elab.async false
set_option linter.all false
set_option maxRecDepth 100000
set_option maxHeartbeats 400000
namespace Vf
open PySem PySem.Spec PyProof.Rows L2
variable {W : Wd}
section
variable {Ds Es Fs : EnvT W} {d : Dn W} {te ta tb tl : TE} {t : TA} {ts tu : TS} {t1 t2 : TT} {i j n : Nat} {K : PySem.W.Frag} {xs : List V} {l : List Nat}
theorem tx_and (h1 : TX Ds t1) (h2 : TX Ds t2) : TX Ds (tAnd t1 t2) := fun σ H R iv en q => h1 σ H _ iv en fun b H1 l1 => by
  cases b with
  | false => exact q _ H1 l1
  | true => exact h2 σ H1 R (W.step l1 iv) (en.st l1) fun b2 H2 l2 => q b2 H2 (W.trans l1 l2)
/-- a, b = a new list, a value, by the pair -/
theorem sv_unpCV {y : V} (h : FL Ds ta xs) (h2 : EV Ds tb (dV y)) (r : SVC ((Ds.set i none).set j (some (dV y))) [(i, xs)] tu d) (hi : Nat.ble (i + 1) Ds.n = true := by rfl) (ne : i ≠ j := by decide) :
    SV Ds (tSeq (tAsg (tTup (tCons ta (tCons tb tNil))) (gTup K 2 (gCons (gName i) (gCons (gName j) gNil)))) tu) d := fun D σ H iv en q =>
  h σ H _ iv en fun p H1 np fp l1 e1 => by
    have L1 : W.L H H1 := W.trans l1 (L_del (W.step l1 iv) e1)
    refine h2 σ H1 _ (W.step L1 iv) (en.st L1) fun v H2 l2 o2 => ?_
    have ep2 := W.keep fp l2 e1
    have LG : W.L H (del p H2) := W.trans l1 (W.delL fp l2)
    have iv2 := W.step (W.trans L1 l2) iv
    refine ⟨by show 2 ≤ sizeLine; decide, fun T nT => ?_⟩
    have nTp : T ≠ p := fun z => by
      subst z
      rw [nT] at ep2
      cases ep2
    have nTd : del p H2 T = none := by rw [del_ne nTp]; exact nT
    have LT : W.L (del p H2) (upd (del p H2) T (.tup [.ref p, v])) := W.put (W.step LG iv) (W.refl _) nTd
    refine ⟨T, _, rfl, .inl (.inl upd_same), rfl, _, _, rfl, _, _, rfl, rfl, ?_⟩
    have ce : CE W [(i, xs)] ((σ.set i (some (.ref p))).set j (some v)) (upd H2 T (.tup [.ref p, v])) (upd (del p H2) T (.tup [.ref p, v])) := by
      refine ⟨p, ?_, fp, by rw [upd_ne (Ne.symm nTp)]; exact ep2, ?_⟩
      · rw [List.getElem?_set_ne (Ne.symm ne)]
        exact List.getElem?_set_self (by rw [en.1]; exact Nat.le_of_ble_eq_true hi)
      · show _ = del p (upd H2 T _)
        rw [del_upd_ne nTp]
    exact r D _ _ _ ce (W.step LT (W.step LG iv)) (((en.st (W.trans LG LT)).dropS).set (d := dV y) (show v = y from o2)) fun v3 H3 l3 o => q v3 H3 (W.trans LG (W.trans LT l3)) o
theorem ev_tupN (l : List Nat) (h : AV Ds t (l.map fun n => dN n)) (hn : l.length ≤ 1000) : EV Ds (tTup t) (dTup (vs l)) := ev_wk (ev_tup h (by rw [List.length_map]; omega)) fun v H ⟨a, xs, e, g, h3, o⟩ => by
  have := ok_dV (xs := vs l) (vs := xs) (W := W) (H := H) (by
    unfold vs
    rw [List.map_map]
    exact o)
  subst this
  exact ⟨a, e, g, h3⟩
theorem ev_lcTM {g : Nat → Nat} (hl : EV Ds tl (dTup (vs l))) (hz : l.length ≤ 100000) (hb : ∀ x ∈ l, EV (Ds.set i (some (dN x))) te (dN (g x))) : EV Ds (tLc (iTup K tl) (gName i) tYes te [i]) (dVs (l.map g)) := by
  have h := ev_lcT (K := K) (i := i) (tt := tYes) (te := te) (p := fun _ => true) (g := fun x => .int (g (nOf x) : Int)) hl (by rw [len_vs]; exact hz) (fun x hx => tv_yes) fun x hx hp => by
    obtain ⟨c, hc, rfl⟩ := List.mem_map.mp hx
    exact hb c hc
  rw [filt_true] at h
  unfold vs at h
  rw [List.map_map] at h
  unfold dVs vs
  rw [List.map_map]
  exact h
end
theorem shl_lt2 {c k e n : Nat} (h : c < 2 ^ k) (hn : e + k ≤ n) : c <<< e < 2 ^ n := by
  rw [Nat.shiftLeft_eq]
  have h1 : c * 2 ^ e < 2 ^ k * 2 ^ e := Nat.mul_lt_mul_of_pos_right h (Nat.two_pow_pos e)
  rw [← Nat.pow_add] at h1
  exact Nat.lt_of_lt_of_le h1 (pw_le (by omega))
/-! spans without repeated words -/
theorem SpanN.nil : SpanN [] [0] := ⟨fun v => ⟨fun h => by rw [List.mem_singleton.mp h]; exact span_zero _, fun h => List.mem_singleton.mpr (span_nil h)⟩, by simp⟩
theorem span_last {ws : List Nat} {w v : Nat} : span (ws ++ [w]) v ↔ span ws v ∨ span ws (v ^^^ w) := by
  rw [← span_cons]
  exact span_perm (List.perm_append_singleton w ws) v
theorem SpanN.old {ws L : List Nat} {w : Nat} (h : SpanN ws L) (hw : w ∈ L) : SpanN (ws ++ [w]) L := ⟨fun v => by
  rw [h.1, span_last]
  have sw := (h.1 w).mp hw
  refine ⟨.inl, fun k => k.elim id fun k => ?_⟩
  have := span_xor k sw
  rwa [Nat.xor_assoc, Nat.xor_self, Nat.xor_zero] at this, h.2⟩
theorem SpanN.new {ws L : List Nat} {w : Nat} (h : SpanN ws L) (hw : ¬ w ∈ L) : SpanN (ws ++ [w]) (L ++ L.map fun o => w ^^^ o) := by
  have mem : ∀ v, v ∈ L.map (fun o => w ^^^ o) ↔ span ws (v ^^^ w) := fun v => by
    rw [List.mem_map]
    refine ⟨fun ⟨o, ho, e⟩ => ?_, fun k => ⟨v ^^^ w, (h.1 _).mpr k, ?_⟩⟩
    · rw [← e, Nat.xor_comm w o, Nat.xor_assoc, Nat.xor_self, Nat.xor_zero]
      exact (h.1 o).mp ho
    · rw [Nat.xor_comm v w, ← Nat.xor_assoc, Nat.xor_self, Nat.zero_xor]
  refine ⟨fun v => ?_, ?_⟩
  · rw [List.mem_append, h.1, mem, span_last]
  · refine List.nodup_append.mpr ⟨h.2, map_nd (fun x _ y _ e => by
      have e2 := congrArg (fun z => w ^^^ z) e
      have e2 : w ^^^ (w ^^^ x) = w ^^^ (w ^^^ y) := e2
      rwa [← Nat.xor_assoc, ← Nat.xor_assoc, Nat.xor_self, Nat.zero_xor, Nat.zero_xor] at e2) h.2, fun a ha b hb e => ?_⟩
    subst e
    have s1 := (h.1 a).mp ha
    have s2 := (mem a).mp hb
    have := span_xor s1 s2
    rw [← Nat.xor_assoc, Nat.xor_self, Nat.zero_xor] at this
    exact hw ((h.1 w).mpr this)
theorem SpanN.len {ws L : List Nat} {n : Nat} (h : SpanN ws L) (lt : ∀ v ∈ ws, v < 2 ^ n) : L.length ≤ 2 ^ n := by
  have := h.2.length_le_of_subset (l₂ := List.range (2 ^ n)) fun v hv => List.mem_range.mpr (span_lt lt ((h.1 v).mp hv))
  rwa [List.length_range] at this
end Vf

set_option Elab.async false
set_option linter.all false
set_option maxRecDepth 100000
set_option maxHeartbeats 400000
namespace Vf
open PySem PySem.Spec PyProof.Rows L2
variable {W : Wd}
theorem rowB_sum {n : Nat} {B : List Nat} (f : RoomF n B) : (rowB n B).sum = 2 ^ B.length := by
  obtain ⟨_, _, len⟩ := words_ok f.pl
  exact (rowP_sum fun v hv => pc_le_n f.n24 (words_lt f.pl f.lt v hv)).trans len
theorem rowB_len (n : Nat) (B : List Nat) : (rowB n B).length = n + 1 := rowP_len ..
theorem rowB_of {n : Nat} {B L : List Nat} (pl : Plain B) (mem : ∀ v, v ∈ L ↔ span B v) (nd : L.Nodup) : rowP pc n L = rowB n B := by
  obtain ⟨m2, n2, _⟩ := words_ok pl
  exact rowP_perm ((List.perm_ext_iff_of_nodup nd n2).mpr fun v => (mem v).trans (m2 v).symm)
theorem rowB_lt {n : Nat} {B : List Nat} (f : RoomF n B) : ∀ v ∈ rowB n B, v < 2 ^ 64 := fun v hv => by
  obtain ⟨_, _, len⟩ := words_ok f.pl
  unfold rowB rowP at hv
  obtain ⟨j, _, rfl⟩ := List.mem_map.mp hv
  have h1 := List.length_filter_le (fun w => decide (pc w = j)) (wordsOf B)
  have h2 : 2 ^ B.length ≤ 2 ^ 24 := pw_le (Nat.le_trans (plain_len f.pl f.lt) f.n24)
  rw [len] at h1
  exact Nat.lt_of_le_of_lt (Nat.le_trans h1 h2) (by decide)
theorem SpanN.row {n : Nat} {ws L : List Nat} (h : SpanN ws L) : rowP pc n L = rowB n (bas ws) := rowB_of (bas_plain _) (fun v => by rw [h.1, bas_span]) h.2
theorem SpanN.lenB {ws L : List Nat} (h : SpanN ws L) : L.length = 2 ^ (bas ws).length := by
  obtain ⟨m2, n2, len⟩ := words_ok (bas_plain ws)
  rw [← len]
  exact len_same h.2 n2 fun v => by rw [h.1, m2, bas_span]
section
variable {K : PySem.W.Frag} {C : Addr} {r : List Nat}
theorem rt_two (h : ∀ v ∈ r, v < 2 ^ 64) (hl : r.length ≤ 100) : RT K C (dLD [dVs r, dVs r] : Dn W) (PyData.list [PyData.list ((vs r).map toD), PyData.list ((vs r).map toD)]).shown := by
  have nc := nice_list (dep := 1) (n := r.length * 1923 + 2) (es := [PyData.list ((vs r).map toD), PyData.list ((vs r).map toD)]) fun e he => by
    rcases List.mem_cons.mp he with rfl | he
    · exact nice_vs h
    rcases List.mem_cons.mp he with rfl | he
    · exact nice_vs h
    cases he
  refine rt_data (dd_LD (.cons (dd_L r) (.cons (dd_L r) .nil))) ref_LD nc (by decide) ?_
  show 2 * (r.length * 1923 + 2 + 2) + 2 ≤ 16000000
  omega
end
/-! rows of all words: Pascal's numbers -/
noncomputable def binP (k : Nat) : List Nat := rowP pc k (List.range (2 ^ k))
theorem bin_at {k j : Nat} (k24 : k ≤ 24) : (((List.range (2 ^ k)).filter fun u => decide (pc u = j)).length : Int) = polN (List.replicate k 1) j := by
  rw [← ent_zero k24]
  rfl
noncomputable def binN (k j : Nat) : Nat := ((List.range (2 ^ k)).filter fun u => decide (pc u = j)).length
theorem binN_zero {k : Nat} (k24 : k ≤ 24) : binN k 0 = 1 := by
  have := bin_at (j := 0) k24
  rw [pol_zero] at this
  exact Int.ofNat.inj this
theorem binN_step {k j : Nat} (k24 : k + 1 ≤ 24) : binN (k + 1) (j + 1) = binN k (j + 1) + binN k j := by
  have h1 := bin_at (k := k + 1) (j := j + 1) k24
  have h2 := bin_at (k := k) (j := j + 1) (by omega)
  have h3 := bin_at (k := k) (j := j) (by omega)
  have h4 : polN (List.replicate (k + 1) 1) (j + 1) = polN (List.replicate k 1) (j + 1) + 1 * polN (List.replicate k 1) j := rfl
  unfold binN
  generalize ((List.range (2 ^ (k + 1))).filter fun u => decide (pc u = j + 1)).length = a at h1 ⊢
  generalize ((List.range (2 ^ k)).filter fun u => decide (pc u = j + 1)).length = b at h2 ⊢
  generalize ((List.range (2 ^ k)).filter fun u => decide (pc u = j)).length = c at h3 ⊢
  omega
theorem binN_off {k j : Nat} (k24 : k ≤ 24) (h : k < j) : binN k j = 0 := by
  have := bin_at (j := j) k24
  rw [pol_off (by rw [List.length_replicate]; exact h)] at this
  exact Int.ofNat.inj this
theorem binN_top : ∀ {k : Nat}, k ≤ 24 → binN k k = 1
  | 0, h => binN_zero h
  | k + 1, h => by rw [binN_step h, binN_off (by omega) (Nat.lt_succ_self k), binN_top (by omega)]
theorem binP_at {k j : Nat} (h : j ≤ k) : (binP k)[j]? = some (binN k j) := rowP_at h
theorem binP_len (k : Nat) : (binP k).length = k + 1 := rowP_len ..
theorem binP_get {k j : Nat} (h : j ≤ k) : (binP k).getD j 0 = binN k j := by
  rw [List.getD_eq_getElem?_getD, binP_at h]
  rfl
theorem binP_zero : binP 0 = [1] := by
  apply List.ext_getElem?
  intro j
  match j with
  | 0 => rw [binP_at (Nat.le_refl 0), binN_zero (by decide)]; rfl
  | j + 1 => rw [List.getElem?_eq_none (by rw [binP_len]; omega)]; rfl
theorem binP_step {k : Nat} (k24 : k + 1 ≤ 24) : [1] ++ (List.range ((binP k).length - 1)).map (fun i => (binP k).getD i 0 + (binP k).getD (i + 1) 0) ++ [1] = binP (k + 1) := by
  apply List.ext_getElem?
  intro j
  have lm : ((List.range ((binP k).length - 1)).map (fun i => (binP k).getD i 0 + (binP k).getD (i + 1) 0)).length = k := by rw [List.length_map, List.length_range, binP_len, Nat.add_sub_cancel]
  by_cases hj : j ≤ k + 1
  · rw [binP_at hj]
    match j, hj with
    | 0, _ => rw [binN_zero k24]; rfl
    | j + 1, hj =>
      by_cases h : j < k
      · rw [List.getElem?_append_left (by rw [List.length_append, lm]; simp; omega), List.getElem?_append_right (by simp), List.length_singleton, Nat.add_sub_cancel, List.getElem?_map, List.getElem?_range (by rw [binP_len]; omega), binN_step k24]
        show some (_ + _) = _
        rw [binP_get (by omega), binP_get (by omega), Nat.add_comm]
      · have : j = k := by omega
        subst this
        rw [List.getElem?_append_right (by rw [List.length_append, lm]; simp; omega), List.length_append, lm, List.length_singleton, binN_top k24, Nat.add_comm 1, Nat.sub_self]
        rfl
  · rw [List.getElem?_eq_none (by rw [List.length_append, List.length_append, lm]; simp; omega), List.getElem?_eq_none (by rw [binP_len]; omega)]
theorem row_full {n : Nat} : rowB n (bas ((List.range n).map (2 ^ ·))) = binP n := (rowB_of (bas_plain _) (fun v => by rw [bas_span, span_units, List.mem_range]) List.nodup_range).symm
theorem row_none {n : Nat} : rowB n (bas []) = 1 :: List.replicate n 0 := by
  rw [← rowB_of (L := [0]) (bas_plain _) (fun v => by rw [bas_span]; exact SpanN.nil.1 v) (by simp)]
  have := rowP_step (P := pc) (n := n) (w := 0) (L := []) (by rw [pc_zero]; exact Nat.zero_le n)
  rw [rowP_nil, pc_zero] at this
  rw [← List.nil_append [0], ← this]
  rfl
end Vf

set_option Elab.async false
set_option linter.all false
set_option maxRecDepth 100000
set_option maxHeartbeats 400000
namespace Vf
open PySem PySem.Spec PyProof.Rows L2
variable {W : Wd}
section
variable {Ds : EnvT W} {te tl : TE} {i : Nat} {K : PySem.W.Frag} {l : List Nat}
theorem ev_revL (h : EV Ds te (dVs l)) : EV Ds (tRevL K te) (dVs l.reverse) := fun σ H Q iv en q => h σ H _ iv en fun v H1 l1 ⟨a, e, g, h1⟩ => by
  subst e
  have iv1 := W.step l1 iv
  refine ⟨a, vs l, rfl, SqL.of h1, fun p np => q _ _ (W.trans l1 (W.put iv1 (W.refl _) np)) ⟨p, rfl, W.fresh iv1 np, ?_⟩⟩
  rw [upd_same]
  unfold vs
  rw [List.map_reverse]
theorem ev_lcMX {R : List Nat → Prop} {g : Nat → Nat} (hl : EV Ds tl (dEx R dVs)) (hz : ∀ l, R l → l.length ≤ 100000) (hb : ∀ l, R l → ∀ x ∈ l, EV (Ds.set i (some (dN x))) te (dN (g x))) : EV Ds (tLc (iList K tl) (gName i) tYes te [i]) (dEx R fun l => dVs (l.map g)) := fun σ H Q iv en q =>
  hl σ H _ iv en fun v H1 l1 ⟨l, rl, o⟩ =>
    (ev_lcM (K := K) (i := i) (te := te) (tl := fun _ H' Q' => W.L H' H1 → Q' v H1) (fun _ H' Q' _ _ q' l' => q' v H1 l' o) (hz l rl) (hb l rl) σ H1 Q (W.step l1 iv) (en.st l1) fun v2 H2 l2 o2 => q v2 H2 (W.trans l1 l2) ⟨l, rl, o2⟩) (W.refl H1)
end
end Vf

set_option Elab.async false
set_option linter.all false
set_option maxRecDepth 100000
set_option maxHeartbeats 400000
namespace Vf
open PySem PySem.Spec PyProof.Rows L2
variable {W : Wd}
/-! ### product_of, counted_weights -/
def prodF (c : Nat) : Nat → Nat
  | 0 => 1
  | k + 1 => prodF c k * ((c <<< k) + 1)
theorem prodF_two : ∀ k, prodF 2 k = prodN k
  | 0 => rfl
  | k + 1 => by
    show prodF 2 k * ((2 <<< k) + 1) = prodN k * ((2 <<< k) + 1)
    rw [prodF_two k]
section
variable {c k n : Nat} {L : List Nat}
def sp_product_of : Sp := spW (ι := Nat × Nat) (fun _ i => i.1 ≤ 2 ∧ i.2 ≤ 24) (fun _ i => [dN i.1, dN i.2]) fun _ i => dN (prodF i.1 i.2)
theorem sd_product_of (h : c ≤ 2) (h2 : k ≤ 24) : SpD sp_product_of [] [(dN c : Dn W), dN k] (dN (prodF c k)) := spW_sd (i := (c, k)) ⟨h, h2⟩
theorem sd_prod2 (h2 : k ≤ 24) : SpD sp_product_of [] [(dN 2 : Dn W), dN k] (dN (prodN k)) := prodF_two k ▸ sd_product_of (by decide) h2
def sp_counted_weights : Sp := spF (ι := Nat × List Nat) (fun _ i => i.1 ≤ 24 ∧ ∀ v ∈ i.2, v < 2 ^ i.1) (fun _ i => [dN i.1, dVs i.2]) fun i => vs (rowP pc i.1 i.2)
theorem fl_counted_weights {Ds : EnvT W} {t : TA} (h : n ≤ 24) (h2 : ∀ v ∈ L, v < 2 ^ n) (ha : AV Ds t [dN n, dVs L]) : FL Ds (tCall sp_counted_weights [] E0 t) (vs (rowP pc n L)) := fl_call (i := (n, L)) ⟨h, h2⟩ ha
end
/-! ### while with a state told by an index, ranges of any length -/
section
variable {ι κ : Type} {Ds Es Fs : EnvT W} {ta : TA} {tt : TT} {ts : TS} {i n : Nat} {d1 : Dn W}
theorem nv_whileI (E : ι → EnvT W) (I : ι → Prop) (μ : ι → Nat) (b : ι → Bool) (x0 : ι) (h0 : I x0) (he : ∀ σ H, EnvL Ds σ H → EnvL (E x0) σ H) (ht : ∀ x, I x → TV (E x) tt (b x))
    (hb : ∀ x, I x → b x = true → ∃ y, I y ∧ μ y < μ x ∧ NV (E x) ts (E y)) (hk : ∀ x, I x → b x = false → ∀ σ H, EnvL (E x) σ H → EnvL Fs σ H) : NV Ds (tWhile tt ts) Fs := fun D σ H iv en q => by
  refine ⟨fun m σ' H' => ∃ x, I x ∧ μ x = m ∧ W.L H H' ∧ EnvL (E x) σ' H', ⟨μ x0, x0, h0, rfl, W.refl H, he _ _ en⟩, fun m σ' H' hW => ?_⟩
  obtain ⟨x, ix, mx, lx, ex⟩ := hW
  have iv' := W.step lx iv
  refine ht x ix σ' H' _ iv' ex fun H1 l1 => ?_
  cases q2 : b x with
  | true =>
    obtain ⟨y, iy, my, nb⟩ := hb x ix q2
    exact (if_pos rfl).mpr ⟨fun σ2 H2 => EnvL (E y) σ2 H2 ∧ W.L H H2, fun σ2 H2 ⟨e2, l2⟩ => ⟨μ y, by omega, y, iy, rfl, l2, e2⟩, nb _ σ' H1 (W.step l1 iv') (ex.st l1) fun σ2 H2 l2 e2 => ⟨e2, W.trans lx (W.trans l1 l2)⟩⟩
  | false => exact (if_neg Bool.false_ne_true).mpr (q σ' H1 (W.trans lx l1) (hk x ix q2 σ' H1 (ex.st l1)))
theorem nv_forRX {P : κ → Prop} {f : κ → Nat} (is : List Nat) (hl : AX Ds ta P fun x => [dN (f x)]) (h62 : ∀ x, P x → f x < 2 ^ 62) (he : forget Ds is = Fs) (hb : ∀ y, P y → ∀ x < f y, NV (Fs.set i (some (dN x))) ts Fs) :
    NV Ds (tFor (iRng1 ta) (gName i) ts) Fs := fun D σ H iv en q =>
  hl σ H _ iv en fun y vs H1 py l1 o1 => by
    match vs, o1 with
    | [v], ⟨o1, _⟩ =>
      have h62 := h62 y py
      refine ⟨(f y : Int), by rw [show v = V.int (f y : Int) from o1], by omega, by omega, ?_⟩
      refine for_range (lo := 0) (n := (f y : Int).toNat) (fun k σ' H' => W.L H1 H' ∧ EnvL Fs σ' H') ⟨W.refl H1, he ▸ (en.st l1).forget is⟩ (fun k σ' H' hk hP => ?_) fun σ' H' hP => q σ' H' (W.trans l1 hP.1) hP.2
      have iv' := W.step hP.1 (W.step l1 iv)
      rw [Int.toNat_natCast] at hk
      exact hb y py k hk _ _ H' iv' (hP.2.set (show V.int (0 + (k : Int)) = V.int (k : Int) by rw [Int.zero_add])) fun σ2 H2 l2 e2 => ⟨W.trans hP.1 l2, e2⟩
theorem od_repL {xs : List V} {k : Nat} (h : xs.length * k ≤ 100000) (hk : k ≤ 100000) : OpD (W := W) rRep (dLst xs) (dN k) (dLst (List.replicate k xs).flatten) := fun u v H Q iv ⟨a, e1, g1, h1⟩ e2 q => by
  subst e1
  rw [show v = V.int (k : Int) from e2]
  refine ⟨a, k, _, rfl, rfl, h1, by omega, by omega, by rw [Int.toNat_natCast]; exact Nat.le_of_lt (sl_lt h), fun p np => q _ _ (W.put iv (W.refl H) np) ⟨p, rfl, W.fresh iv np, ?_⟩⟩
  rw [upd_same, Int.toNat_natCast]
end
end Vf

set_option Elab.async false
set_option linter.all false
set_option maxRecDepth 100000
set_option maxHeartbeats 400000
namespace Vf
open PySem PySem.Spec PyProof.Rows L2
variable {W : Wd}
/-! ### neighbours -/
section
variable {n m w v : Nat} {A B D L ws X : List Nat}
structure OwnF (n : Nat) (B : List Nat) : Prop where
  f : RoomF n B
  own : ownB n B = true
theorem OwnF.len (h : OwnF n B) : 2 * B.length = n := own_len h.own
theorem OwnF.max (h : OwnF n B) (v : Nat) : span B v ↔ v < 2 ^ n ∧ ∀ b ∈ B, par v b = false := by
  have e := (own_iff h.f.pl h.f.n24 h.f.lt).mp h.own
  rw [← con_span h.f.pl h.f.n24 h.f.lt v, ← e]
theorem OwnF.still (h : OwnF n B) : ∀ a, span B a → ∀ b, span B b → par a b = false := by
  have o := h.own
  unfold ownB at o
  exact still_span.mp (Bool.and_eq_true _ _ |>.mp o).1
theorem own_mk (f : RoomF n B) (st : ∀ a ∈ B, ∀ b ∈ B, par a b = false) (l : 2 * B.length = n) : OwnF n B := ⟨f, by
  unfold ownB
  rw [still_iff.mpr st, decide_eq_true l]
  rfl⟩
noncomputable def halfB (n : Nat) (B : List Nat) (w : Nat) : List Nat := lowB n (comB n B (bas (conB n (bas [w]))))
noncomputable def nbB (n : Nat) (B : List Nat) (w : Nat) : List Nat := bas (halfB n B w ++ [w])
theorem one_lt (h : w < 2 ^ n) : ∀ v ∈ [w], v < 2 ^ n := fun v hv => by rw [List.mem_singleton.mp hv]; exact h
theorem half_span (f : RoomF n B) (hw : w < 2 ^ n) (v : Nat) : span (halfB n B w) v ↔ span B v ∧ par v w = false := by
  unfold halfB
  rw [comB_span f.lt, con_spanS (bas_plain _) f.n24 (bas_lt (one_lt hw))]
  have e : (∀ b, span (bas [w]) b → par v b = false) ↔ par v w = false := by
    constructor
    · intro h
      exact h w ((bas_span _ _).mpr (span_mem (List.mem_singleton.mpr rfl)))
    · intro h b hb
      exact par_span.mp (fun x hx => by rw [List.mem_singleton.mp hx]; exact h) b ((bas_span _ _).mp hb)
  rw [e]
  exact ⟨fun h => ⟨h.1, h.2.2⟩, fun h => ⟨h.1, span_lt f.lt h.1, h.2⟩⟩
theorem half_lt : ∀ v ∈ halfB n B w, v < 2 ^ n := lowB_lt
theorem half_len (h : OwnF n B) (hw : w < 2 ^ n) (nw : ¬ span B w) : 2 * (halfB n B w).length + 2 = n := by
  have f := h.f
  have pC := bas_plain (conB n (bas [w]))
  have lC := con_lt (n := n) (bas_plain [w]) (bas_lt (one_lt hw))
  have w0 : ¬ span [] w := fun k => nw (by rw [(span_emp w).mp k]; exact span_zero _)
  have l1 : (bas [w]).length = 1 := add_dim plain_nil w0
  have dC := con_dim (bas_plain [w]) f.n24 (bas_lt (one_lt hw))
  have sm := sum_common2 f.pl pC f.lt lC
  have cs := con_spanS (bas_plain [w]) f.n24 (bas_lt (one_lt hw))
  have hb : ∃ b ∈ B, par w b = true := by
    refine Decidable.byContradiction fun k => nw ((h.max w).mpr ⟨hw, fun b hb => ?_⟩)
    cases e : par w b with
    | false => rfl
    | true => exact absurd ⟨b, hb, e⟩ k
  obtain ⟨b, hb, pb⟩ := hb
  have nb : ¬ span (bas (conB n (bas [w]))) b := fun k => by
    have := ((cs b).mp k).2 w ((bas_span _ _).mpr (span_mem (List.mem_singleton.mpr rfl)))
    rw [par_comm, pb] at this
    cases this
  have d1 := add_dim pC nb
  have d2 := dim_le (bas_plain (bas (conB n (bas [w])) ++ [b])) (bas_plain (B ++ bas (conB n (bas [w])))) fun v hv => by
    rw [bas_span] at hv ⊢
    exact span_app_sub (fun x hx => span_right hx) (fun x hx => span_left (span_sub (fun y hy => by rw [List.mem_singleton.mp hy]; exact span_mem hb) hx)) hv
  have d3 := plain_len (n := n) (bas_plain (B ++ bas (conB n (bas [w])))) (bas_lt fun v hv => by
    rcases List.mem_append.mp hv with k | k
    · exact f.lt v k
    · exact lC v k)
  have hl := h.len
  unfold halfB
  omega
theorem nb_span (f : RoomF n B) (hw : w < 2 ^ n) (v : Nat) : span (nbB n B w) v ↔ (span B v ∧ par v w = false) ∨ (span B (v ^^^ w) ∧ par (v ^^^ w) w = false) := by
  unfold nbB
  rw [bas_span, span_last, half_span f hw, half_span f hw]
theorem nb_F (f : RoomF n B) (hw : w < 2 ^ n) : RoomF n (nbB n B w) := ⟨bas_plain _, f.n1, f.n24, bas_lt (app_lt half_lt hw)⟩
theorem nb_len (h : OwnF n B) (hw : w < 2 ^ n) (nw : ¬ span B w) : 2 * (nbB n B w).length = n := by
  have := half_len h hw nw
  have e : (bas (halfB n B w ++ [w])).length = (halfB n B w).length + 1 := add_dim (lowB_plain _ _) fun k => nw ((half_span h.f hw w).mp k).1
  unfold nbB
  omega
theorem own_nb (h : OwnF n B) (hw : w < 2 ^ n) (nw : ¬ span B w) (ww : par w w = false) : OwnF n (nbB n B w) := by
  have f2 := nb_F h.f hw
  have hs := half_span h.f hw
  have st : stillB (nbB n B w) = true := still_bas (app_even (fun a ha b hb => h.still a ((hs a).mp (span_mem ha)).1 b ((hs b).mp (span_mem hb)).1) (fun b hb => by
    rw [par_comm]
    exact ((hs b).mp (span_mem hb)).2) ww)
  exact own_mk f2 (still_iff.mp st) (nb_len h hw nw)
/-! lists of all words -/
theorem words_sort (pl : Plain D) (nd : X.Nodup) (mem : ∀ v, v ∈ X ↔ span D v) : sortN X = wordsOf D := (wordsU pl (SpanL.sort nd mem)).symm
theorem words_filt (pD : Plain D) (pB : Plain B) {p : Nat → Bool} (k : ∀ v, span D v ↔ span B v ∧ p v = true) : (wordsOf B).filter p = wordsOf D := (wordsU pD ((words_spanL pB).filt k)).symm
theorem words_nb (h : RoomF n B) (hw : w < 2 ^ n) (nw : ¬ span B w) : sortN (((wordsOf B).filter fun v => !par v w) ++ ((wordsOf B).filter fun v => !par v w).map fun o => o ^^^ w) = wordsOf (nbB n B w) := by
  obtain ⟨mem, nd, _⟩ := words_ok h.pl
  have nd1 := nd.filter (fun v => !par v w)
  have m1 : ∀ v, v ∈ (wordsOf B).filter (fun v => !par v w) ↔ span B v ∧ par v w = false := fun v => by
    rw [List.mem_filter, mem]
    cases par v w <;> simp
  refine words_sort (bas_plain _) ?_ fun v => ?_
  · rw [List.nodup_append]
    refine ⟨nd1, ?_, fun a ha b hb e => ?_⟩
    · refine List.pairwise_map.mpr (nd1.imp fun {a b} ne e => ne ?_)
      have := congrArg (· ^^^ w) e
      simpa [Nat.xor_assoc] using this
    · obtain ⟨c, hc, rfl⟩ := List.mem_map.mp hb
      subst e
      have s1 := ((m1 _).mp ha).1
      have s2 := ((m1 _).mp hc).1
      refine nw ?_
      have := span_xor s2 s1
      rwa [← Nat.xor_assoc, Nat.xor_self, Nat.zero_xor] at this
  · rw [nb_span h hw, List.mem_append, m1, List.mem_map]
    refine or_congr Iff.rfl ⟨?_, fun k => ⟨v ^^^ w, (m1 _).mpr k, by rw [Nat.xor_assoc, Nat.xor_self, Nat.xor_zero]⟩⟩
    rintro ⟨a, ha, rfl⟩
    rw [Nat.xor_assoc, Nat.xor_self, Nat.xor_zero]
    exact (m1 _).mp ha
/-! a lacked even word -/
theorem lacked_ex (h : OwnF n B) (n3 : 3 ≤ n) : ∃ t, t < 2 ^ n ∧ ¬ span B t ∧ par t t = false := by
  have p3 : 2 ^ 3 ≤ 2 ^ n := pw_le n3
  refine Classical.byContradiction fun k => ?_
  have all : ∀ t, t < 8 → par t t = false → span B t := fun t ht pt => Classical.byContradiction fun z => k ⟨t, by omega, z, pt⟩
  have := h.still 3 (all 3 (by decide) (by decide +kernel)) 6 (all 6 (by decide) (by decide +kernel))
  revert this
  decide +kernel
/-! the first pairs -/
theorem pairs_own (m1 : 1 ≤ m) (m12 : m ≤ 12) : OwnF (2 * m) (bas (pairB m)) := by
  have ev : ∀ a ∈ pairB m, ∀ b ∈ pairB m, par a b = false := fun a ha b hb => pairB_even m12 (span_mem ha) (span_mem hb)
  refine own_mk ⟨bas_plain _, by omega, by omega, bas_lt pairB_lt⟩ (still_iff.mp (still_bas ev)) ?_
  rw [piv_dim (pairB_piv m)]
  unfold pairB
  rw [List.length_map, List.length_range]
/-! distances -/
noncomputable def distB (n : Nat) (A B : List Nat) : Nat := A.length - (lowB n (comB n A B)).length
theorem com_le (fA : RoomF n A) : (lowB n (comB n A B)).length ≤ A.length := dim_le (lowB_plain _ _) fA.pl fun v hv => ((comB_span fA.lt v).mp hv).1
theorem com_comm (fA : RoomF n A) (fB : RoomF n B) : lowB n (comB n A B) = lowB n (comB n B A) := plain_unique (lowB_plain _ _) (lowB_plain _ _) fun v => by
  rw [comB_span fA.lt, comB_span fB.lt, and_comm]
theorem dist_comm (hA : OwnF n A) (hB : OwnF n B) : distB n A B = distB n B A := by
  have := hA.len
  have := hB.len
  unfold distB
  rw [com_comm hA.f hB.f]
  omega
theorem com_self (fA : RoomF n A) : lowB n (comB n A A) = A := plain_unique (lowB_plain _ _) fA.pl fun v => by
  rw [comB_span fA.lt, and_self]
theorem dist_self (fA : RoomF n A) : distB n A A = 0 := by
  unfold distB
  rw [com_self fA, Nat.sub_self]
theorem dist_zero (hA : OwnF n A) (hB : OwnF n B) : distB n A B = 0 ↔ A = B := by
  constructor
  · intro h
    have l := com_le (B := B) hA.f
    have l2 := com_le (B := A) hB.f
    rw [com_comm hB.f hA.f] at l2
    have a := hA.len
    have b := hB.len
    have e1 : (lowB n (comB n A B)).length = A.length := by
      unfold distB at h
      omega
    have s1 : ∀ v, span (lowB n (comB n A B)) v ↔ span A v := sub_dim (lowB_plain _ _) hA.f.pl (fun v hv => ((comB_span hA.f.lt v).mp hv).1) e1
    have s2 : ∀ v, span (lowB n (comB n A B)) v ↔ span B v := sub_dim (lowB_plain _ _) hB.f.pl (fun v hv => ((comB_span hA.f.lt v).mp hv).2) (by omega)
    exact plain_unique hA.f.pl hB.f.pl fun v => (s1 v).symm.trans (s2 v)
  · rintro rfl
    exact dist_self hA.f
theorem com_words (fA : RoomF n A) (fB : RoomF n B) : (wordsOf A).filter (fun v => decide (v ∈ wordsOf B)) = wordsOf (lowB n (comB n A B)) := words_filt (lowB_plain _ _) fA.pl fun v => by
  rw [comB_span fA.lt, decide_eq_true_iff, (words_ok fB.pl).1]
end
end Vf

set_option Elab.async false
set_option linter.all false
set_option maxRecDepth 100000
set_option maxHeartbeats 400000
namespace Vf
open PySem PySem.Spec PyProof.Rows L2
variable {W : Wd}
/-! ### plain bases out of sorted lists of all words -/
def plStep (s : List Nat × Nat) (w : Nat) : List Nat × Nat := if s.2 < w then (w :: s.1, 2 ^ (w.log2 + 1) - 1) else s
def plK (L : List Nat) : List Nat × Nat := L.foldl plStep ([], 0)
theorem plK_snoc (L : List Nat) (w : Nat) : plK (L ++ [w]) = plStep (plK L) w := by
  unfold plK
  rw [List.foldl_append]
  rfl
section
variable {n i : Nat} {B M L : List Nat}
theorem plK_inv (pl : Plain B) (ascM : M.Pairwise (· < ·)) (posM : ∀ v ∈ M, 0 < v) (mem : ∀ v, v ∈ 0 :: M ↔ span B v) : ∀ i, i ≤ M.length → ∃ high, (∀ v, v ∈ (plK (M.take i)).1 ↔ v ∈ M.take i ∧ v ∈ B) ∧ (plK (M.take i)).1.Pairwise (· > ·) ∧ (∀ u ∈ M.take i, u < high) ∧
    ((high = 0 ∧ (plK (M.take i)).2 = 0) ∨ (high = (plK (M.take i)).2 + 1 ∧ ∃ f ∈ M.take i, high = 2 ^ (f.log2 + 1) ∧ f ≠ 0))
  | 0, _ => ⟨0, fun v => ⟨fun k => (List.not_mem_nil k).elim, fun k => (List.not_mem_nil k.1).elim⟩, List.Pairwise.nil, fun u k => (List.not_mem_nil k).elim, .inl ⟨rfl, rfl⟩⟩
  | i + 1, hi => by
    obtain ⟨high, ml, al, low, hh⟩ := plK_inv pl ascM posM mem i (by omega)
    have il : i < M.length := hi
    generalize ev' : M[i] = v
    have ev : M[i]? = some v := by rw [List.getElem?_eq_getElem il, ev']
    have vM : v ∈ M := List.mem_of_getElem? ev
    have tk : M.take (i + 1) = M.take i ++ [v] := by
      rw [List.take_add_one, ev]
      rfl
    have v0 : v ≠ 0 := Nat.ne_of_gt (posM v vM)
    have vs0 : span B v := (mem v).mp (List.mem_cons_of_mem _ vM)
    have lt1 : ∀ u ∈ M.take i, u < v := fun u hu => by
      obtain ⟨j, hj, rfl⟩ := List.getElem_of_mem hu
      rw [List.length_take] at hj
      rw [List.getElem_take, ← ev']
      exact List.pairwise_iff_getElem.mp ascM j i (by omega) il (by omega)
    have all : ∀ u, span B u → u < v → u = 0 ∨ u ∈ M.take i := fun u hu lt => by
      rcases List.mem_cons.mp ((mem u).mpr hu) with k | k
      · exact .inl k
      · right
        have sp : M = M.take i ++ M.drop i := (List.take_append_drop i M).symm
        rw [sp] at k
        rcases List.mem_append.mp k with k | k
        · exact k
        · exfalso
          obtain ⟨j, hj, e⟩ := List.getElem_of_mem k
          rw [List.length_drop] at hj
          rw [List.getElem_drop] at e
          by_cases j0 : j = 0
          · subst j0
            have : M[i + 0] = M[i] := rfl
            rw [this, ev'] at e
            omega
          · have := List.pairwise_iff_getElem.mp ascM i (i + j) il (by omega) (by omega)
            rw [ev', e] at this
            omega
    have sub : ∀ u ∈ M.take i, span B u := fun u hu => (mem u).mp (List.mem_cons_of_mem _ (List.mem_of_mem_take hu))
    have key := first_iff pl vs0 v0 all (fun u hu => ⟨low u hu, lt1 u hu⟩) (hh.imp (fun k => k.1) fun k => k.2) sub
    have key2 : (plK (M.take i)).2 < v ↔ v ∈ B := by
      rw [← key]
      rcases hh with ⟨h1, h2⟩ | ⟨h1, _⟩
      · rw [h1, h2]
        omega
      · rw [h1]
        omega
    rw [tk, plK_snoc]
    unfold plStep
    by_cases hb : (plK (M.take i)).2 < v
    · rw [if_pos hb]
      have p2 := Nat.two_pow_pos (v.log2 + 1)
      refine ⟨2 ^ (v.log2 + 1), fun u => ?_, ?_, fun u hu => ?_, .inr ⟨?_, v, List.mem_append_right _ List.mem_cons_self, rfl, v0⟩⟩
      · rw [List.mem_cons, List.mem_append, ml, List.mem_singleton]
        constructor
        · rintro (rfl | ⟨k1, k2⟩)
          · exact ⟨.inr rfl, key2.mp hb⟩
          · exact ⟨.inl k1, k2⟩
        · rintro ⟨k1 | k1, k2⟩
          · exact .inr ⟨k1, k2⟩
          · exact .inl k1
      · exact List.pairwise_cons.mpr ⟨fun x hx => lt1 x ((ml x).mp hx).1, al⟩
      · have gt : v < 2 ^ (v.log2 + 1) := (lt_pow_log v0).mpr (Nat.lt_succ_self _)
        rcases List.mem_append.mp hu with k | k
        · have := lt1 u k
          omega
        · rw [List.mem_singleton.mp k]
          exact gt
      · show 2 ^ (v.log2 + 1) = 2 ^ (v.log2 + 1) - 1 + 1
        omega
    · rw [if_neg hb]
      have nB : v ∉ B := fun k => hb (key2.mpr k)
      have lt : v < high := by
        rcases hh with ⟨h1, h2⟩ | ⟨h1, _⟩
        · rw [h2] at hb
          omega
        · omega
      refine ⟨high, fun u => ?_, al, fun u hu => ?_, hh.imp id fun ⟨h1, f, hf, k⟩ => ⟨h1, f, List.mem_append_left _ hf, k⟩⟩
      · rw [List.mem_append, ml, List.mem_singleton]
        constructor
        · rintro ⟨k1, k2⟩
          exact ⟨.inl k1, k2⟩
        · rintro ⟨k1 | k1, k2⟩
          · exact ⟨k1, k2⟩
          · exact absurd (k1 ▸ k2) nB
      · rcases List.mem_append.mp hu with k | k
        · exact low u k
        · rw [List.mem_singleton.mp k]
          exact lt
theorem plS_len (L : List Nat) : ∀ s : List Nat × Nat, (L.foldl plStep s).1.length ≤ s.1.length + L.length := by
  induction L with
  | nil => intro s; exact Nat.le_refl _
  | cons w L ih =>
    intro s
    have := ih (plStep s w)
    have h2 : (plStep s w).1.length ≤ s.1.length + 1 := by
      unfold plStep
      split
      · exact Nat.le_refl _
      · omega
    show (L.foldl plStep (plStep s w)).1.length ≤ s.1.length + (L.length + 1)
    omega
theorem plK_len {k : Nat} (h : L.length ≤ k) : (plK L).1.length ≤ k := by
  have := plS_len L ([], 0)
  have this : (plK L).1.length ≤ 0 + L.length := this
  omega
theorem plK_words (pl : Plain B) : (plK (wordsOf B)).1 = B := by
  have sp := words_spanL pl
  have mem := sp.1
  have asc := sp.2
  generalize wordsOf B = L at mem asc
  obtain ⟨M, rfl⟩ : ∃ M, L = 0 :: M := by
    have h0 : 0 ∈ L := (mem 0).mpr (span_zero B)
    cases L with
    | nil => cases h0
    | cons x M =>
      rcases List.mem_cons.mp h0 with e | e
      · exact ⟨M, by rw [e]⟩
      · have := (List.pairwise_cons.mp asc).1 0 e
        omega
  have ascM := (List.pairwise_cons.mp asc).2
  have posM : ∀ v ∈ M, 0 < v := fun v hv => (List.pairwise_cons.mp asc).1 v hv
  obtain ⟨high, ml, al, _⟩ := plK_inv pl ascM posM mem M.length (Nat.le_refl _)
  rw [List.take_length] at ml al
  have e : plK (0 :: M) = plK M := rfl
  rw [e]
  refine asc_eq al pl.2 fun x => ?_
  rw [ml]
  constructor
  · exact fun k => k.2
  · intro k
    have hx := (mem x).mpr (span_mem k)
    rcases List.mem_cons.mp hx with e | e
    · exact absurd e (pl.1.2 x k)
    · exact ⟨e, k⟩
end
/-! ### rules -/
section
variable {Ds Es Fs : EnvT W} {te tl : TE} {ts : TS} {i : Nat} {K : PySem.W.Frag} {l : List Nat}
theorem nv_forL (E : Nat → EnvT W) (hl : EV Ds tl (dVs l)) (h0 : ∀ σ H, EnvL Ds σ H → EnvL (E 0) σ H) (hb : ∀ k x, l[k]? = some x → NV ((E k).set i (some (dN x))) ts (E (k + 1))) :
    NV Ds (tFor (iList K tl) (gName i) ts) (E l.length) := fun D σ H iv en q =>
  hl σ H _ iv en fun v H1 l1 ⟨a, e, g, h⟩ => by
    subst e
    refine ⟨a, rfl, ⟨vs l, .inl (.inl h)⟩, ?_⟩
    refine for_list (K := K) (a := a) (xs := vs l) (fun k σ' H' => W.L H1 H' ∧ EnvL (E k) σ' H') ⟨W.refl H1, h0 _ _ (en.st l1)⟩ (fun k σ' H' _ hP => .inl (.inl (W.keep g hP.1 h))) (fun k x σ' H' hx hP => ?_) fun σ' H' hP => q σ' H' (W.trans l1 hP.1) (by have := hP.2; rwa [len_vs] at this)
    have iv' := W.step hP.1 (W.step l1 iv)
    obtain ⟨w, hw, rfl⟩ := get_vs hx
    exact hb k w hw _ _ H' iv' (hP.2.set rfl) fun σ2 H2 l2 e2 => ⟨W.trans hP.1 l2, e2⟩
/-- a, b = a new list, a value -/
theorem sv_parCV {ta tb : TE} {tu : TS} {d : Dn W} {y : V} {xs : List V} {j : Nat} (h : FL Ds ta xs) (h2 : EV Ds tb (dV y)) (r : SVC ((Ds.set i none).set j (some (dV y))) [(i, xs)] tu d) (hi : Nat.ble (i + 1) Ds.n = true := by rfl) (ne : i ≠ j := by decide) :
    SV Ds (tSeq (tPar i j (tCons ta (tCons tb tNil))) tu) d := fun D σ H iv en q =>
  h σ H _ iv en fun p H1 np fp l1 e1 => by
    have L1 : W.L H H1 := W.trans l1 (L_del (W.step l1 iv) e1)
    refine h2 σ H1 _ (W.step L1 iv) (en.st L1) fun v H2 l2 o2 => ?_
    have ep2 := W.keep fp l2 e1
    have LG : W.L H (del p H2) := W.trans l1 (W.delL fp l2)
    have ce : CE W [(i, xs)] ((σ.set i (some (.ref p))).set j (some v)) H2 (del p H2) := by
      refine ⟨p, ?_, fp, ep2, rfl⟩
      rw [List.getElem?_set_ne (Ne.symm ne)]
      exact List.getElem?_set_self (by rw [en.1]; exact Nat.le_of_ble_eq_true hi)
    exact ⟨.ref p, v, rfl, r D _ _ _ ce (W.step LG iv) (((en.st LG).dropS).set (d := dV y) (show v = y from o2)) fun v3 H3 l3 o => q v3 H3 (W.trans LG l3) o⟩
theorem nv_env {Gs : EnvT W} (h : NV Ds ts Gs) (k : ∀ σ H, EnvL Gs σ H → EnvL Es σ H) : NV Ds ts Es := fun D σ H iv en q => h D σ H iv en fun σ' H' l e => q σ' H' l (k σ' H' e)
end
/-! ### promises -/
section
variable {n m w k : Nat} {A B L ws : List Nat} {C p : Addr}
def sp_lodd : Sp := spW (ι := Nat) (fun _ i => i < 2 ^ 24) (fun _ i => [dN i]) fun _ i => dB (par i i)
theorem sd_lodd (h : w < 2 ^ 24) : SpD sp_lodd [] [(dN w : Dn W)] (dB (par w w)) := spW_sd (i := w) h
structure NspP (i : Nat × List Nat) : Prop where
  n12 : i.1 ≤ 12
  lt : ∀ v ∈ i.2, v < 2 ^ i.1
def sp_nspan : Sp := spW (ι := Nat × List Nat) (fun _ i => NspP i) (fun _ i => [dVs i.2]) fun _ i => dVs (wordsOf (bas i.2))
theorem sd_nspan (n12 : n ≤ 12) (h : ∀ v ∈ ws, v < 2 ^ n) : SpD sp_nspan [] [(dVs ws : Dn W)] (dVs (wordsOf (bas ws))) := spW_sd (i := (n, ws)) ⟨n12, h⟩
structure NplP (i : List Nat × List Nat) : Prop where
  pl : Plain i.1
  nd : i.2.Nodup
  mem : ∀ v, v ∈ i.2 ↔ span i.1 v
  ln : i.2.length ≤ 10000
def sp_nplain : Sp := spW (ι := List Nat × List Nat) (fun _ i => NplP i) (fun _ i => [dVs i.2]) fun _ i => dVs i.1
theorem sd_nplain (pl : Plain B) (nd : L.Nodup) (mem : ∀ v, v ∈ L ↔ span B v) (ln : L.length ≤ 10000) : SpD sp_nplain [] [(dVs L : Dn W)] (dVs B) := spW_sd (i := (B, L)) ⟨pl, nd, mem, ln⟩
theorem words_le (pl : Plain B) (h : B.length ≤ 12) : (wordsOf B).length ≤ 4096 := by
  rw [(words_ok pl).2.2]
  exact pw_le h
theorem sd_nplainW (pl : Plain B) (h : B.length ≤ 12) : SpD sp_nplain [] [(dVs (wordsOf B) : Dn W)] (dVs B) := sd_nplain pl (words_ok pl).2.1 (words_ok pl).1 (Nat.le_trans (words_le pl h) (by decide))
structure NnxP (i : Nat × List Nat × Nat) : Prop where
  f : RoomF i.1 i.2.1
  ln : i.2.1.length ≤ 12
  lt : i.2.2 < 2 ^ i.1
  nw : ¬ span i.2.1 i.2.2
def sp_nnext : Sp := spW (ι := Nat × List Nat × Nat) (fun _ i => NnxP i) (fun _ i => [dVs (wordsOf i.2.1), dN i.2.2]) fun _ i => dVs (wordsOf (nbB i.1 i.2.1 i.2.2))
theorem sd_nnext (f : RoomF n B) (ln : B.length ≤ 12) (lt : w < 2 ^ n) (nw : ¬ span B w) : SpD sp_nnext [] [(dVs (wordsOf B) : Dn W), dN w] (dVs (wordsOf (nbB n B w))) := spW_sd (i := (n, B, w)) ⟨f, ln, lt, nw⟩
def Lack (n : Nat) (B : List Nat) (v : Nat) : Prop := v < 2 ^ n ∧ ¬ span B v ∧ par v v = false
structure NlaP (W : Wd) (i : Addr × Nat × List Nat) : Prop where
  hp : IsPot W i.1
  o : OwnF i.2.1 i.2.2
  n3 : 3 ≤ i.2.1
def sp_nlacked : Sp := spW (ι := Addr × Nat × List Nat) (fun W i => NlaP W i) (fun _ i => [dV (.ref i.1), dVs (wordsOf i.2.2)]) fun _ i => dEx (fun v => Lack i.2.1 i.2.2 v) dN
theorem sd_nlacked (hp : IsPot W p) (o : OwnF n B) (n3 : 3 ≤ n) : SpD sp_nlacked [] [dV (.ref p), dVs (wordsOf B)] (dEx (fun v => Lack n B v) dN : Dn W) := spW_sd (i := (p, n, B)) ⟨hp, o, n3⟩
structure NowP (W : Wd) (i : Addr × Nat) : Prop where
  hp : IsPot W i.1
  n1 : 1 ≤ i.2
  n12 : i.2 ≤ 6
def sp_nown : Sp := spW (ι := Addr × Nat) (fun W i => NowP W i) (fun _ i => [dV (.ref i.1), dN (2 * i.2)]) fun _ i => dEx (fun B => OwnF (2 * i.2) B) fun B => dVs (wordsOf B)
theorem sd_nown (hp : IsPot W p) (n1 : 1 ≤ m) (n12 : m ≤ 6) : SpD sp_nown [] [dV (.ref p), dN (2 * m)] (dEx (fun B => OwnF (2 * m) B) fun B => dVs (wordsOf B) : Dn W) := spW_sd (i := (p, m)) ⟨hp, n1, n12⟩
structure NlcP (i : Nat × List Nat × List Nat) : Prop where
  fA : RoomF i.1 i.2.1
  fB : RoomF i.1 i.2.2
  lA : i.2.1.length ≤ 12
  lB : i.2.2.length ≤ 12
def sp_nlacks : Sp := spW (ι := Nat × List Nat × List Nat) (fun _ i => NlcP i) (fun _ i => [dVs (wordsOf i.2.1), dVs (wordsOf i.2.2)]) fun _ i => dN (distB i.1 i.2.1 i.2.2)
theorem sd_nlacks (fA : RoomF n A) (fB : RoomF n B) (lA : A.length ≤ 12) (lB : B.length ≤ 12) : SpD sp_nlacks [] [(dVs (wordsOf A) : Dn W), dVs (wordsOf B)] (dN (distB n A B)) := spW_sd (i := (n, A, B)) ⟨fA, fB, lA, lB⟩
/-! the program's -/
def sp_check_own (C : Addr) : Sp := spW (ι := Nat × List Nat) (fun _ i => ownB i.1 i.2 = true) (fun _ i => [dRoom C i.1 i.2]) fun _ _ => dV .non
theorem sd_check_own (h : ownB n B = true) : SpD (sp_check_own C) [] [(dRoom C n B : Dn W)] (dV .non) := spW_sd (i := (n, B)) h
def sp_check_own_two (C : Addr) : Sp := spW (ι := Nat × List Nat × List Nat) (fun _ i => ownB i.1 i.2.1 = true ∧ ownB i.1 i.2.2 = true) (fun _ i => [dRoom C i.1 i.2.1, dRoom C i.1 i.2.2]) fun _ _ => dV .non
theorem sd_check_own_two (h : ownB n A = true) (h2 : ownB n B = true) : SpD (sp_check_own_two C) [] [(dRoom C n A : Dn W), dRoom C n B] (dV .non) := spW_sd (i := (n, A, B)) ⟨h, h2⟩
noncomputable def sp_apart (C : Addr) : Sp := spW (ι := Nat × List Nat × List Nat) (fun _ _ => True) (fun _ i => [dRoom C i.1 i.2.1, dRoom C i.1 i.2.2]) fun _ i => dN (distB i.1 i.2.1 i.2.2)
theorem sd_apart : SpD (sp_apart C) [] [(dRoom C n A : Dn W), dRoom C n B] (dN (distB n A B)) := spW_sd (i := (n, A, B)) trivial
noncomputable def sp_over_half (C : Addr) : Sp := spW (ι := Nat × List Nat × Nat) (fun _ i => i.2.2 < 2 ^ i.1) (fun _ i => [dRoom C i.1 i.2.1, dN i.2.2]) fun _ i => dRoom C i.1 (nbB i.1 i.2.1 i.2.2)
theorem sd_over_half (h : w < 2 ^ n) : SpD (sp_over_half C) [] [(dRoom C n B : Dn W), dN w] (dRoom C n (nbB n B w)) := spW_sd (i := (n, B, w)) h
noncomputable def sp_neighbour (C : Addr) : Sp := spW (ι := Nat × List Nat × Nat) (fun _ i => ownB i.1 i.2.1 = true ∧ Lack i.1 i.2.1 i.2.2) (fun _ i => [dRoom C i.1 i.2.1, dN i.2.2]) fun _ i => dRoom C i.1 (nbB i.1 i.2.1 i.2.2)
theorem sd_neighbour (h : ownB n B = true) (h2 : Lack n B w) : SpD (sp_neighbour C) [] [(dRoom C n B : Dn W), dN w] (dRoom C n (nbB n B w)) := spW_sd (i := (n, B, w)) ⟨h, h2⟩
noncomputable def sp_are_nei (C : Addr) : Sp := spW (ι := Nat × List Nat × List Nat) (fun _ i => ownB i.1 i.2.1 = true ∧ ownB i.1 i.2.2 = true) (fun _ i => [dRoom C i.1 i.2.1, dRoom C i.1 i.2.2]) fun _ i => dB (decide (distB i.1 i.2.1 i.2.2 = 1))
theorem sd_are_nei (h : ownB n A = true) (h2 : ownB n B = true) : SpD (sp_are_nei C) [] [(dRoom C n A : Dn W), dRoom C n B] (dB (decide (distB n A B = 1))) := spW_sd (i := (n, A, B)) ⟨h, h2⟩
noncomputable def sp_distance (C : Addr) : Sp := spW (ι := Nat × List Nat × List Nat) (fun _ i => ownB i.1 i.2.1 = true ∧ ownB i.1 i.2.2 = true) (fun _ i => [dRoom C i.1 i.2.1, dRoom C i.1 i.2.2]) fun _ i => dN (distB i.1 i.2.1 i.2.2)
theorem sd_distance (h : ownB n A = true) (h2 : ownB n B = true) : SpD (sp_distance C) [] [(dRoom C n A : Dn W), dRoom C n B] (dN (distB n A B)) := spW_sd (i := (n, A, B)) ⟨h, h2⟩
end
end Vf

set_option Elab.async false
set_option linter.all false
set_option maxRecDepth 100000
set_option maxHeartbeats 400000
namespace Vf
open PySem PySem.Spec PyProof.Rows L2
variable {W : Wd}
/-! ### neighbours have distance 1, and are made again by any further word -/
section
variable {n w u v : Nat} {A B D : List Nat}
theorem nb_has (f : RoomF n A) (hw : w < 2 ^ n) : span (nbB n A w) w := (nb_span f hw w).mpr (.inr (by rw [Nat.xor_self]; exact ⟨span_zero _, par_zero w⟩))
theorem com_nb (h : OwnF n A) (hw : w < 2 ^ n) (nw : ¬ span A w) : lowB n (comB n A (nbB n A w)) = halfB n A w := plain_unique (lowB_plain _ _) (lowB_plain _ _) fun v => by
  rw [comB_span h.f.lt, nb_span h.f hw]
  refine Iff.trans ?_ (half_span h.f hw v).symm
  constructor
  · rintro ⟨h1, h2 | ⟨h2, _⟩⟩
    · exact h2
    · refine absurd ?_ nw
      have := span_xor h1 h2
      rwa [← Nat.xor_assoc, Nat.xor_self, Nat.zero_xor] at this
  · exact fun k => ⟨k.1, .inl k⟩
theorem dist_nb (h : OwnF n A) (hw : w < 2 ^ n) (nw : ¬ span A w) : distB n A (nbB n A w) = 1 := by
  have := half_len h hw nw
  have := h.len
  unfold distB
  rw [com_nb h hw nw]
  omega
theorem nb_of (hA : OwnF n A) (hD : OwnF n D) (h1 : distB n A D = 1) (hu : span D u) (nu : ¬ span A u) : nbB n A u = D := by
  have ltu := span_lt hD.f.lt hu
  have a := hA.len
  have d := hD.len
  have cl := com_le (B := D) hA.f
  have pC := lowB_plain n (comB n A D)
  have cs := fun v => comB_span (n := n) (A := A) (B := D) hA.f.lt v
  have hl := half_len hA ltu nu
  have hC : 2 * (lowB n (comB n A D)).length + 2 = n := by
    unfold distB at h1
    omega
  have lh : (lowB n (comB n A D)).length = (halfB n A u).length := by omega
  have e1 : ∀ v, span (lowB n (comB n A D)) v ↔ span (halfB n A u) v := sub_dim pC (show Plain (halfB n A u) from lowB_plain _ _) (fun v hv => (half_span hA.f ltu v).mpr ⟨((cs v).mp hv).1, hD.still v ((cs v).mp hv).2 u hu⟩) lh
  have nl := nb_len hA ltu nu
  have ld : (nbB n A u).length = D.length := by omega
  have pN : Plain (nbB n A u) := bas_plain _
  refine plain_unique pN hD.f.pl (sub_dim pN hD.f.pl (fun v hv => ?_) ld)
  unfold nbB at hv
  rw [bas_span] at hv
  exact span_app_sub (fun x hx => ((cs x).mp ((e1 x).mpr hx)).2) (fun x hx => span_sub (fun y hy => by rw [List.mem_singleton.mp hy]; exact hu) hx) hv
theorem lack_of (hD : OwnF n D) (hu : span D u) (nu : ¬ span A u) : Lack n A u := ⟨span_lt hD.f.lt hu, nu, hD.still u hu u hu⟩
theorem filt_two (p : Nat → Bool) : ∀ l : List Nat, (l.filter p).length + (l.filter fun v => !p v).length = l.length
  | [] => rfl
  | x :: l => by
    have ih := filt_two p l
    rw [List.filter_cons, List.filter_cons]
    cases p x
    · show (l.filter p).length + ((l.filter fun v => !p v).length + 1) = l.length + 1
      omega
    · show (l.filter p).length + 1 + (l.filter fun v => !p v).length = l.length + 1
      omega
theorem far_len (hA : OwnF n A) (hD : OwnF n D) (h1 : distB n A D = 1) : ((wordsOf D).filter fun v => !decide (v ∈ wordsOf A)).length * 2 = (wordsOf A).length := by
  have a := hA.len
  have d := hD.len
  have cl := com_le (B := D) hA.f
  have c1 := com_words hD.f hA.f
  have c2 : ((wordsOf D).filter fun v => decide (v ∈ wordsOf A)).length = 2 ^ (lowB n (comB n A D)).length := by
    rw [c1, com_comm hD.f hA.f, (words_ok (lowB_plain _ _)).2.2]
  have s := filt_two (fun v => decide (v ∈ wordsOf A)) (wordsOf D)
  rw [c2, (words_ok hD.f.pl).2.2] at s
  rw [(words_ok hA.f.pl).2.2]
  have e1 : D.length = (lowB n (comB n A D)).length + 1 := by
    unfold distB at h1
    omega
  have e2 : A.length = (lowB n (comB n A D)).length + 1 := by omega
  rw [e1, Nat.pow_succ] at s
  rw [e2, Nat.pow_succ]
  omega
theorem far_mem (fA : RoomF n A) (fD : RoomF n D) : u ∈ (wordsOf D).filter (fun v => !decide (v ∈ wordsOf A)) ↔ span D u ∧ ¬ span A u := by
  rw [List.mem_filter, (words_ok fD.pl).1, Bool.not_eq_true', decide_eq_false_iff_not, (words_ok fA.pl).1]
end
end Vf

set_option Elab.async false
set_option linter.all false
set_option maxRecDepth 100000
set_option maxHeartbeats 4000000
set_option pp.maxSteps 300
namespace Vf
open PySem PySem.Spec PyProof.Rows L2
/-! ### chains: distances of own rooms -/
section
variable {n u k : Nat} {A B D : List Nat}
theorem dist_tri (hA : OwnF n A) (hB : OwnF n B) (hD : OwnF n D) : distB n A B ≤ distB n A D + distB n D B := by
  have lA := hA.len
  have lB := hB.len
  have lD := hD.len
  have eq := sum_common2 (n := n) (A := lowB n (comB n A D)) (B := lowB n (comB n D B)) (lowB_plain _ _) (lowB_plain _ _) lowB_lt lowB_lt
  have h1 : (bas (lowB n (comB n A D) ++ lowB n (comB n D B))).length ≤ D.length := dim_le (bas_plain _) hD.f.pl fun v hv => by
    rw [bas_span] at hv
    exact span_app_sub (fun v k => ((comB_span hA.f.lt v).mp k).2) (fun v k => ((comB_span hD.f.lt v).mp k).1) hv
  have h2 : (lowB n (comB n (lowB n (comB n A D)) (lowB n (comB n D B)))).length ≤ (lowB n (comB n A B)).length := dim_le (lowB_plain _ _) (lowB_plain _ _) fun v hv => by
    have k := (comB_span lowB_lt v).mp hv
    exact (comB_span hA.f.lt v).mpr ⟨((comB_span hA.f.lt v).mp k.1).1, ((comB_span hD.f.lt v).mp k.2).2⟩
  have c1 := com_le (B := D) hA.f
  have c2 := com_le (B := B) hD.f
  have c3 := com_le (B := B) hA.f
  unfold distB
  omega
theorem dist_le (hA : OwnF n A) : distB n A B ≤ 12 := by
  have := hA.len
  have := hA.f.n24
  unfold distB
  omega
theorem dist_near (hA : OwnF n A) (hB : OwnF n B) (hu : span B u) (nu : ¬ span A u) : OwnF n (nbB n A u) ∧ distB n (nbB n A u) B + 1 = distB n A B := by
  have lu := span_lt hB.f.lt hu
  have uu := hB.still u hu u hu
  have hN := own_nb hA lu nu uu
  have d1 := dist_nb hA lu nu
  have tr := dist_tri hA hB hN
  have lA := hA.len
  have lN := hN.len
  have ad : (bas (lowB n (comB n A B) ++ [u])).length = (lowB n (comB n A B)).length + 1 := add_dim (lowB_plain _ _) fun h => nu ((comB_span hA.f.lt u).mp h).1
  have le : (bas (lowB n (comB n A B) ++ [u])).length ≤ (lowB n (comB n (nbB n A u) B)).length := dim_le (bas_plain _) (lowB_plain _ _) fun v hv => by
    rw [bas_span] at hv
    refine span_app_sub (D := lowB n (comB n (nbB n A u) B)) (fun v k => ?_) (fun v k => ?_) hv
    · have k := (comB_span hA.f.lt v).mp k
      exact (comB_span hN.f.lt v).mpr ⟨(nb_span hA.f lu v).mpr (.inl ⟨k.1, hB.still v k.2 u hu⟩), k.2⟩
    · have : v = 0 ∨ v = u := by
        have := (span_last (ws := []) (w := u) (v := v)).mp k
        rcases this with h | h
        · exact .inl ((span_emp v).mp h)
        · have z := (span_emp _).mp h
          have : v ^^^ u ^^^ u = u := by rw [z, Nat.zero_xor]
          rw [Nat.xor_assoc, Nat.xor_self, Nat.xor_zero] at this
          exact .inr this
      rcases this with rfl | rfl
      · exact span_zero _
      · exact (comB_span hN.f.lt v).mpr ⟨nb_has hA.f lu, hu⟩
  have c1 := com_le (B := B) hN.f
  have c2 := com_le (B := B) hA.f
  refine ⟨hN, ?_⟩
  unfold distB at *
  omega
/-- the first word of the other plain basis that the room lacks -/
noncomputable def lackF (A B : List Nat) : Nat := (B.filter fun b => !decide (restOf b A = 0)).getD 0 0
theorem lackF_ok (hA : OwnF n A) (hB : OwnF n B) (h : distB n A B ≠ 0) : 0 < (B.filter fun b => !decide (restOf b A = 0)).length ∧ span B (lackF A B) ∧ ¬ span A (lackF A B) := by
  have pos : 0 < (B.filter fun b => !decide (restOf b A = 0)).length := by
    refine Decidable.byContradiction fun k => h ?_
    have e : (B.filter fun b => !decide (restOf b A = 0)) = [] := List.eq_nil_of_length_eq_zero (by omega)
    have all : ∀ b ∈ B, span A b := fun b hb => by
      have := (List.filter_eq_nil_iff.mp e) b hb
      rw [Bool.not_eq_true, Bool.not_eq_false', decide_eq_true_iff] at this
      exact (rest_zero hA.f.pl.1 b).mp this
    have le : B.length ≤ (lowB n (comB n A B)).length := dim_le hB.f.pl (lowB_plain _ _) fun v hv => (comB_span hA.f.lt v).mpr ⟨span_sub all hv, hv⟩
    have lA := hA.len
    have lB := hB.len
    unfold distB
    omega
  have mem : lackF A B ∈ B.filter fun b => !decide (restOf b A = 0) := by
    unfold lackF
    rw [getD_el pos]
    exact List.getElem_mem pos
  obtain ⟨m1, m2⟩ := List.mem_filter.mp mem
  refine ⟨pos, span_mem m1, fun k => ?_⟩
  rw [(decide_eq_true ((rest_zero hA.f.pl.1 _).mpr k) : decide (restOf (lackF A B) A = 0) = true)] at m2
  cases m2
noncomputable def chB (n : Nat) (A B : List Nat) : Nat → List Nat
  | 0 => A
  | k + 1 => nbB n (chB n A B k) (lackF (chB n A B k) B)
theorem chB_ok (hA : OwnF n A) (hB : OwnF n B) : ∀ k, k ≤ distB n A B → OwnF n (chB n A B k) ∧ distB n (chB n A B k) B + k = distB n A B
  | 0, _ => ⟨hA, rfl⟩
  | k + 1, h => by
    obtain ⟨o, e⟩ := chB_ok hA hB k (by omega)
    obtain ⟨_, s, ns⟩ := lackF_ok o hB (by omega)
    obtain ⟨o2, e2⟩ := dist_near o hB s ns
    exact ⟨o2, by show distB n (nbB n (chB n A B k) (lackF (chB n A B k) B)) B + (k + 1) = _; omega⟩
theorem chB_step (hA : OwnF n A) (hB : OwnF n B) (h : k < distB n A B) : distB n (chB n A B k) (chB n A B (k + 1)) = 1 := by
  obtain ⟨o, e⟩ := chB_ok hA hB k (by omega)
  obtain ⟨_, s, ns⟩ := lackF_ok o hB (by omega)
  exact dist_nb o (span_lt hB.f.lt s) ns
theorem chB_end (hA : OwnF n A) (hB : OwnF n B) : chB n A B (distB n A B) = B := by
  obtain ⟨o, e⟩ := chB_ok hA hB _ (Nat.le_refl _)
  exact (dist_zero o hB).mp (by omega)
noncomputable def chL (n : Nat) (A B : List Nat) : List (List Nat) := (List.range (distB n A B + 1)).map (chB n A B)
/-- a chain of own rooms of n places from A to B -/
structure IsCh (n : Nat) (A B : List Nat) (l : List (List Nat)) : Prop where
  own : ∀ D ∈ l, OwnF n D
  hd : l[0]? = some A
  lst : l[l.length - 1]? = some B
  nx : ∀ k X Y, l[k]? = some X → l[k + 1]? = some Y → distB n X Y = 1
  ln : l.length ≤ 100
theorem chL_len : (chL n A B).length = distB n A B + 1 := by
  unfold chL
  rw [List.length_map, List.length_range]
theorem chL_at (h : k ≤ distB n A B) : (chL n A B)[k]? = some (chB n A B k) := by
  unfold chL
  rw [List.getElem?_map, List.getElem?_range (by omega)]
  rfl
theorem chL_is (hA : OwnF n A) (hB : OwnF n B) : IsCh n A B (chL n A B) := by
  have d12 := dist_le (B := B) hA
  refine ⟨fun D hD => ?_, chL_at (Nat.zero_le _), ?_, fun k X Y hX hY => ?_, by rw [chL_len]; omega⟩
  · obtain ⟨k, hk, rfl⟩ := List.mem_map.mp hD
    exact (chB_ok hA hB k (by have := List.mem_range.mp hk; omega)).1
  · rw [chL_len, Nat.add_sub_cancel, chL_at (Nat.le_refl _), chB_end hA hB]
  · have lt := (List.getElem?_eq_some_iff.mp hY).1
    rw [chL_len] at lt
    rw [chL_at (by omega)] at hX hY
    cases hX
    cases hY
    exact chB_step hA hB (by omega)
theorem IsCh.pos {l : List (List Nat)} (h : IsCh n A B l) : 0 < l.length := (List.getElem?_eq_some_iff.mp h.hd).1
theorem IsCh.app {l m : List (List Nat)} (h : IsCh n A D l) (k : IsCh n D B m) (ln : l.length + m.length ≤ 100) : IsCh n A B (l ++ m.drop 1) := by
  have p1 := h.pos
  have p2 := k.pos
  refine ⟨fun X hX => (List.mem_append.mp hX).elim (h.own X) fun z => k.own X (List.mem_of_mem_drop z), ?_, ?_, fun i X Y hX hY => ?_, ?_⟩
  · rw [List.getElem?_append_left p1]
    exact h.hd
  · rw [List.length_append, List.length_drop]
    by_cases e : m.length = 1
    · have : m.drop 1 = [] := List.drop_eq_nil_of_le (by omega)
      rw [this, List.append_nil, e]
      have hl := h.lst
      have ml := k.lst
      rw [e] at ml
      have md := k.hd
      rw [show 1 - 1 = 0 from rfl, md] at ml
      cases ml
      exact hl
    · rw [List.getElem?_append_right (by omega), List.getElem?_drop, show 1 + (l.length + (m.length - 1) - 1 - l.length) = m.length - 1 by omega]
      exact k.lst
  · by_cases c : i + 1 < l.length
    · rw [List.getElem?_append_left c] at hY
      rw [List.getElem?_append_left (by omega)] at hX
      exact h.nx i X Y hX hY
    · rw [List.getElem?_append_right (by omega), List.getElem?_drop] at hY
      by_cases c2 : i < l.length
      · rw [List.getElem?_append_left c2] at hX
        have : i = l.length - 1 := by omega
        subst this
        rw [h.lst] at hX
        cases hX
        rw [show 1 + (l.length - 1 + 1 - l.length) = 0 + 1 by omega] at hY
        exact k.nx 0 _ _ k.hd hY
      · rw [List.getElem?_append_right (by omega), List.getElem?_drop] at hX
        exact k.nx _ _ _ hX (by rw [show 1 + (i - l.length) + 1 = 1 + (i + 1 - l.length) by omega]; exact hY)
  · rw [List.length_append, List.length_drop]
    omega
theorem IsCh.rev {l : List (List Nat)} (h : IsCh n A B l) : IsCh n B A l.reverse := by
  have p := h.pos
  refine ⟨fun X hX => h.own X (List.mem_reverse.mp hX), ?_, ?_, fun i X Y hX hY => ?_, by rw [List.length_reverse]; exact h.ln⟩
  · rw [List.getElem?_reverse p]
    exact h.lst
  · rw [List.length_reverse, List.getElem?_reverse (by omega), show l.length - 1 - (l.length - 1) = 0 by omega]
    exact h.hd
  · have lt := (List.getElem?_eq_some_iff.mp hY).1
    rw [List.length_reverse] at lt
    rw [List.getElem?_reverse (by omega)] at hX hY
    have e : l.length - 1 - i = l.length - 1 - (i + 1) + 1 := by omega
    rw [e] at hX
    have hX2 := h.own X (List.mem_of_getElem? hX)
    have hY2 := h.own Y (List.mem_of_getElem? hY)
    rw [dist_comm hX2 hY2]
    exact h.nx _ _ _ hY hX
end
end Vf

set_option Elab.async false
set_option linter.all false
set_option maxRecDepth 100000
set_option maxHeartbeats 4000000
set_option pp.maxSteps 300
namespace Vf
open PySem PySem.Spec PyProof.Rows L2
variable {W : Wd}
/-! ### lists of rooms that a def makes and changes -/
/-- a list whose first item is an object -/
def Rf (xs : List V) : Prop := ∃ a ys, xs = V.ref a :: ys
/-- a meaning that such a list has no part in -/
def Sep (d : Dn W) : Prop := ∀ v H p xs, d.ok v H → H p = some (.lst xs) → Rf xs → d.ok v (del p H)
theorem sep_V (v0 : V) : Sep (dV v0 : Dn W) := fun _ _ _ _ h _ _ => h
theorem rf_vs {l : List Nat} (h : Rf (vs l)) : False := by
  obtain ⟨a, ys, e⟩ := h
  cases l with
  | nil => cases e
  | cons x l => cases e
theorem sep_vs (l : List Nat) : Sep (dVs l : Dn W) := fun v H p xs ⟨a, e, g, h⟩ hp r => by
  refine ⟨a, e, g, ?_⟩
  rw [del_ne]
  · exact h
  · rintro rfl
    rw [hp] at h
    cases h
    exact rf_vs r
theorem sep_room {C : Addr} {n : Nat} {B : List Nat} : Sep (dRoom C n B : Dn W) := fun v H p xs ⟨a, dx, b, e, g1, g2, h1, h2, f⟩ hp r => by
  refine ⟨a, dx, b, e, g1, g2, ?_, ?_, f⟩
  · rw [del_ne]
    · exact h1
    · rintro rfl
      rw [hp] at h1
      cases h1
  · rw [del_ne]
    · exact h2
    · rintro rfl
      rw [hp] at h2
      cases h2
      exact rf_vs r
theorem sep_ex {ι : Type} {P : ι → Prop} {f : ι → Dn W} (h : ∀ x, Sep (f x)) : Sep (dEx P f) := fun v H p xs ⟨i, pi, o⟩ hp r => ⟨i, pi, h i v H p xs o hp r⟩
theorem OkL.app {H : Hp} : ∀ {ds es : List (Dn W)} {xs ys : List V}, OkL ds xs H → OkL es ys H → OkL (ds ++ es) (xs ++ ys) H
  | [], _, [], _, _, h => h
  | _ :: _, _, _ :: _, _, ⟨o, r⟩, h => ⟨o, OkL.app r h⟩
  | [], _, _ :: _, _, h, _ => h.elim
  | _ :: _, _, [], _, h, _ => h.elim
theorem OkL.drop {H : Hp} : ∀ (k : Nat) {ds : List (Dn W)} {xs : List V}, OkL ds xs H → OkL (ds.drop k) (xs.drop k) H
  | 0, _, _, h => h
  | _ + 1, [], [], _ => trivial
  | k + 1, _ :: _, _ :: _, h => OkL.drop k h.2
  | _ + 1, [], _ :: _, h => h.elim
  | _ + 1, _ :: _, [], h => h.elim
theorem OkL.take {H : Hp} : ∀ (k : Nat) {ds : List (Dn W)} {xs : List V}, OkL ds xs H → OkL (ds.take k) (xs.take k) H
  | 0, _, _, _ => trivial
  | _ + 1, [], [], _ => trivial
  | k + 1, _ :: _, _ :: _, h => ⟨h.1, OkL.take k h.2⟩
  | _ + 1, [], _ :: _, h => h.elim
  | _ + 1, _ :: _, [], h => h.elim
theorem OkL.rev {H : Hp} : ∀ {ds : List (Dn W)} {xs : List V}, OkL ds xs H → OkL ds.reverse xs.reverse H
  | [], [], _ => trivial
  | _ :: _, _ :: _, ⟨o, r⟩ => by
    rw [List.reverse_cons, List.reverse_cons]
    exact OkL.app (OkL.rev r) ⟨o, trivial⟩
  | [], _ :: _, h => h.elim
  | _ :: _, [], h => h.elim
theorem OkL.get {H : Hp} : ∀ {ds : List (Dn W)} {xs : List V} {k : Nat} {d : Dn W}, OkL ds xs H → ds[k]? = some d → ∃ x, xs[k]? = some x ∧ d.ok x H
  | [], [], _, _, _, e => by simp at e
  | d :: ds, x :: xs, 0, d', h, e => by
    have : d = d' := by simpa using e
    subst this
    exact ⟨x, rfl, h.1⟩
  | d :: ds, x :: xs, k + 1, d', h, e => by
    obtain ⟨y, hy, o⟩ := OkL.get (k := k) h.2 (by simpa using e)
    exact ⟨y, by simpa using hy, o⟩
  | [], _ :: _, _, _, h, _ => h.elim
  | _ :: _, [], _, _, h, _ => h.elim
section
variable {Ds Es Fs : EnvT W} {d d1 d2 d3 : Dn W} {ds es : List (Dn W)} {te ta tb tl ti : TE} {t : TA} {tt : TT} {ts tu : TS} {i j l k n : Nat} {K : PySem.W.Frag} {b : Bool}
theorem od_ixLD (h : ds[k]? = some d) : OpD (W := W) (rIxL K) (dLD ds) (dN k) d := fun u v H Q iv ⟨a, xs, e, g, h1, o⟩ e2 q => by
  subst e
  rw [show v = V.int (k : Int) from e2]
  obtain ⟨x, hx, ox⟩ := o.get h
  exact ⟨a, xs, k, x, rfl, rfl, SqL.of h1, atI_nat (j := k) hx, q x H (W.refl H) ox⟩
theorem cd_lenLD : CrD (W := W) (fun xs H Q => ∃ p ys, xs = [.ref p] ∧ (SqL K H p ys ∨ SqT K H p ys) ∧ Q (.int ys.length) H) [dLD ds] (dN ds.length) := fun us H Q iv o q => by
  match us, o with
  | [u], ⟨⟨a, xs, e, g, h1, o⟩, _⟩ =>
    subst e
    exact ⟨a, xs, rfl, .inl (SqL.of h1), q _ H (W.refl H) (by rw [o.length]; rfl)⟩
theorem od_catLD (h : ds.length + es.length ≤ 100000) : OpD (W := W) rCat (dLD ds) (dLD es) (dLD (ds ++ es)) := fun u v H Q iv ⟨a, xs, e1, g1, h1, o1⟩ ⟨b, ys, e2, g2, h2, o2⟩ q =>
  od_catG (xs := xs) (ys := ys) (by rw [o1.length, o2.length]; exact h) u v H Q iv ⟨a, e1, g1, h1⟩ ⟨b, e2, g2, h2⟩ fun w H' l ⟨p, e3, g3, h3⟩ => q w H' l ⟨p, xs ++ ys, e3, g3, h3, (o1.st l).app (o2.st l)⟩
theorem ev_slFD (h : EV Ds te (dLD ds)) (h2 : EV Ds ti (dN k)) : EV Ds (tSl (rSlL K) te (tPart ti) tNoPart) (dLD (ds.drop k)) := fun σ H Q iv en q =>
  h σ H _ iv en fun v H1 l1 o1 => h2 σ H1 _ (W.step l1 iv) (en.st l1) fun u H2 l2 o2 => by
    have iv2 := W.step l2 (W.step l1 iv)
    obtain ⟨a, xs, e, ga, ha, o⟩ := (dLD ds).st l2 o1
    subst e
    refine ⟨k, o2, a, _, rfl, SqL.of ha, fun p np => ?_⟩
    have lp := W.put (o := .lst (cutV xs (some (k : Int)) none)) iv2 (W.refl _) np
    exact q _ _ (W.trans (W.trans l1 l2) lp) ⟨p, xs.drop k, rfl, W.fresh iv2 np, by rw [upd_same, cutFrom], (o.st lp).drop k⟩
theorem ev_slLD (h : EV Ds te (dLD ds)) (h2 : EV Ds ti (dI (-1))) : EV Ds (tSl (rSlL K) te tNoPart (tPart ti)) (dLD (ds.take (ds.length - 1))) := fun σ H Q iv en q =>
  h σ H _ iv en fun v H1 l1 o1 => h2 σ H1 _ (W.step l1 iv) (en.st l1) fun u H2 l2 o2 => by
    have iv2 := W.step l2 (W.step l1 iv)
    obtain ⟨a, xs, e, ga, ha, o⟩ := (dLD ds).st l2 o1
    subst e
    refine ⟨-1, o2, a, _, rfl, SqL.of ha, fun p np => ?_⟩
    have lp := W.put (o := .lst (cutV xs none (some (-1)))) iv2 (W.refl _) np
    refine q _ _ (W.trans (W.trans l1 l2) lp) ⟨p, xs.take (ds.length - 1), rfl, W.fresh iv2 np, ?_, (o.st lp).take _⟩
    rw [upd_same, cutLast', List.dropLast_eq_take, o.length]
theorem ev_revLD (h : EV Ds te (dLD ds)) : EV Ds (tRevL K te) (dLD ds.reverse) := fun σ H Q iv en q => h σ H _ iv en fun v H1 l1 ⟨a, xs, e, g, h1, o⟩ => by
  subst e
  have iv1 := W.step l1 iv
  refine ⟨a, xs, rfl, SqL.of h1, fun p np => ?_⟩
  have lp := W.put (o := .lst xs.reverse) iv1 (W.refl _) np
  exact q _ _ (W.trans l1 lp) ⟨p, xs.reverse, rfl, W.fresh iv1 np, upd_same, (o.st lp).rev⟩
/-- index -1 -/
theorem ev_ixLast (h : EV Ds te (dLD ds)) (h2 : EV Ds ti (dI (-1))) (hd : ds[ds.length - 1]? = some d) : EV Ds (tOp (rIxL K) te ti) d :=
  ev_op (d1 := dLD ds) (d2 := dI (-1)) (fun u v H Q iv ⟨a, xs, e, g, h1, o⟩ e2 q => by
    subst e
    rw [show v = V.int (-1) from e2]
    obtain ⟨x, hx, ox⟩ := o.get hd
    have lx := o.length
    have lt := (List.getElem?_eq_some_iff.mp hx).1
    refine ⟨a, xs, -1, x, rfl, rfl, SqL.of h1, ?_, q x H (W.refl H) ox⟩
    unfold atI ixN
    rw [← lx] at hx
    simp
    rw [if_pos (by omega)]
    rw [show (-1 + (xs.length : Int)).toNat = xs.length - 1 by omega]
    exact hx) h h2
end
/-! ### worlds away from one thing -/
def awayW (W : Wd) (D : Addr) (hD : W.F D) : Wd where
  L := W.L
  inv H := W.inv H ∧ ∃ xs, H D = some (.lst xs)
  F a := W.F a ∧ a ≠ D
  refl := W.refl
  trans := W.trans
  same := W.same
  step l h := ⟨W.step l h.1, h.2.elim fun xs e => ⟨xs, W.keep hD l e⟩⟩
  keep f l e := W.keep f.1 l e
  fresh h n := ⟨W.fresh h.1 n, by
    rintro rfl
    obtain ⟨xs, e⟩ := h.2
    rw [n] at e
    cases e⟩
  insF h e := ⟨W.insF h.1 e, by
    rintro rfl
    obtain ⟨xs, k⟩ := h.2
    rw [e] at k
    cases k⟩
  put h l n := W.put h.1 l n
  delL f l := W.delL f.1 l
  delI f h := ⟨W.delI f.1 h.1, h.2.elim fun xs e => ⟨xs, by rw [del_ne (Ne.symm f.2)]; exact e⟩⟩
/-- a meaning in each world -/
structure UD where
  f : ∀ W : Wd, Dn W
  lift : ∀ {W : Wd} {D : Addr} (hD : W.F D) {v : V} {H : Hp}, H D = none → (f W).ok v H → (f (awayW W D hD)).ok v H
  stay : ∀ {W : Wd} {D : Addr} (hD : W.F D) {v : V} {H : Hp} {o : HO}, (f (awayW W D hD)).ok v H → (f (awayW W D hD)).ok v (upd H D o)
  drop : ∀ {W : Wd} {D : Addr} (hD : W.F D) {v : V} {H : Hp}, (f (awayW W D hD)).ok v H → (f W).ok v H
def uV (v0 : V) : UD := ⟨fun _ => dV v0, fun _ _ _ _ h => h, fun _ _ _ _ h => h, fun _ _ _ h => h⟩
def uLst (xs : List V) : UD := ⟨fun _ => dLst xs, fun _ _ _ n ⟨a, e, g, h⟩ => ⟨a, e, ⟨g, ne_of_none h n⟩, h⟩, fun _ _ _ _ ⟨a, e, g, h⟩ => ⟨a, e, g, by rw [upd_ne g.2]; exact h⟩, fun _ _ _ ⟨a, e, g, h⟩ => ⟨a, e, g.1, h⟩⟩
def uTup (xs : List V) : UD := ⟨fun _ => dTup xs, fun _ _ _ n ⟨a, e, g, h⟩ => ⟨a, e, ⟨g, ne_of_none h n⟩, h⟩, fun _ _ _ _ ⟨a, e, g, h⟩ => ⟨a, e, g, by rw [upd_ne g.2]; exact h⟩, fun _ _ _ ⟨a, e, g, h⟩ => ⟨a, e, g.1, h⟩⟩
def uRoom (C : Addr) (n : Nat) (B : List Nat) : UD := ⟨fun _ => dRoom C n B, fun _ _ _ z ⟨a, dx, b, e, g1, g2, h1, h2, f⟩ => ⟨a, dx, b, e, ⟨g1, ne_of_none h1 z⟩, ⟨g2, ne_of_none h2 z⟩, h1, h2, f⟩,
  fun _ _ _ _ ⟨a, dx, b, e, g1, g2, h1, h2, f⟩ => ⟨a, dx, b, e, g1, g2, by rw [upd_ne g1.2]; exact h1, by rw [upd_ne g2.2]; exact h2, f⟩, fun _ _ _ ⟨a, dx, b, e, g1, g2, h1, h2, f⟩ => ⟨a, dx, b, e, g1.1, g2.1, h1, h2, f⟩⟩
def uN (n : Nat) : UD := uV (.int (n : Int))
def uVs (l : List Nat) : UD := uLst (vs l)
/-- an environment in each world -/
def uEnv (n : Nat) (l : List (Nat × UD)) (W : Wd) : EnvT W := ⟨n, l.map fun p => (p.1, p.2.f W)⟩
theorem getE_u {l : List (Nat × UD)} {i : Nat} {W : Wd} {d : Dn W} (h : getE (l.map fun p => (p.1, p.2.f W)) i = some d) : ∃ u : UD, d = u.f W ∧ ∀ W' : Wd, getE (l.map fun p => (p.1, p.2.f W')) i = some (u.f W') := by
  induction l with
  | nil => cases h
  | cons p l ih =>
    have h : (bif Nat.beq p.1 i then some (p.2.f W) else getE (l.map fun p => (p.1, p.2.f W)) i) = some d := h
    cases c : Nat.beq p.1 i with
    | true =>
      rw [c] at h
      have h : some (p.2.f W) = some d := h
      cases h
      refine ⟨p.2, rfl, fun W' => ?_⟩
      show (bif Nat.beq p.1 i then some (p.2.f W') else getE (l.map fun p => (p.1, p.2.f W')) i) = _
      rw [c]
      rfl
    | false =>
      rw [c] at h
      obtain ⟨u, e, k⟩ := ih h
      refine ⟨u, e, fun W' => ?_⟩
      show (bif Nat.beq p.1 i then some (p.2.f W') else getE (l.map fun p => (p.1, p.2.f W')) i) = _
      rw [c]
      exact k W'
theorem uEnv_lift {n : Nat} {l : List (Nat × UD)} {σ : L2.St} {H : Hp} {D : Addr} (hD : W.F D) (nD : H D = none) (h : EnvL (uEnv n l W) σ H) : EnvL (uEnv n l (awayW W D hD)) σ H := ⟨h.1, fun i d e lt => by
  obtain ⟨u, rfl, k⟩ := getE_u e
  obtain ⟨v, e1, o⟩ := h.2 i (u.f W) (k W) lt
  exact ⟨v, e1, u.lift hD nD o⟩⟩
theorem uEnv_stay {n : Nat} {l : List (Nat × UD)} {σ : L2.St} {H : Hp} {D : Addr} {o : HO} (hD : W.F D) (h : EnvL (uEnv n l (awayW W D hD)) σ H) : EnvL (uEnv n l (awayW W D hD)) σ (upd H D o) := ⟨h.1, fun i d e lt => by
  obtain ⟨u, rfl, k⟩ := getE_u e
  obtain ⟨v, e1, x⟩ := h.2 i _ e lt
  exact ⟨v, e1, u.stay hD x⟩⟩
def uDs (us : List UD) (W : Wd) : List (Dn W) := us.map fun u => u.f W
theorem uDs_lift {D : Addr} {H : Hp} (hD : W.F D) (nD : H D = none) : ∀ {us : List UD} {xs : List V}, OkL (uDs us W) xs H → OkL (uDs us (awayW W D hD)) xs H
  | [], [], _ => trivial
  | u :: us, x :: xs, h => ⟨u.lift hD nD h.1, uDs_lift hD nD h.2⟩
  | [], _ :: _, h => h.elim
  | _ :: _, [], h => h.elim
theorem uDs_stay {D : Addr} {H : Hp} {o : HO} (hD : W.F D) : ∀ {us : List UD} {xs : List V}, OkL (uDs us (awayW W D hD)) xs H → OkL (uDs us (awayW W D hD)) xs (upd H D o)
  | [], [], _ => trivial
  | u :: us, x :: xs, h => ⟨u.stay hD h.1, uDs_stay hD h.2⟩
  | [], _ :: _, h => h.elim
  | _ :: _, [], h => h.elim
theorem uDs_drop {D : Addr} {H : Hp} (hD : W.F D) : ∀ {us : List UD} {xs : List V}, OkL (uDs us (awayW W D hD)) xs H → OkL (uDs us W) xs H
  | [], [], _ => trivial
  | u :: us, x :: xs, h => ⟨u.drop hD h.1, uDs_drop hD h.2⟩
  | [], _ :: _, h => h.elim
  | _ :: _, [], h => h.elim
section
variable {Ds Es Fs : EnvT W} {d d1 d2 d3 : Dn W} {ds es : List (Dn W)} {te ta tb tl ti : TE} {t : TA} {tt : TT} {ts tu : TS} {i j l k n N : Nat} {K : PySem.W.Frag} {b : Bool} {us : List UD} {ue : List (Nat × UD)}
/-- a list of things by a comprehension over a list of things -/
theorem ev_lcDD {ι : Type} (ue : List (Nat × UD)) (us : List ι) (fu gu : ι → UD) (hl : EV Ds tl (dLD (uDs (us.map fu) W))) (he : ∀ σ H, EnvL Ds σ H → EnvL (uEnv N ue W) σ H) (hz : us.length ≤ 100000)
    (hb : ∀ (W' : Wd), ∀ u ∈ us, EV ((uEnv N ue W').set i (some ((fu u).f W'))) te ((gu u).f W')) : EV Ds (tLc (iList K tl) (gName i) tYes te [i]) (dLD (uDs (us.map gu) W)) := fun σ H Q iv en q =>
  hl σ H _ iv en fun v H1 l1 ⟨a, xs, e, ga, h, oxs⟩ => by
    subst e
    have iv1 := W.step l1 iv
    have len := oxs.length
    unfold uDs at len
    rw [List.length_map, List.length_map] at len
    refine ⟨a, rfl, ⟨xs, .inl (.inl h)⟩, fun D nD => ?_⟩
    have fD : W.F D := W.fresh iv1 nD
    have en1 := uEnv_lift fD nD (he _ _ (en.st l1))
    have ox1 := uDs_lift fD nD oxs
    refine lc_list (K := K) (a := a) (xs := xs) (fun k H' => W.L H1 H' ∧ (∃ ys, H' D = some (.lst ys) ∧ OkL (uDs ((us.map gu).take k) (awayW W D fD)) ys H') ∧ EnvL (uEnv N ue (awayW W D fD)) σ H' ∧ OkL (uDs (us.map fu) (awayW W D fD)) xs H')
      ⟨W.put iv1 (W.refl H1) nD, ⟨[], upd_same, trivial⟩, uEnv_stay fD en1, uDs_stay fD ox1⟩ (fun k H' _ hP => .inl (.inl (W.keep ga hP.1 h))) (fun k x H' hx hP => ?_) fun H' hP => ?_
    · obtain ⟨lP, ⟨ys, eD, oy⟩, eP, oP⟩ := hP
      have lk : k < us.length := by
        rw [← len]
        exact (List.getElem?_eq_some_iff.mp hx).1
      have hd : us[k]? = some us[k] := List.getElem?_eq_getElem lk
      obtain ⟨x', hx', ox⟩ := oP.get (k := k) (d := (fu us[k]).f (awayW W D fD)) (by unfold uDs; rw [List.getElem?_map, List.getElem?_map, hd]; rfl)
      rw [hx] at hx'
      cases hx'
      have iv' : (awayW W D fD).inv H' := ⟨W.step lP iv1, ys, eD⟩
      have en' : EnvL ((uEnv N ue (awayW W D fD)).set i (some ((fu us[k]).f (awayW W D fD)))) ((wipe σ [i]).set i (some x)) H' := env_lc ox eP
      refine ⟨wipe_lc, tv_yes (W := awayW W D fD) _ H' _ iv' en' fun H2 l2 => ?_⟩
      refine (if_pos rfl).mpr (hb (awayW W D fD) us[k] (List.getElem_mem lk) _ H2 _ ((awayW W D fD).step l2 iv') (en'.st l2) fun y H3 l3 o3 => ?_)
      have l23 : (awayW W D fD).L H' H3 := (awayW W D fD).trans l2 l3
      have eD3 : H3 D = some (.lst ys) := W.keep fD l23 eD
      have ly := oy.length
      unfold uDs at ly
      rw [List.length_map, List.length_take, List.length_map] at ly
      refine ⟨ys, eD3, sl_lt (by omega), W.put iv1 (W.trans lP l23) nD, ⟨ys ++ [y], upd_same, ?_⟩, uEnv_stay fD (eP.st l23), uDs_stay fD (oP.st l23)⟩
      rw [List.take_add_one, List.getElem?_map, hd]
      have e2 : uDs ((us.map gu).take k ++ (Option.map gu (some us[k])).toList) (awayW W D fD) = uDs ((us.map gu).take k) (awayW W D fD) ++ [(gu us[k]).f (awayW W D fD)] := by
        unfold uDs
        rw [List.map_append]
        rfl
      rw [e2]
      exact OkL.app (uDs_stay fD (oy.st l23)) ⟨(gu us[k]).stay fD o3, trivial⟩
    · obtain ⟨lP, ⟨ys, eD, oy⟩, eP, oP⟩ := hP
      refine q _ H' (W.trans l1 lP) ⟨D, ys, rfl, fD, eD, ?_⟩
      have e3 : (us.map gu).take xs.length = us.map gu := List.take_of_length_le (by rw [List.length_map]; omega)
      rw [e3] at oy
      exact uDs_drop fD oy
/-! ### zip over two lists of things -/
theorem ev_lcZD {es : List (Dn W)} (hl : AV Ds t [dLD ds, dLD es]) (hz : ds.length ≤ 100000) (ne : i ≠ j) (hb : ∀ (k : Nat) (d1 d2 : Dn W), ds[k]? = some d1 → es[k]? = some d2 → EV ((Ds.set i (some d1)).set j (some d2)) te (dB true)) :
    EV Ds (tLc (iZip K t) (gTup K 2 (gCons (gName i) (gCons (gName j) gNil))) tYes te [i, j]) (dBs (List.replicate (min ds.length es.length) true)) := fun σ H Q iv en q =>
  hl σ H _ iv en fun vs H1 l1 o1 => by
    match vs, o1 with
    | [v, u], ⟨⟨a, xs, e1, ga, ha, ox⟩, ⟨b, ys, e2, gb, hb2, oy⟩, _⟩ =>
      subst e1 e2
      have iv1 := W.step l1 iv
      have lx := ox.length
      have ly := oy.length
      refine ⟨a, b, _, _, rfl, SqL.of ha, SqL.of hb2, fun D nD => ?_⟩
      refine ⟨fun k m H' => k + m = min ds.length es.length ∧ W.L H1 H' ∧ H' D = some (.lst ((List.replicate k true).map V.bl)), ⟨min ds.length es.length, Nat.zero_add _, W.put iv1 (W.refl H1) nD, upd_same⟩, fun k m H' hW => ?_⟩
      obtain ⟨km, lP, eD⟩ := hW
      have iv' := W.step lP iv1
      have hLa : SqL K H' a xs := SqL.of (W.keep ga lP ha)
      have hLb : SqL K H' b ys := SqL.of (W.keep gb lP hb2)
      by_cases hk : k < min ds.length es.length
      · have hx : xs[k]? = some (xs[k]'(by omega)) := List.getElem?_eq_getElem (by omega)
        have hy : ys[k]? = some (ys[k]'(by omega)) := List.getElem?_eq_getElem (by omega)
        have hd1 : ds[k]? = some (ds[k]'(by omega)) := List.getElem?_eq_getElem (by omega)
        have hd2 : es[k]? = some (es[k]'(by omega)) := List.getElem?_eq_getElem (by omega)
        obtain ⟨x', hx', okx⟩ := (ox.st lP).get hd1
        rw [hx] at hx'
        cases hx'
        obtain ⟨y', hy', oky⟩ := (oy.st lP).get hd2
        rw [hy] at hy'
        cases hy'
        generalize xs[k]'(by omega) = x at hx okx
        generalize ys[k]'(by omega) = y at hy oky
        refine .inr ⟨⟨_, _, _, _, hLa, hLb, hx, hy⟩, fun H2 => W.L H1 H2 ∧ H2 D = some (.lst ((List.replicate (k + 1) true).map V.bl)), fun H2 hN => ⟨m - 1, by omega, by omega, hN⟩, fun z H2 hyl => ?_⟩
        obtain ⟨T, x1, y1, rfl, nT, rfl, fx, fy⟩ := hyl
        have ex : x1 = x := by
          have h2 := fx _ hLa
          rw [hx] at h2
          exact (Option.some.inj h2).symm
        have ey : y1 = y := by
          have h2 := fy _ hLb
          rw [hy] at h2
          exact (Option.some.inj h2).symm
        subst ex ey
        have l3 : W.L H' (upd H' T (.tup [x1, y1])) := W.put iv' (W.refl _) nT
        have iv3 := W.step l3 iv'
        have e3 := env_wipe (d1 := ds[k]'(by omega)) (d2 := es[k]'(by omega)) (i := i) (j := j) (Dn.st _ l3 okx) (Dn.st _ l3 oky) (en.st (W.trans l1 (W.trans lP l3))) ne
        refine ⟨T, _, rfl, .inl (.inl upd_same), rfl, _, _, rfl, _, _, rfl, rfl, wipe2 ne, tv_yes _ _ _ iv3 e3 fun H3 l4 => ?_⟩
        refine (if_pos rfl).mpr (hb k _ _ hd1 hd2 _ H3 _ (W.step l4 iv3) (e3.st l4) fun y H4 l5 o5 => ?_)
        have eD5 := W.keep (W.fresh iv1 nD) l5 (W.keep (W.fresh iv1 nD) l4 (W.keep (W.fresh iv1 nD) l3 eD))
        refine ⟨_, eD5, ?_, W.put iv1 (W.trans lP (W.trans l3 (W.trans l4 l5))) nD, ?_⟩
        · rw [List.length_map, List.length_replicate]
          exact sl_lt (by omega)
        · rw [upd_same, show y = V.bl true from o5, List.replicate_succ', List.map_append]
          rfl
      · refine .inl ⟨⟨_, _, hLa, hLb, by omega⟩, q _ H' (W.trans l1 lP) ⟨D, rfl, W.fresh iv1 nD, ?_⟩⟩
        have e4 : k = min ds.length es.length := by omega
        rw [eD, e4]
end
end Vf

set_option Elab.async false
set_option linter.all false
set_option maxRecDepth 100000
set_option maxHeartbeats 4000000
set_option pp.maxSteps 300
namespace Vf
open PySem PySem.Spec PyProof.Rows L2
variable {W : Wd}
/-! ### a list of things in slot i, that grows: its content told by meanings, the world without it -/
structure LS (W : Wd) (i : Nat) (ds : List (Dn W)) (Ds : EnvT W) (p : Addr) (σ : L2.St) (H : Hp) : Prop where
  slot : σ[i]? = some (some (.ref p))
  F : W.F p
  ct : ∃ xs, H p = some (.lst xs) ∧ Rf xs ∧ OkL ds xs (del p H)
  inv : W.inv (del p H)
  env : EnvL Ds σ (del p H)
def NVR {ι : Type} (i : Nat) (Ds : EnvT W) (ds : List (Dn W)) (ts : TS) (E : ι → EnvT W) (R : ι → List (Dn W)) (P : ι → Prop) : Prop := ∀ (D : Ends) (σ : L2.St) (H : Hp) (p : Addr), LS W i ds Ds p σ H →
  (∀ x σ' H', P x → LS W i (R x) (E x) p σ' H' → W.L (del p H) (del p H') → D.nx σ' H') → ts D σ H
def SVR (i : Nat) (Ds : EnvT W) (ds : List (Dn W)) (ts : TS) (d : Dn W) : Prop := ∀ (D : Ends) (σ : L2.St) (H : Hp) (p : Addr), LS W i ds Ds p σ H → (∀ v H', W.L (del p H) H' → d.ok v H' → D.rt v H') → ts D σ H
theorem LS.has {i : Nat} {ds : List (Dn W)} {Ds : EnvT W} {p : Addr} {σ : L2.St} {H : Hp} (h : LS W i ds Ds p σ H) : W.L (del p H) H ∧ W.inv H ∧ EnvL (Ds.set i (some (dLD ds))) σ H := by
  obtain ⟨xs, hp, _, o⟩ := h.ct
  have l := L_del h.inv hp
  refine ⟨l, W.step l h.inv, ?_⟩
  have := EnvL.set (d := dLD ds) (v := .ref p) (i := i) ⟨p, xs, rfl, h.F, hp, o.st l⟩ (h.env.st l)
  rwa [set_id h.slot] at this
theorem LS.go {i : Nat} {ds : List (Dn W)} {Ds : EnvT W} {p : Addr} {σ : L2.St} {H H1 : Hp} (h : LS W i ds Ds p σ H) (l : W.L H H1) : LS W i ds Ds p σ H1 ∧ W.L (del p H) (del p H1) := by
  obtain ⟨xs, hp, r, o⟩ := h.ct
  have l2 := W.delL h.F l
  exact ⟨⟨h.slot, h.F, ⟨xs, W.keep h.F l hp, r, o.st l2⟩, W.step l2 h.inv, h.env.st l2⟩, l2⟩
section
variable {ι κ : Type} {Ds Es Fs : EnvT W} {d d1 d2 d3 : Dn W} {ds es : List (Dn W)} {te ta tb tl ti : TE} {t : TA} {tt : TT} {ts tu : TS} {i j l k n N : Nat} {K : PySem.W.Frag} {b : Bool} {E : ι → EnvT W} {R : ι → List (Dn W)} {P : ι → Prop} {E' : κ → EnvT W} {R' : κ → List (Dn W)} {P' : κ → Prop}
theorem nvr_seq (h : NVR i Ds ds ts E R P) (k : ∀ x, P x → NVR i (E x) (R x) tu E' R' P') : NVR i Ds ds (tSeq ts tu) E' R' P' := fun D σ H p s q =>
  h _ σ H p s fun x σ' H' px s' l => k x px D σ' H' p s' fun y σ2 H2 py s2 l2 => q y σ2 H2 py s2 (W.trans l l2)
theorem svr_seq (h : NVR i Ds ds ts E R P) (k : ∀ x, P x → SVR i (E x) (R x) tu d) : SVR i Ds ds (tSeq ts tu) d := fun D σ H p s q =>
  h _ σ H p s fun x σ' H' px s' l => k x px D σ' H' p s' fun v H2 l2 o => q v H2 (W.trans l l2) o
theorem svr_end (h : SV (Ds.set i (some (dLD ds))) ts d) : SVR i Ds ds ts d := fun D σ H p s q => by
  obtain ⟨l, iv, en⟩ := s.has
  exact h D σ H iv en fun v H' l2 o => q v H' (W.trans l l2) o
theorem nvr_setx {P : ι → Prop} {f : ι → Dn W} (h : EV (Ds.set i (some (dLD ds))) te (dEx P f)) (sp : ∀ x, Sep (f x)) (ne : j ≠ i := by decide) : NVR i Ds ds (tAsg te (gName j)) (fun x => Ds.set j (some (f x))) (fun _ => ds) P := fun D σ H p s q => by
  obtain ⟨l, iv, en⟩ := s.has
  refine h σ H _ iv en fun v H1 l1 ⟨x, px, o⟩ => ?_
  obtain ⟨s1, l2⟩ := s.go l1
  obtain ⟨xs, hp, r, ok⟩ := s1.ct
  exact q x _ H1 px ⟨by rw [List.getElem?_set_ne ne]; exact s1.slot, s1.F, ⟨xs, hp, r, ok⟩, s1.inv, s1.env.set (sp x v H1 p xs o hp r)⟩ l2
theorem nvr_set (h : EV (Ds.set i (some (dLD ds))) te d) (sp : Sep d) (ne : j ≠ i := by decide) : NVR i Ds ds (tAsg te (gName j)) (fun _ : Unit => Ds.set j (some d)) (fun _ => ds) (fun _ => True) :=
  nvr_setx (ι := Unit) (P := fun _ => True) (f := fun _ => d) (ev_ex h) (fun _ => sp) ne
theorem nvr_appendx {P : ι → Prop} {f : ι → Dn W} (h : EV (Ds.set i (some (dLD ds))) te (dEx P f)) (sp : ∀ x, Sep (f x)) (z : ds.length < 100000) : NVR i Ds ds (tDrop (tBM K "list" rAppend (tVar i) (tCons te tNil))) (fun _ => Ds) (fun x => ds ++ [f x]) P := fun D σ H p s q => by
  obtain ⟨l, iv, en⟩ := s.has
  obtain ⟨ys, hy, _, _⟩ := s.ct
  refine ⟨.ref p, s.slot, .inl ⟨rfl, _, SqL.of hy⟩, h σ H _ iv en fun v H1 l1 ⟨x, px, o⟩ => ?_⟩
  obtain ⟨s1, l2⟩ := s.go l1
  obtain ⟨xs, hp, r, ok⟩ := s1.ct
  refine ⟨p, xs, v, rfl, rfl, hp, sl_lt (by rw [ok.length]; omega), q x _ _ px ⟨s1.slot, s1.F, ⟨xs ++ [v], upd_same, ?_, ?_⟩, ?_, ?_⟩ ?_⟩
  · obtain ⟨a, zs, e⟩ := r
    exact ⟨a, zs ++ [v], by rw [e]; rfl⟩
  · rw [del_updS]
    exact OkL.app ok ⟨sp x v H1 p xs o hp r, trivial⟩
  · rw [del_updS]
    exact s1.inv
  · rw [del_updS]
    exact s1.env
  · rw [del_updS]
    exact l2
theorem nvr_append (h : EV (Ds.set i (some (dLD ds))) te d) (sp : Sep d) (z : ds.length < 100000) : NVR i Ds ds (tDrop (tBM K "list" rAppend (tVar i) (tCons te tNil))) (fun _ : Unit => Ds) (fun _ => ds ++ [d]) (fun _ => True) :=
  nvr_appendx (ι := Unit) (P := fun _ => True) (f := fun _ => d) (ev_ex h) (fun _ => sp) z
theorem nvr_ifF (h : TV (Ds.set i (some (dLD ds))) tt false) : NVR i Ds ds (tIfS tt ts tNext) (fun _ : Unit => Ds) (fun _ => ds) (fun _ => True) := fun D σ H p s q => by
  obtain ⟨l, iv, en⟩ := s.has
  refine h σ H _ iv en fun H1 l1 => ?_
  obtain ⟨s1, l2⟩ := s.go l1
  exact (if_neg Bool.false_ne_true).mpr (q () σ H1 trivial s1 l2)
theorem nvr_imp (h : NVR i Ds ds ts E R P) (f : ι → κ) (k : ∀ x, P x → P' (f x) ∧ R x = R' (f x) ∧ ∀ σ H, EnvL (E x) σ H → EnvL (E' (f x)) σ H) : NVR i Ds ds ts E' R' P' := fun D σ H p s q =>
  h D σ H p s fun x σ' H' px s' l => by
    obtain ⟨py, er, ee⟩ := k x px
    exact q (f x) σ' H' py ⟨s'.slot, s'.F, er ▸ s'.ct, s'.inv, ee _ _ s'.env⟩ l
theorem nvr_forR {ta : TA} (E : Nat → ι → EnvT W) (R : Nat → ι → List (Dn W)) (P : Nat → ι → Prop) (x0 : ι) (hl : AV (Ds.set i (some (dLD ds))) ta [dN N]) (h62 : N < 2 ^ 62) (p0 : P 0 x0) (r0 : R 0 x0 = ds) (e0 : ∀ σ H, EnvL Ds σ H → EnvL (E 0 x0) σ H)
    (hb : ∀ k, k < N → ∀ x, P k x → NVR i ((E k x).set j (some (dN k))) (R k x) ts (E (k + 1)) (R (k + 1)) (P (k + 1))) (ne : j ≠ i := by decide) : NVR i Ds ds (tFor (iRng1 ta) (gName j) ts) (E N) (R N) (P N) := fun D σ H p s q => by
  obtain ⟨l, iv, en⟩ := s.has
  refine hl σ H _ iv en fun vs H1 l1 o1 => ?_
  match vs, o1 with
  | [v], ⟨o1, _⟩ =>
    obtain ⟨s1, l2⟩ := s.go l1
    refine ⟨(N : Int), by rw [show v = V.int (N : Int) from o1], by omega, by omega, ?_⟩
    refine for_range (lo := 0) (n := (N : Int).toNat) (fun k σ' H' => ∃ x, P k x ∧ LS W i (R k x) (E k x) p σ' H' ∧ W.L (del p H) (del p H')) ⟨x0, p0, ⟨s1.slot, s1.F, r0 ▸ s1.ct, s1.inv, e0 _ _ s1.env⟩, l2⟩ (fun k σ' H' hk hP => ?_) fun σ' H' hP => ?_
    · rw [Int.toNat_natCast] at hk
      obtain ⟨x, px, sx, lx⟩ := hP
      refine hb k hk x px _ _ H' p ⟨by rw [List.getElem?_set_ne ne]; exact sx.slot, sx.F, sx.ct, sx.inv, sx.env.set (show V.int (0 + (k : Int)) = V.int (k : Int) by rw [Int.zero_add])⟩ fun y σ2 H2 py s2 l3 => ⟨y, py, s2, W.trans lx l3⟩
    · rw [Int.toNat_natCast] at hP
      obtain ⟨x, px, sx, lx⟩ := hP
      exact q x σ' H' px sx lx
/-! a list made anew, of things -/
def FR (Ds : EnvT W) (te : TE) (ds : List (Dn W)) : Prop := ∀ (σ : L2.St) (H : Hp) (Q : VK), W.inv H → EnvL Ds σ H →
  (∀ p H' xs, W.F p → H' p = some (.lst xs) → H p = none → W.L H (del p H') → OkL ds xs (del p H') → Q (.ref p) H') → te σ H Q
theorem ev_fr (h : FR Ds te ds) : EV Ds te (dLD ds) := fun σ H Q iv en q => h σ H Q iv en fun p H' xs f hp np l o => by
  have l2 := L_del (W.step l iv) hp
  exact q _ H' (W.trans l l2) ⟨p, xs, rfl, f, hp, o.st l2⟩
theorem fr_lst (h : AV Ds t ds) (hn : ds.length ≤ 100000) : FR Ds (tLst t) ds := fun σ H Q iv en q => h σ H _ iv en fun xs H1 l1 o => by
  have iv1 := W.step l1 iv
  refine ⟨Nat.le_of_lt (sl_lt (by rw [o.length]; omega)), fun p np => q p _ xs (W.fresh iv1 np) upd_same ?_ (by rw [del_upd np]; exact l1) (by rw [del_upd np]; exact o)⟩
  cases e : H p with
  | none => rfl
  | some o =>
    have := W.keep (W.fresh iv1 np) l1 e
    rw [np] at this
    cases this
theorem del_L {H H' : Hp} {p : Addr} (iv : W.inv H) (f : W.F p) (np : H p = none) (l : W.L H (del p H')) : W.inv (del p H') := W.step l iv
/-- a name for a new list, whose first item is an object -/
theorem sv_newR (h : FR Ds te ds) (rf : ∀ xs H, OkL ds xs H → Rf xs) (r : SVR i (Ds.set i none) ds tu d) (hi : Nat.ble (i + 1) Ds.n = true := by rfl) : SV Ds (tSeq (tAsg te (gName i)) tu) d := fun D σ H iv en q =>
  h σ H _ iv en fun p H' xs f hp np l o => by
    refine r D _ H' p ⟨?_, f, ⟨xs, hp, rf _ _ o, o⟩, W.step l iv, (en.st l).dropS⟩ fun v H2 l2 o2 => q v H2 (W.trans l l2) o2
    rw [List.getElem?_set_self (by rw [en.1]; exact Nat.le_of_ble_eq_true hi)]
/-- the last of three names for it -/
theorem sv_par3R (ha : EV Ds ta d1) (hb : EV Ds tb d2) (hc : FR Ds te ds) (rf : ∀ xs H, OkL ds xs H → Rf xs)
    (r : SVR l (((Ds.set i (some d1)).set j (some d2)).set l none) ds tu d) (hi : Nat.ble (l + 1) Ds.n = true := by rfl) : SV Ds (tSeq (tPar3 i j l (tCons ta (tCons tb (tCons te tNil)))) tu) d := fun D σ H iv en q =>
  ha σ H _ iv en fun x H1 l1 o1 => hb σ H1 _ (W.step l1 iv) (en.st l1) fun y H2 l2 o2 => hc σ H2 _ (W.step l2 (W.step l1 iv)) ((en.st l1).st l2) fun p H3 xs f hp np l3 o => by
    have l13 := W.trans l1 (W.trans l2 l3)
    refine ⟨x, y, .ref p, rfl, r D _ H3 p ⟨?_, f, ⟨xs, hp, rf _ _ o, o⟩, W.step l13 iv, EnvL.dropS (EnvL.set (d2.st l3 o2) (EnvL.set (d1.st (W.trans l2 l3) o1) (en.st l13)))⟩ fun v H4 l4 o4 => q v H4 (W.trans l13 l4) o4⟩
    rw [List.getElem?_set_self (by rw [List.length_set, List.length_set, en.1]; exact Nat.le_of_ble_eq_true hi)]
end
/-- a promise of a new list of things -/
def spR {ι : Type} (P : Wd → ι → Prop) (ds : (W : Wd) → ι → List (Dn W)) (us : ι → List UD) : Sp := fun vs H Q _ => ∃ (W : Wd) (i : ι), P W i ∧ W.inv H ∧ OkL (ds W i) vs H ∧
  ∀ p H' xs, W.F p → H' p = some (.lst xs) → H p = none → W.L H (del p H') → OkL (uDs (us i) W) xs (del p H') → Q (.ref p) H'
theorem fr_call {ι : Type} {Ds : EnvT W} {t : TA} {P : Wd → ι → Prop} {ds : (W : Wd) → ι → List (Dn W)} {us : ι → List UD} {i : ι} (h : P W i) (ha : AV Ds t (ds W i)) : FR Ds (tCall (spR P ds us) [] E0 t) (uDs (us i) W) := fun σ H Q iv en q =>
  ha σ H _ iv en fun xs H1 l1 o1 => by
    rw [List.append_nil]
    refine ⟨W, i, h, W.step l1 iv, o1, fun p H' ys f hp np l o => q p H' ys f hp ?_ (W.trans l1 l) o⟩
    cases e : H p with
    | none => rfl
    | some o =>
      have := W.keep f l1 e
      rw [np] at this
      cases this
theorem spR_sd {ι : Type} {P : Wd → ι → Prop} {ds : (W : Wd) → ι → List (Dn W)} {us : ι → List UD} {i : ι} (h : P W i) : SpD (spR P ds us) [] (ds W i) (dLD (uDs (us i) W)) := fun vs H Q iv o q => by
  rw [List.append_nil]
  refine ⟨W, i, h, iv, o, fun p H' xs f hp np l ok => ?_⟩
  have l2 := L_del (W.step l iv) hp
  exact q _ H' (W.trans l l2) ⟨p, xs, rfl, f, hp, ok.st l2⟩
/-- statements that hand back such a list -/
def SVRF (i : Nat) (Ds : EnvT W) (ds : List (Dn W)) (ts : TS) (es : List (Dn W)) : Prop := ∀ (D : Ends) (σ : L2.St) (H : Hp) (p : Addr), LS W i ds Ds p σ H → (∀ q H' xs, W.F q → H' q = some (.lst xs) → del p H q = none → W.L (del p H) (del q H') → OkL es xs (del q H') → D.rt (.ref q) H') → ts D σ H
def SVFR (Ds : EnvT W) (ts : TS) (es : List (Dn W)) : Prop := ∀ (D : Ends) (σ : L2.St) (H : Hp), W.inv H → EnvL Ds σ H → (∀ q H' xs, W.F q → H' q = some (.lst xs) → H q = none → W.L H (del q H') → OkL es xs (del q H') → D.rt (.ref q) H') → ts D σ H
theorem none_of {H H1 : Hp} {q : Addr} (f : W.F q) (l : W.L H H1) (n : H1 q = none) : H q = none := by
  cases e : H q with
  | none => rfl
  | some o =>
    have := W.keep f l e
    rw [n] at this
    cases this
section
variable {ι : Type} {Ds Es : EnvT W} {ds es : List (Dn W)} {te : TE} {ts tu : TS} {i : Nat} {E : ι → EnvT W} {R : ι → List (Dn W)} {P : ι → Prop}
theorem svrf_seq (h : NVR i Ds ds ts E R P) (k : ∀ x, P x → SVRF i (E x) (R x) tu es) : SVRF i Ds ds (tSeq ts tu) es := fun D σ H p s q =>
  h _ σ H p s fun x σ' H' px s' l => k x px D σ' H' p s' fun r H2 xs f hp np l2 o => q r H2 xs f hp (none_of f l np) (W.trans l l2) o
theorem svrf_ret : SVRF i Ds ds (tRet (tVar i)) ds := fun D σ H p s q => by
  obtain ⟨xs, hp, _, o⟩ := s.ct
  exact ⟨.ref p, s.slot, q p H xs s.F hp del_same (W.refl _) o⟩
theorem svfr_new (h : FR Ds te ds) (rf : ∀ xs H, OkL ds xs H → Rf xs) (r : SVRF i (Ds.set i none) ds tu es) (hi : Nat.ble (i + 1) Ds.n = true := by rfl) : SVFR Ds (tSeq (tAsg te (gName i)) tu) es := fun D σ H iv en q =>
  h σ H _ iv en fun p H' xs f hp np l o => by
    refine r D _ H' p ⟨?_, f, ⟨xs, hp, rf _ _ o, o⟩, W.step l iv, (en.st l).dropS⟩ fun r H2 ys f2 hp2 np2 l2 o2 => q r H2 ys f2 hp2 (none_of f2 l np2) (W.trans l l2) o2
    rw [List.getElem?_set_self (by rw [en.1]; exact Nat.le_of_ble_eq_true hi)]
theorem svfr_seqN (h : NV Ds ts Es) (k : SVFR Es tu es) : SVFR Ds (tSeq ts tu) es := fun D σ H iv en q =>
  h _ σ H iv en fun σ' H' l e => k D σ' H' (W.step l iv) e fun r H2 xs f hp np l2 o => q r H2 xs f hp (none_of f l np) (W.trans l l2) o
theorem svfr_ret (h : FR Ds te ds) : SVFR Ds (tRet te) ds := fun D σ H iv en q => h σ H _ iv en q
end
theorem rf_room {C : Addr} {n : Nat} {B : List Nat} {ds : List (Dn W)} : ∀ xs H, OkL ((dRoom C n B : Dn W) :: ds) xs H → Rf xs
  | x :: xs, _, ⟨⟨a, _, _, e, _⟩, _⟩ => ⟨a, xs, by rw [e]⟩
  | [], _, h => h.elim
section
variable {P : Program} {w : World} {K : PySem.W.Frag} {mg : Str → Option Value} {base : Heap} {x qual : Str} {st : Stmt} {f : Addr} {fd : FuncData} {N ps : List Str} {k : Nat}
  {ι : Type} {Pr : Wd → ι → Prop} {ds : (W : Wd) → ι → List (Dn W)} {us : ι → List UD}
theorem fn_svr (F : Fun K x qual st f fd) (S : FnScope N ps (defScope st)) (len : ∀ W i, (ds W i).length = ps.length)
    (hb : ∀ (W : Wd) (i : ι), Pr W i → ∀ (cdv : Value) (A : Around) (outer : List Env) (s : Shared) (H : Hp) (E : XK), Room k (A.deeper (envOfC qual (defScope st) s.heap.objs.size f cdv)) →
      ∃ t, PSs (cxOf CX0 P w K mg base N qual (defScope st) f cdv A outer s H E).nox (defBody st) t ∧ SVFR (envOf (ds W i) (N.length - ps.length)) t (uDs (us i) W)) : FnOk P w K mg base CX0 (k + 1) f fd ps (spR Pr ds us) := by
  refine F.ok S (fun vs H Q E h => ?_) (fun cdv A outer s H vs Q E hr h => ?_)
  · obtain ⟨W, i, _, _, o, _⟩ := h
    exact o.length.trans (len W i)
  · obtain ⟨W, i, p, iv, o, q⟩ := h
    obtain ⟨t, ht, sv⟩ := hb W i p cdv A outer s H E hr
    refine ⟨t, ht, sv _ _ H iv ?_ q⟩
    have l := o.length.trans (len W i)
    unfold L2.start
    rw [l]
    exact EnvL.start o
end
end Vf

set_option Elab.async false
set_option linter.all false
set_option maxRecDepth 100000
set_option maxHeartbeats 4000000
set_option pp.maxSteps 300
namespace Vf
open PySem PySem.Spec PyProof.Rows L2
variable {W : Wd}
/-! ### lists of rooms of as many places -/
def uR (C : Addr) (n : Nat) (l : List (List Nat)) : List UD := l.map (uRoom C n)
abbrev rD (W : Wd) (C : Addr) (n : Nat) (l : List (List Nat)) : List (Dn W) := uDs (uR C n l) W
section
variable {C : Addr} {n k : Nat} {l m : List (List Nat)} {A B D : List Nat}
theorem rD_len : (rD W C n l).length = l.length := by
  unfold rD uDs uR
  rw [List.length_map, List.length_map]
theorem rD_at : (rD W C n l)[k]? = (l[k]?).map fun D => dRoom C n D := by
  unfold rD uDs uR
  rw [List.getElem?_map, List.getElem?_map]
  cases l[k]? <;> rfl
theorem rD_get (h : l[k]? = some D) : (rD W C n l)[k]? = some (dRoom C n D) := by
  rw [rD_at, h]
  rfl
theorem rD_inv {d : Dn W} (h : (rD W C n l)[k]? = some d) : ∃ D, l[k]? = some D ∧ d = dRoom C n D := by
  rw [rD_at] at h
  cases e : l[k]? with
  | none =>
    rw [e] at h
    cases h
  | some D =>
    rw [e] at h
    cases h
    exact ⟨D, rfl, rfl⟩
theorem rD_mem {d : Dn W} (h : d ∈ rD W C n l) : ∃ D ∈ l, d = dRoom C n D := by
  obtain ⟨k, hk⟩ := List.getElem?_of_mem h
  obtain ⟨D, hD, e⟩ := rD_inv hk
  exact ⟨D, List.mem_of_getElem? hD, e⟩
theorem rD_app : rD W C n (l ++ m) = rD W C n l ++ rD W C n m := by
  unfold rD uDs uR
  rw [List.map_append, List.map_append]
theorem rD_drop : rD W C n (l.drop k) = (rD W C n l).drop k := by
  unfold rD uDs uR
  rw [List.map_drop, List.map_drop]
theorem rD_rev : rD W C n l.reverse = (rD W C n l).reverse := by
  unfold rD uDs uR
  rw [List.map_reverse, List.map_reverse]
theorem rD_map {f : List Nat → List Nat} {m : Nat} {g : UD → UD} (h : ∀ D ∈ l, g (uRoom C n D) = uRoom C m (f D)) : uDs ((uR C n l).map g) W = rD W C m (l.map f) := by
  unfold rD uDs uR
  rw [List.map_map, List.map_map]
  rw [List.map_map, List.map_map]
  refine List.map_congr_left fun D hD => ?_
  show (g (uRoom C n D)).f W = _
  rw [h D hD]
  rfl
/-! ### chains of the program -/
theorem call_isiS {X : Cx} (K : PySem.W.Frag) (h : X.K = K := by rfl) : CallR X (.builtin "isinstance") (rIsi K) := h ▸ call_isi
theorem sd_is_listD {ds : List (Dn W)} : SpD (W := W) sp_is_list [] [dLD ds] (dB true) := fun vs H Q iv o q => by
  match vs, o with
  | [u], ⟨⟨a, xs, e, g, h, o⟩, _⟩ =>
    subst e
    exact ⟨a, xs, rfl, .inl h, fun H' s => q _ H' (W.same s) rfl⟩
structure LacP (i : Nat × List Nat × List Nat) : Prop where
  pos : 0 < (i.2.2.filter fun b => !decide (restOf b i.2.1 = 0)).length
noncomputable def sp_lacking_base (C : Addr) : Sp := spW (ι := Nat × List Nat × List Nat) (fun _ i => LacP i) (fun _ i => [dRoom C i.1 i.2.1, dRoom C i.1 i.2.2]) fun _ i => dN (lackF i.2.1 i.2.2)
theorem sd_lacking_base (h : 0 < (B.filter fun b => !decide (restOf b A = 0)).length) : SpD (sp_lacking_base C) [] [(dRoom C n A : Dn W), dRoom C n B] (dN (lackF A B)) := spW_sd (i := (n, A, B)) ⟨h⟩
structure StpP (i : Nat × List Nat × List Nat) : Prop where
  pos : 0 < (i.2.2.filter fun b => !decide (restOf b i.2.1 = 0)).length
  lt : lackF i.2.1 i.2.2 < 2 ^ i.1
noncomputable def sp_step (C : Addr) : Sp := spW (ι := Nat × List Nat × List Nat) (fun _ i => StpP i) (fun _ i => [dRoom C i.1 i.2.1, dRoom C i.1 i.2.2]) fun _ i => dRoom C i.1 (nbB i.1 i.2.1 (lackF i.2.1 i.2.2))
theorem sd_step (h : 0 < (B.filter fun b => !decide (restOf b A = 0)).length) (h2 : lackF A B < 2 ^ n) : SpD (sp_step C) [] [(dRoom C n A : Dn W), dRoom C n B] (dRoom C n (nbB n A (lackF A B))) := spW_sd (i := (n, A, B)) ⟨h, h2⟩
noncomputable def sp_chain (C : Addr) : Sp := spR (ι := Nat × List Nat × List Nat) (fun _ i => OwnF i.1 i.2.1 ∧ OwnF i.1 i.2.2) (fun _ i => [dRoom C i.1 i.2.1, dRoom C i.1 i.2.2]) fun i => uR C i.1 (chL i.1 i.2.1 i.2.2)
theorem sd_chain (hA : OwnF n A) (hB : OwnF n B) : SpD (sp_chain C) [] [(dRoom C n A : Dn W), dRoom C n B] (dLD (rD W C n (chL n A B))) := spR_sd (i := (n, A, B)) ⟨hA, hB⟩
theorem fr_chain {Ds : EnvT W} {t : TA} (hA : OwnF n A) (hB : OwnF n B) (ha : AV Ds t [dRoom C n A, dRoom C n B]) : FR Ds (tCall (sp_chain C) [] E0 t) (rD W C n (chL n A B)) := fr_call (i := (n, A, B)) ⟨hA, hB⟩ ha
def sp_is_own_of (C : Addr) : Sp := spW (ι := Nat × List Nat) (fun _ i => OwnF i.1 i.2) (fun _ i => [dN i.1, dRoom C i.1 i.2]) fun _ _ => dB true
theorem sd_is_own_of (h : OwnF n B) : SpD (sp_is_own_of C) [] [(dN n : Dn W), dRoom C n B] (dB true) := spW_sd (i := (n, B)) h
structure IchP (i : Nat × List Nat × List Nat × List (List Nat)) : Prop where
  hA : OwnF i.1 i.2.1
  hB : OwnF i.1 i.2.2.1
  ch : IsCh i.1 i.2.1 i.2.2.1 i.2.2.2
noncomputable def sp_is_chain (C : Addr) : Sp := spW (ι := Nat × List Nat × List Nat × List (List Nat)) (fun _ i => IchP i) (fun W i => [dRoom C i.1 i.2.1, dRoom C i.1 i.2.2.1, dLD (rD W C i.1 i.2.2.2)]) fun _ _ => dB true
theorem sd_is_chain (hA : OwnF n A) (hB : OwnF n B) (ch : IsCh n A B l) : SpD (sp_is_chain C) [] [(dRoom C n A : Dn W), dRoom C n B, dLD (rD W C n l)] (dB true) := spW_sd (i := (n, A, B, l)) ⟨hA, hB, ch⟩
theorem chL_step : rD W C n ((List.range (k + 1)).map (chB n A B)) ++ [dRoom C n (chB n A B (k + 1))] = rD W C n ((List.range (k + 1 + 1)).map (chB n A B)) := by
  rw [List.range_succ (n := k + 1), List.map_append, rD_app]
  rfl
theorem chL_last : (rD W C n ((List.range (k + 1)).map (chB n A B)))[(rD W C n ((List.range (k + 1)).map (chB n A B))).length - 1]? = some (dRoom C n (chB n A B k)) := by
  refine rD_get ?_
  rw [rD_len, List.length_map, List.length_range, Nat.add_sub_cancel, List.getElem?_map, List.getElem?_range (by omega)]
  rfl
end
/-! ### == of lists of rooms that are equal -/
def Req (C : Addr) (a b : Addr) (H : Hp) : Prop := ∃ n B, RoomAt C H a n B ∧ RoomAt C H b n B
theorem at_ext {C a : Addr} {n : Nat} {B : List Nat} {H H' : Hp} (e : Ext H H') (h : RoomAt C H a n B) : RoomAt C H' a n B := by
  obtain ⟨dx, b, h1, h2, r⟩ := h
  exact ⟨dx, b, e _ _ h1, e _ _ h2, r⟩
section
variable {X : Cx} {C : Addr} {k : Nat}
theorem op_eqLR (Ec : EqC X.prog X.w X.K X.mg X.base C k (sp_eq X.K C)) (hr : Room (k + 1) X.A) : OpR X (compareOp .Eq) (rEqG (DList (DIns C (Req C)))) := by
  obtain ⟨f, fd, F, hs, hf, b, _, _⟩ := Ec
  have F2 : FnOk X.prog X.w X.K X.mg X.base CX0 k f fd ["self", "other"] (spEq (Req C)) := F.imp fun vs H Q E h => by
    obtain ⟨x, y, rfl, ⟨n, B, h1, h2⟩, q⟩ := h
    refine ⟨x, n, B, .ref y, rfl, h1, .inl ⟨y, n, B, rfl, h2, ?_⟩⟩
    rw [decide_eq_true (⟨rfl, rfl⟩ : n = n ∧ B = B)]
    exact q H Ext.rfl'
  exact op_eqG (rcG_list (mon_ins fun a b H H' e ⟨n, B, h1, h2⟩ => ⟨n, B, at_ext e h1, at_ext e h2⟩) (eqG_ins (E := E0) F2 hs hf b pass0)) hr
theorem prs_rooms {n : Nat} {H : Hp} : ∀ {l : List (List Nat)} {xs ys : List V}, OkL (rD W C n l) xs H → OkL (rD W C n l) ys H → Prs (DIns C (Req C)) xs ys H
  | [], [], [], _, _ => Prs.nil
  | D :: l, x :: xs, y :: ys, ⟨o1, r1⟩, ⟨o2, r2⟩ => by
    refine Prs.cons ?_ (prs_rooms (l := l) r1 r2)
    obtain ⟨a, dx, b, e, _, _, h1, h2, f⟩ := o1
    obtain ⟨a2, dx2, b2, e2, _, _, h12, h22, f2⟩ := o2
    exact ⟨a, a2, dx, dx2, _, _, e, e2, h1, h12, n, D, ⟨dx, b, h1, h2, f.pl, f.n1, f.n24, f.lt⟩, ⟨dx2, b2, h12, h22, f.pl, f.n1, f.n24, f.lt⟩⟩
  | [], _ :: _, _, h, _ => h.elim
  | [], [], _ :: _, _, h => h.elim
  | _ :: _, [], _, h, _ => h.elim
  | _ :: _, _ :: _, [], _, h => h.elim
theorem od_eqLR {n : Nat} {l : List (List Nat)} : OpD (W := W) (rEqG (DList (DIns C (Req C)))) (dLD (rD W C n l)) (dLD (rD W C n l)) (dB true) := fun u v H Q iv ⟨a, xs, e1, g1, h1, o1⟩ ⟨b, ys, e2, g2, h2, o2⟩ q =>
  ⟨⟨a, b, xs, ys, e1, e2, h1, h2, prs_rooms o1 o2⟩, fun H' e => q _ H' (W.same fun x o h => e x o h) rfl⟩
end
/-! ### a new list that is read first and changed later -/
def dAt (p : Addr) (ds : List (Dn W)) : Dn W := ⟨fun v H => v = .ref p ∧ W.F p ∧ ∃ xs, H p = some (.lst xs) ∧ OkL ds xs H, fun l ⟨e, f, xs, h, o⟩ => ⟨e, f, xs, W.keep f l h, o.st l⟩⟩
theorem ev_at {Ds : EnvT W} {te : TE} {p : Addr} {ds : List (Dn W)} (h : EV Ds te (dAt p ds)) : EV Ds te (dLD ds) := ev_wk h fun v H ⟨e, f, xs, hp, o⟩ => ⟨p, xs, e, f, hp, o⟩
def SVP (p : Addr) (Ds : EnvT W) (ts : TS) (d : Dn W) : Prop := W.F p → ∀ (D : Ends) (σ : L2.St) (H : Hp), W.inv H → EnvL Ds σ H → (∀ v H', W.L (del p H) H' → d.ok v H' → D.rt v H') → ts D σ H
section
variable {Ds Es : EnvT W} {d d1 : Dn W} {ds : List (Dn W)} {ts tu : TS} {ta te : TE} {p : Addr} {i j : Nat}
theorem svp_seq (h : NV Ds ts Es) (k : SVP p Es tu d) : SVP p Ds (tSeq ts tu) d := fun f D σ H iv en q =>
  h { D with nx := tu D } σ H iv en fun σ' H' l e => k f D σ' H' (W.step l iv) e fun v H2 l2 o => q v H2 (W.trans (W.delL f l) l2) o
theorem sv_parP (ha : EV Ds ta d1) (hc : FR Ds te ds) (k : ∀ p, SVP p ((Ds.set i (some d1)).set j (some (dAt p ds))) tu d) : SV Ds (tSeq (tPar i j (tCons ta (tCons te tNil))) tu) d := fun D σ H iv en q =>
  ha σ H _ iv en fun x H1 l1 o1 => hc σ H1 _ (W.step l1 iv) (en.st l1) fun p H2 xs f hp np l2 o => by
    have l12 := W.trans l1 l2
    have iv2 := W.step l12 iv
    have lp := L_del iv2 hp
    exact ⟨x, .ref p, rfl, k p f D _ H2 (W.step lp iv2) (EnvL.set (d := dAt p ds) ⟨rfl, f, xs, hp, o.st lp⟩ (EnvL.set (d1.st lp (d1.st l2 o1)) ((en.st l12).st lp))) fun v H3 l3 o3 => q v H3 (W.trans l12 l3) o3⟩
def SepE (l : List (Nat × Dn W)) : Prop := ∀ i d, getE l i = some d → Sep d
theorem sepE_nil : SepE ([] : List (Nat × Dn W)) := fun _ _ h => by cases h
theorem sepE_cons {j : Nat} {d : Dn W} {l : List (Nat × Dn W)} (h : Sep d) (r : SepE l) : SepE ((j, d) :: l) := fun i d' e => by
  have e : (bif Nat.beq j i then some d else getE l i) = some d' := e
  cases c : Nat.beq j i with
  | true =>
    rw [c] at e
    have e : some d = some d' := e
    cases e
    exact h
  | false =>
    rw [c] at e
    exact r i d' e
theorem sep_ok {H : Hp} {p : Addr} {xs : List V} (hp : H p = some (.lst xs)) (rf : Rf xs) : ∀ {ds : List (Dn W)} {ys : List V}, (∀ d ∈ ds, Sep d) → OkL ds ys H → OkL ds ys (del p H)
  | [], [], _, _ => trivial
  | d :: ds, y :: ys, s, ⟨o, r⟩ => ⟨s d List.mem_cons_self y H p xs o hp rf, sep_ok hp rf (fun d h => s d (List.mem_cons_of_mem _ h)) r⟩
  | [], _ :: _, _, h => h.elim
  | _ :: _, [], _, h => h.elim
theorem svp_open (Es : EnvT W) (g : Ds.get i = some (dAt p ds)) (e : ∀ σ H, EnvL Ds σ H → EnvL Es σ H) (sp : SepE Es.l) (sd : ∀ d ∈ ds, Sep d) (rf : ∀ xs H, OkL ds xs H → Rf xs) (k : SVR i Es ds ts d) (hi : Nat.ble (i + 1) Ds.n = true := by rfl) : SVP p Ds ts d := fun f D σ H iv en q => by
  obtain ⟨v, ev, ex, _, xs, hp, o⟩ := en.get g hi
  subst ex
  have r := rf xs H o
  have en2 := e σ H en
  refine k D σ H p ⟨ev, f, ⟨xs, hp, r, sep_ok hp r sd o⟩, W.delI f iv, en2.1, fun j d' ge lt => ?_⟩ q
  obtain ⟨u, eu, ou⟩ := en2.2 j d' ge lt
  exact ⟨u, eu, sp j d' ge u H p xs ou hp r⟩
end
theorem sep_rD {C : Addr} {n : Nat} {l : List (List Nat)} : ∀ d ∈ rD W C n l, Sep d := fun d h => by
  obtain ⟨D, _, rfl⟩ := rD_mem h
  exact sep_room
theorem rf_rD {C : Addr} {n : Nat} {l : List (List Nat)} (h : 0 < l.length) : ∀ xs H, OkL (rD W C n l) xs H → Rf xs := by
  cases l with
  | nil => cases h
  | cons D l => exact rf_room
end Vf

set_option Elab.async false
set_option linter.all false
set_option maxRecDepth 100000
set_option maxHeartbeats 4000000
set_option pp.maxSteps 300
namespace Vf
open PySem PySem.Spec PyProof.Rows L2
variable {W : Wd}
theorem inV_is (a : Int) (l : List Int) : inV (.int a) (l.map V.int) = decide (a ∈ l) := by
  unfold inV
  rw [List.any_map, Bool.eq_iff_iff, List.any_eq_true, decide_eq_true_iff]
  constructor
  · rintro ⟨x, hx, e⟩
    have e2 : x = a := beq_iff_eq.mp e
    exact e2 ▸ hx
  · intro h
    exact ⟨a, h, beq_self_eq_true a⟩
theorem flatV_is (l : List Int) : (l.map V.int).all flatV = true := by
  rw [List.all_eq_true]
  intro x hx
  obtain ⟨i, _, rfl⟩ := List.mem_map.mp hx
  rfl
theorem od_inIs {K : PySem.W.Frag} {a : Int} {l : List Int} : OpD (W := W) (rIn K false) (dI a) (dIs l) (dB (decide (a ∈ l))) := fun u v H Q iv e1 ⟨b, e2, g2, h2⟩ k => by
  subst e2
  rw [show u = V.int a from e1]
  refine ⟨b, _, rfl, .inl (SqL.of h2), rfl, flatV_is l, ?_⟩
  rw [if_neg (by simp), inV_is]
  exact k _ H (W.refl H) rfl
theorem od_ninIs {K : PySem.W.Frag} {a : Int} {l : List Int} : OpD (W := W) (rIn K true) (dI a) (dIs l) (dB (!decide (a ∈ l))) := fun u v H Q iv e1 ⟨b, e2, g2, h2⟩ k => by
  subst e2
  rw [show u = V.int a from e1]
  refine ⟨b, _, rfl, .inl (SqL.of h2), rfl, flatV_is l, ?_⟩
  rw [if_pos rfl, inV_is]
  exact k _ H (W.refl H) rfl
section
variable {Ds : EnvT W} {d d1 d2 : Dn W} {ds : List (Dn W)} {ta tb te : TE} {tu : TS} {i j l : Nat} {K : PySem.W.Frag}
/-- the last of three names for a new list, by a tuple -/
theorem sv_unp3R (ha : EV Ds ta d1) (hb : EV Ds tb d2) (hc : FR Ds te ds) (rf : ∀ xs H, OkL ds xs H → Rf xs)
    (r : SVR l (((Ds.set i (some d1)).set j (some d2)).set l none) ds tu d) (hi : Nat.ble (l + 1) Ds.n = true := by rfl) :
    SV Ds (tSeq (tAsg (tTup (tCons ta (tCons tb (tCons te tNil)))) (gTup K 3 (gCons (gName i) (gCons (gName j) (gCons (gName l) gNil))))) tu) d := fun D σ H iv en q =>
  ha σ H _ iv en fun x H1 l1 o1 => hb σ H1 _ (W.step l1 iv) (en.st l1) fun y H2 l2 o2 => hc σ H2 _ (W.step l2 (W.step l1 iv)) ((en.st l1).st l2) fun p H3 xs f hp np l3 o => by
    have l13 := W.trans l1 (W.trans l2 l3)
    have iv3 := W.step l13 iv
    refine ⟨by show 3 ≤ sizeLine; decide, fun T nT => ?_⟩
    have nTp : T ≠ p := fun z => by
      subst z
      rw [nT] at hp
      cases hp
    have nTd : del p H3 T = none := by rw [del_ne nTp]; exact nT
    have LT : W.L (del p H3) (upd (del p H3) T (.tup [x, y, .ref p])) := W.put iv3 (W.refl _) nTd
    have ed : del p (upd H3 T (.tup [x, y, .ref p])) = upd (del p H3) T (.tup [x, y, .ref p]) := del_upd_ne nTp
    refine ⟨T, _, rfl, .inl (.inl upd_same), rfl, _, _, rfl, _, _, rfl, _, _, rfl, rfl, ?_⟩
    refine r D _ _ p ⟨?_, f, ⟨xs, by rw [upd_ne (Ne.symm nTp)]; exact hp, rf _ _ o, by rw [ed]; exact o.st LT⟩, by rw [ed]; exact W.step LT iv3, ?_⟩ fun v H4 l4 o4 => q v H4 (W.trans l13 (W.trans LT (ed ▸ l4))) o4
    · rw [List.getElem?_set_self (by rw [List.length_set, List.length_set, en.1]; exact Nat.le_of_ble_eq_true hi)]
    · rw [ed]
      exact EnvL.dropS (EnvL.set (d2.st LT (d2.st l3 o2)) (EnvL.set (d1.st LT (d1.st (W.trans l2 l3) o1)) (en.st (W.trans l13 LT))))
end
/-- a path of own rooms that comes nearer to B by one with each step -/
structure PathP (n : Nat) (A B : List Nat) (k : Nat) (x : List (List Nat) × List Nat) : Prop where
  o : OwnF n x.2
  own : ∀ D ∈ x.1, OwnF n D
  len : x.1.length = k + 1
  hd : x.1[0]? = some A
  lst : x.1[k]? = some x.2
  nx : ∀ i X Y, x.1[i]? = some X → x.1[i + 1]? = some Y → distB n X Y = 1
  d : distB n x.2 B + k = distB n A B
theorem PathP.zero {n : Nat} {A B : List Nat} (hA : OwnF n A) : PathP n A B 0 ([A], A) := ⟨hA, fun D h => by rw [List.mem_singleton.mp h]; exact hA, rfl, rfl, rfl, fun i X Y _ h => by simp at h, rfl⟩
theorem PathP.step {n k u : Nat} {A B D : List Nat} {l : List (List Nat)} (h : PathP n A B k (l, D)) (hB : OwnF n B) (hu : span B u) (nu : ¬ span D u) : PathP n A B (k + 1) (l ++ [nbB n D u], nbB n D u) := by
  have o : OwnF n D := h.o
  have len : l.length = k + 1 := h.len
  obtain ⟨o2, e2⟩ := dist_near o hB hu nu
  have d : distB n D B + k = distB n A B := h.d
  refine ⟨o2, fun X hX => (List.mem_append.mp hX).elim (h.own X) fun z => by rw [List.mem_singleton.mp z]; exact o2, by rw [List.length_append, len]; rfl, ?_, ?_, fun i X Y hX hY => ?_, by show distB n (nbB n D u) B + (k + 1) = _; omega⟩
  · show (l ++ [nbB n D u])[0]? = some A
    rw [List.getElem?_append_left (by omega)]
    exact h.hd
  · show (l ++ [nbB n D u])[k + 1]? = some (nbB n D u)
    rw [List.getElem?_append_right (by omega), len, Nat.sub_self]
    rfl
  · have hX : (l ++ [nbB n D u])[i]? = some X := hX
    have hY : (l ++ [nbB n D u])[i + 1]? = some Y := hY
    have lt := (List.getElem?_eq_some_iff.mp hY).1
    rw [List.length_append, len] at lt
    have lt : i + 1 < k + 1 + 1 := lt
    rw [List.getElem?_append_left (by omega)] at hX
    by_cases c : i + 1 < l.length
    · rw [List.getElem?_append_left c] at hY
      exact h.nx i X Y hX hY
    · have : i = k := by omega
      subst this
      rw [List.getElem?_append_right (by omega), len, Nat.sub_self] at hY
      have hY : some (nbB n D u) = some Y := hY
      cases hY
      have hl : l[i]? = some D := h.lst
      rw [hl] at hX
      cases hX
      exact dist_nb o (span_lt hB.f.lt hu) nu
theorem PathP.chain {n : Nat} {A B D : List Nat} {l : List (List Nat)} (h : PathP n A B (distB n A B) (l, D)) (hA : OwnF n A) (hB : OwnF n B) : D = B ∧ IsCh n A B l := by
  have o : OwnF n D := h.o
  have len : l.length = distB n A B + 1 := h.len
  have d : distB n D B + distB n A B = distB n A B := h.d
  have e : D = B := (dist_zero o hB).mp (by omega)
  have d12 := dist_le (B := B) hA
  subst e
  exact ⟨rfl, h.own, h.hd, by rw [len, Nat.add_sub_cancel]; exact h.lst, h.nx, by omega⟩
/-- a room made of the plain basis of its words -/
theorem ev_nroom {C : Addr} {n : Nat} {X : List Nat} {Gs : EnvT W} {t1 t2 : TE} (hX : OwnF n X) (h1 : EV Gs t1 (dN n)) (h2 : EV Gs t2 (dVs (wordsOf X))) : EV Gs (tMake C (sp_init C) [] E0 (tCons t1 (tCons (tCall sp_nplain [] E0 (tCons t2 tNil)) tNil))) (dRoom C n X) := by
  have lX := hX.len
  have n24 := hX.f.n24
  exact ev_eqD (ev_make hX.f.n1 hX.f.n24 hX.f.lt (by omega) (av_cons h1 (av_cons (ev_call (sd_nplainW hX.f.pl (by omega)) (av_cons h2 av_nil)) av_nil))) (congrArg (dRoom C n) (bas_self hX.f.pl))
theorem ty_LD {K : PySem.W.Frag} {ds : List (Dn W)} : ∀ v H, (dLD ds).ok v H → TyOf K H v (.type "list") := fun v H ⟨a, xs, e, _, h, _⟩ => by
  subst e
  exact .lst h
theorem chL_self {n : Nat} {A : List Nat} (h : OwnF n A) : chL n A A = [A] := by
  unfold chL
  rw [dist_self h.f]
  rfl
theorem rD_take {C : Addr} {n : Nat} {l : List (List Nat)} {d : Dn W} : (rD W C n l ++ [d]).take ((rD W C n l ++ [d]).length - 1) = rD W C n l := by
  rw [List.length_append]
  show (rD W C n l ++ [d]).take ((rD W C n l).length + 1 - 1) = _
  rw [Nat.add_sub_cancel, List.take_left]
theorem uDs_at {ι : Type} {l : List ι} {g : ι → UD} {k : Nat} {x : ι} (h : l[k]? = some x) : (uDs (l.map g) W)[k]? = some ((g x).f W) := by
  unfold uDs
  rw [List.getElem?_map, List.getElem?_map, h]
  rfl
end Vf

set_option Elab.async false
set_option linter.all false
set_option maxRecDepth 100000
set_option maxHeartbeats 4000000
set_option pp.maxSteps 300
namespace Vf
open PySem PySem.Spec PyProof.Rows L2
variable {W : Wd}
/-! ### own rooms exchanged, and beside one another -/
section
variable {n m w : Nat} {s A B S T : List Nat} {l : List (List Nat)}
theorem plain_eq (hX : Plain A) (hY : Plain B) (h : ∀ v, span A v ↔ span B v) : A = B := (req (n := 0) (m := 0) rfl hX hY h).2
theorem own_ex (hs : Seq n s) (h : OwnF n A) : OwnF n (bas (exB A s)) := by
  have f : RoomF n (bas (exB A s)) := ⟨bas_plain _, h.f.n1, h.f.n24, ex_ge hs A⟩
  refine own_mk f (fun a ha b hb => ?_) ?_
  · obtain ⟨x, hx, rfl⟩ := (exB_span hs a).mp (span_mem ha)
    obtain ⟨y, hy, rfl⟩ := (exB_span hs b).mp (span_mem hb)
    rw [led_par hs h.f.n24 (span_lt h.f.lt hx)]
    exact h.still x hx y hy
  · rw [exB_dim hs h.f.lt, bas_self h.f.pl]
    exact h.len
theorem dist_ex (hs : Seq n s) (hA : OwnF n A) (hB : OwnF n B) : distB n (bas (exB A s)) (bas (exB B s)) = distB n A B := by
  have e : lowB n (comB n (bas (exB A s)) (bas (exB B s))) = bas (exB (lowB n (comB n A B)) s) := plain_eq (lowB_plain _ _) (bas_plain _) fun v => ex_common hs hA.f.lt hB.f.lt v
  unfold distB
  rw [e, exB_dim hs hA.f.lt, bas_self hA.f.pl, exB_dim hs lowB_lt, bas_lowB]
theorem nb_ex (hs : Seq n s) (hA : OwnF n A) (hw : w < 2 ^ n) : bas (exB (nbB n A w) s) = nbB n (bas (exB A s)) (ledN s w) := by
  have hA2 := own_ex hs hA
  have lw := ledN_lt hs w
  have fN := nb_F hA.f hw
  refine plain_eq (bas_plain _) (nb_F hA2.f lw).pl fun v => ?_
  rw [exB_span hs, nb_span hA2.f lw]
  constructor
  · rintro ⟨a, ha, rfl⟩
    have la := span_lt fN.lt ha
    rcases (nb_span hA.f hw a).mp ha with ⟨h1, h2⟩ | ⟨h1, h2⟩
    · exact .inl ⟨(exB_span hs _).mpr ⟨a, h1, rfl⟩, by rw [led_par hs hA.f.n24 la]; exact h2⟩
    · have e : ledN s a ^^^ ledN s w = ledN s (a ^^^ w) := (ledN_lin hs.nd a w).symm
      refine .inr ⟨by rw [e]; exact (exB_span hs _).mpr ⟨_, h1, rfl⟩, ?_⟩
      rw [e, led_par hs hA.f.n24 (span_lt hA.f.lt h1)]
      exact h2
  · rintro (⟨h1, h2⟩ | ⟨h1, h2⟩)
    · obtain ⟨a, ha, rfl⟩ := (exB_span hs _).mp h1
      rw [led_par hs hA.f.n24 (span_lt hA.f.lt ha)] at h2
      exact ⟨a, (nb_span hA.f hw a).mpr (.inl ⟨ha, h2⟩), rfl⟩
    · obtain ⟨a, ha, e⟩ := (exB_span hs _).mp h1
      rw [e, led_par hs hA.f.n24 (span_lt hA.f.lt ha)] at h2
      refine ⟨a ^^^ w, (nb_span hA.f hw _).mpr (.inr ?_), ?_⟩
      · rw [Nat.xor_assoc, Nat.xor_self, Nat.xor_zero]
        exact ⟨ha, h2⟩
      · rw [ledN_lin hs.nd a w, ← e, Nat.xor_assoc, Nat.xor_self, Nat.xor_zero]
theorem lack_ex (hs : Seq n s) (hA : OwnF n A) (h : Lack n A w) : Lack n (bas (exB A s)) (ledN s w) := by
  refine ⟨ledN_lt hs w, fun k => ?_, by rw [led_par hs hA.f.n24 h.1]; exact h.2.2⟩
  obtain ⟨a, ha, e⟩ := (exB_span hs _).mp k
  have := ledN_inj hs (span_lt hA.f.lt ha) h.1 e.symm
  subst this
  exact h.2.1 ha
theorem IsCh.map {f : List Nat → List Nat} (h : IsCh n A B l) (ho : ∀ D, OwnF n D → OwnF m (f D)) (hd : ∀ X Y, OwnF n X → OwnF n Y → distB m (f X) (f Y) = distB n X Y) : IsCh m (f A) (f B) (l.map f) := by
  refine ⟨fun D hD => ?_, by rw [List.getElem?_map, h.hd]; rfl, by rw [List.length_map, List.getElem?_map, h.lst]; rfl, fun k X Y hX hY => ?_, by rw [List.length_map]; exact h.ln⟩
  · obtain ⟨X, hX, rfl⟩ := List.mem_map.mp hD
    exact ho X (h.own X hX)
  · rw [List.getElem?_map] at hX hY
    cases e1 : l[k]? with
    | none =>
      rw [e1] at hX
      cases hX
    | some X1 =>
      cases e2 : l[k + 1]? with
      | none =>
        rw [e2] at hY
        cases hY
      | some Y1 =>
        rw [e1] at hX
        rw [e2] at hY
        cases hX
        cases hY
        rw [hd X1 Y1 (h.own X1 (List.mem_of_getElem? e1)) (h.own Y1 (List.mem_of_getElem? e2))]
        exact h.nx k X1 Y1 e1 e2
theorem own_besF (hA : OwnF n A) (hS : OwnF m S) (h : n + m ≤ 24) : OwnF (n + m) (bas (besB n A S)) := by
  have := hA.f.n1
  refine ⟨⟨bas_plain _, by omega, h, bas_lt (bes_lt hA.f.lt hS.f.lt)⟩, ?_⟩
  rw [own_bes hA.f.pl hS.f.pl h hA.f.lt hS.f.lt, hA.own, hS.own]
  rfl
theorem dist_bes (hA : OwnF n A) (hB : OwnF n B) (hS : OwnF m S) (hT : OwnF m T) (h : n + m ≤ 24) : distB (n + m) (bas (besB n A S)) (bas (besB n B T)) = distB n A B + distB m S T := by
  have ltA := (own_besF hA hS h).f.lt
  have e : lowB (n + m) (comB (n + m) (bas (besB n A S)) (bas (besB n B T))) = bas (besB n (lowB n (comB n A B)) (lowB m (comB m S T))) := plain_eq (lowB_plain _ _) (bas_plain _) fun v => by
    rw [comB_span ltA, bes_span hA.f.lt, bes_span hB.f.lt, bes_span lowB_lt, comB_span hA.f.lt, comB_span hS.f.lt]
    exact ⟨fun ⟨⟨a, b⟩, c, d⟩ => ⟨⟨a, c⟩, b, d⟩, fun ⟨⟨a, c⟩, b, d⟩ => ⟨⟨a, b⟩, c, d⟩⟩
  have c1 := com_le (B := B) hA.f
  have c2 := com_le (B := T) hS.f
  unfold distB
  rw [e, bes_dim hA.f.pl hS.f.pl hA.f.lt, bes_dim (lowB_plain _ _) (lowB_plain _ _) lowB_lt]
  omega
end
/-! ### the law's own sequences -/
section
variable {p : Addr} {n w : Nat} {s l : List Nat}
structure NmxP (W : Wd) (i : Addr × List Nat) : Prop where
  hp : IsPot W i.1
  ln : i.2.length ≤ 1000
def sp_nmixed : Sp := spW (ι := Addr × List Nat) (fun W i => NmxP W i) (fun _ i => [dV (.ref i.1), dVs i.2]) fun _ i => dEx (fun l => l.Perm i.2) dVs
theorem sd_nmixed (hp : IsPot W p) (ln : l.length ≤ 1000) : SpD sp_nmixed [] [dV (.ref p), dVs l] (dEx (fun k : List Nat => k.Perm l) dVs : Dn W) := spW_sd (i := (p, l)) ⟨hp, ln⟩
structure NldP (i : Nat × Nat × List Nat) : Prop where
  n24 : i.1 ≤ 24
  lt : i.2.1 < 2 ^ i.1
  sq : Seq i.1 i.2.2
def sp_nled : Sp := spW (ι := Nat × Nat × List Nat) (fun _ i => NldP i) (fun _ i => [dN i.2.1, dVs i.2.2]) fun _ i => dN (ledN i.2.2 i.2.1)
theorem sd_nled (h : Seq n s) (n24 : n ≤ 24) (lt : w < 2 ^ n) : SpD sp_nled [] [(dN w : Dn W), dVs s] (dN (ledN s w)) := spW_sd (i := (n, w, s)) ⟨n24, lt, h⟩
theorem fl_listN {Ds : EnvT W} {te : TE} {K : PySem.W.Frag} (h : EV Ds te (dVs l)) : FL Ds (tCB (fun xs H Q => ∃ p ys, xs = [.ref p] ∧ (SqL K H p ys ∨ SqT K H p ys) ∧ ∀ l, H l = none → Q (.ref l) (upd H l (.lst ys))) (tCons te tNil)) (vs l) := fun σ H Q iv en q =>
  h σ H _ iv en fun v H1 l1 ⟨a, e, g, h1⟩ => by
    subst e
    have iv1 := W.step l1 iv
    refine ⟨a, _, rfl, .inl (SqL.of h1), fun z nz => q z _ ?_ (W.fresh iv1 nz) (by rw [del_upd nz]; exact l1) upd_same⟩
    exact none_of (W.fresh iv1 nz) l1 nz
end
theorem ev_nroomX {C : Addr} {n : Nat} {Gs : EnvT W} {t1 t2 : TE} (h1 : EV Gs t1 (dN n)) (h2 : EV Gs t2 (dEx (fun X => OwnF n X) fun X => dVs (wordsOf X))) : EV Gs (tMake C (sp_init C) [] E0 (tCons t1 (tCons (tCall sp_nplain [] E0 (tCons t2 tNil)) tNil))) (dEx (fun X => OwnF n X) fun X => dRoom C n X) :=
  ev_exw (ev_makeX (P := fun X => OwnF n X) (f := fun _ => n) (g := fun X => X) (fun X hX => ⟨hX.f.n1, hX.f.n24, hX.f.lt, by have := hX.len; have := hX.f.n24; omega⟩) (ax_consR h1 (ax_consL (ev_callX (fun X (hX : OwnF n X) => sd_nplainW hX.f.pl (by have := hX.len; have := hX.f.n24; omega)) (ax_consL h2 av_nil)) av_nil))) (fun X => X) fun X hX => ⟨hX, by rw [bas_self hX.f.pl]⟩
end Vf

set_option Elab.async false
set_option linter.all false
set_option maxRecDepth 100000
set_option maxHeartbeats 4000000
set_option pp.maxSteps 300
namespace Vf
open PySem PySem.Spec PyProof.Rows L2
variable {W : Wd}
/-! ### walks -/
def wkS (n : Nat) (l : List Nat) : List Nat := (List.range (n + 1)).map fun i => i * ([0] ++ l ++ [0]).getD i 0 + (n - i) * ([0] ++ l ++ [0]).getD (i + 2) 0
def wkL (n : Nat) : Nat → List Nat
  | 0 => [1] ++ List.replicate n 0
  | r + 1 => wkS n (wkL n r)
theorem wkL_len (n : Nat) : ∀ r, (wkL n r).length = n + 1
  | 0 => by
    show ([1] ++ List.replicate n 0).length = n + 1
    rw [List.length_append, List.length_replicate, Nat.add_comm]
    rfl
  | r + 1 => by
    show (wkS n (wkL n r)).length = n + 1
    unfold wkS
    rw [List.length_map, List.length_range]
def bnI : Nat → List Int
  | 0 => [1]
  | n + 1 => facL 1 (bnI n)
theorem bnI_pol : ∀ n, bnI n = polL (List.replicate n 1)
  | 0 => rfl
  | n + 1 => by
    show facL 1 (bnI n) = _
    rw [bnI_pol n, polL_step, List.replicate_succ]
theorem ent_bn {n i : Nat} (h : i ≤ n) : entN n 0 i = (bnI n).getD i 0 := by
  rw [bnI_pol, List.getD_eq_getElem?_getD, polL_at (by rw [List.length_replicate]; omega)]
  show polN (List.replicate 0 (-1) ++ List.replicate (n - 0) 1) i = _
  rfl
def ckW (n r : Nat) : Bool :=
  decide (((List.range (n + 1)).map fun i => (bnI n).getD i 0 * ((wkL n r).getD i 0 : Int)).sum = (n : Int) ^ r) &&
  (((List.range (n + 1)).all fun i => !(decide ((i + r) % 2 = 1) || decide (r < i)) || decide ((wkL n r).getD i 0 = 0)) &&
  ((!decide (r ≤ n) || decide ((wkL n r).getD r 0 = (List.range r).foldl (fun a k => a * (k + 1)) 1)) &&
  decide (((List.range (n + 1)).map fun i => (bnI n).getD i 0 * ((n : Int) - 2 * (i : Int)) ^ r).sum = ((wkL n r).getD 0 0 * 2 ^ n : Nat))))
theorem ckW_all : ((List.range 20).all fun n => (List.range 13).all fun r => ckW (n + 1) r) = true := by decide +kernel
theorem ckW_at {n r : Nat} (n1 : 1 ≤ n) (n20 : n ≤ 20) (r12 : r ≤ 12) : ckW n r = true := by
  have h := List.all_eq_true.mp ckW_all (n - 1) (List.mem_range.mpr (by omega))
  have h2 := List.all_eq_true.mp h r (List.mem_range.mpr (by omega))
  rwa [Nat.sub_add_cancel n1] at h2
structure WkF (n r : Nat) : Prop where
  all : ((List.range (n + 1)).map fun i => (bnI n).getD i 0 * ((wkL n r).getD i 0 : Int)).sum = (n : Int) ^ r
  off : ∀ i, i ≤ n → (i + r) % 2 = 1 ∨ r < i → (wkL n r).getD i 0 = 0
  top : r ≤ n → (wkL n r).getD r 0 = (List.range r).foldl (fun a k => a * (k + 1)) 1
  two : ((List.range (n + 1)).map fun i => (bnI n).getD i 0 * ((n : Int) - 2 * (i : Int)) ^ r).sum = ((wkL n r).getD 0 0 * 2 ^ n : Nat)
theorem wkF {n r : Nat} (n1 : 1 ≤ n) (n20 : n ≤ 20) (r12 : r ≤ 12) : WkF n r := by
  have h := ckW_at n1 n20 r12
  unfold ckW at h
  rw [Bool.and_eq_true, Bool.and_eq_true, Bool.and_eq_true, decide_eq_true_iff, List.all_eq_true, decide_eq_true_iff] at h
  obtain ⟨h1, h2, h3, h4⟩ := h
  refine ⟨h1, fun i hi o => ?_, fun le => ?_, h4⟩
  · have := h2 i (List.mem_range.mpr (by omega))
    rw [Bool.or_eq_true, decide_eq_true_iff] at this
    rcases this with k | k
    · rcases o with o | o
      · rw [decide_eq_true o] at k
        cases k
      · rw [decide_eq_true o, Bool.or_true] at k
        cases k
    · exact k
  · rw [Bool.or_eq_true, decide_eq_true_iff, decide_eq_true le] at h3
    rcases h3 with k | k
    · cases k
    · exact k
theorem wk_lt {n r i : Nat} (n1 : 1 ≤ n) (n20 : n ≤ 20) (r12 : r ≤ 12) : (wkL n r).getD 0 0 < 2 ^ 64 := by
  have : ((List.range 20).all fun n => (List.range 13).all fun r => decide ((wkL (n + 1) r).getD 0 0 < 2 ^ 64)) = true := by decide +kernel
  have h := List.all_eq_true.mp this (n - 1) (List.mem_range.mpr (by omega))
  have h2 := List.all_eq_true.mp h r (List.mem_range.mpr (by omega))
  rw [Nat.sub_add_cancel n1] at h2
  exact of_decide_eq_true h2
def waS (n : Nat) (l : List Nat) : List Nat := (List.range (2 ^ n)).map fun w => ((List.range n).map fun i => l.getD (w ^^^ 2 ^ i) 0).sum
def waL (n : Nat) : Nat → List Nat
  | 0 => [1] ++ List.replicate (2 ^ n - 1) 0
  | r + 1 => waS n (waL n r)
theorem waL_len (n : Nat) : ∀ r, (waL n r).length = 2 ^ n
  | 0 => by
    show ([1] ++ List.replicate (2 ^ n - 1) 0).length = 2 ^ n
    have := Nat.two_pow_pos n
    rw [List.length_append, List.length_replicate]
    show 1 + (2 ^ n - 1) = 2 ^ n
    omega
  | r + 1 => by
    show (waS n (waL n r)).length = 2 ^ n
    unfold waS
    rw [List.length_map, List.length_range]
theorem waL_all : ((List.range 6).all fun n => (List.range 7).all fun r => (List.range (2 ^ (n + 1))).all fun w => decide ((waL (n + 1) r).getD w 0 = (wkL (n + 1) r).getD (pc w) 0)) = true := by decide +kernel
theorem waL_at {n r w : Nat} (n1 : 1 ≤ n) (n6 : n ≤ 6) (r6 : r ≤ 6) (hw : w < 2 ^ n) : (waL n r).getD w 0 = (wkL n r).getD (pc w) 0 := by
  have h := List.all_eq_true.mp waL_all (n - 1) (List.mem_range.mpr (by omega))
  have h2 := List.all_eq_true.mp h r (List.mem_range.mpr (by omega))
  rw [Nat.sub_add_cancel n1] at h2
  exact of_decide_eq_true (List.all_eq_true.mp h2 w (List.mem_range.mpr hw))
section
variable {n r k w : Nat} {x : Int} {l : List Nat} {p : Addr}
def sp_check_power : Sp := spW (ι := Nat) (fun _ i => i ≤ 12) (fun _ i => [dN i]) fun _ _ => dV .non
theorem sd_check_power (h : r ≤ 12) : SpD sp_check_power [] [(dN r : Dn W)] (dV .non) := spW_sd (i := r) h
structure OnlP (i : Nat × List Nat) : Prop where
  n24 : i.1 ≤ 24
  len : i.2.length = i.1 + 1
def sp_one_longer : Sp := spW (ι := Nat × List Nat) (fun _ i => OnlP i) (fun _ i => [dVs i.2]) fun _ i => dVs (wkS i.1 i.2)
theorem sd_one_longer (n24 : n ≤ 24) (h : l.length = n + 1) : SpD sp_one_longer [] [(dVs l : Dn W)] (dVs (wkS n l)) := spW_sd (i := (n, l)) ⟨n24, h⟩
structure WalP (i : Nat × Nat × Nat) : Prop where
  n1 : 1 ≤ i.1
  n24 : i.1 ≤ 24
  w : i.2.1 ≤ i.1
  r : i.2.2 ≤ 12
def sp_walks : Sp := spW (ι := Nat × Nat × Nat) (fun _ i => WalP i) (fun _ i => [dN i.1, dN i.2.1, dN i.2.2]) fun _ i => dN ((wkL i.1 i.2.2).getD i.2.1 0)
theorem sd_walks (n1 : 1 ≤ n) (n24 : n ≤ 24) (hw : w ≤ n) (hr : r ≤ 12) : SpD sp_walks [] [(dN n : Dn W), dN w, dN r] (dN ((wkL n r).getD w 0)) := spW_sd (i := (n, w, r)) ⟨n1, n24, hw, hr⟩
def sp_lways : Sp := spW (ι := Nat × Nat) (fun _ i => i.1 ≤ 6 ∧ i.2 ≤ 12) (fun _ i => [dN i.1, dN i.2]) fun _ i => dVs (waL i.1 i.2)
theorem sd_lways (n6 : n ≤ 6) (hr : r ≤ 12) : SpD sp_lways [] [(dN n : Dn W), dN r] (dVs (waL n r)) := spW_sd (i := (n, r)) ⟨n6, hr⟩
structure LpiP (i : Int × Nat) : Prop where
  lt : -(2 ^ 64) < i.1 ∧ i.1 < 2 ^ 64
  k : i.2 ≤ 100
def sp_lpowI : Sp := spW (ι := Int × Nat) (fun _ i => LpiP i) (fun _ i => [dI i.1, dN i.2]) fun _ i => dI (i.1 ^ i.2)
theorem sd_lpowI (h : -(2 ^ 64) < x ∧ x < 2 ^ 64) (hk : k ≤ 100) : SpD sp_lpowI [] [(dI x : Dn W), dN k] (dI (x ^ k)) := spW_sd (i := (x, k)) ⟨h, hk⟩
def sp_lwr : Sp := spW (ι := Addr) (fun W p => IsPot W p) (fun _ p => [dV (.ref p)]) fun _ _ => dB true
theorem sd_lwr (hp : IsPot W p) : SpD sp_lwr [] [dV (.ref p)] (dB true : Dn W) := spW_sd (i := p) hp
end
/-- for i in range(a, b) -/
theorem nv_forR2 {Ds : EnvT W} {ta : TA} {ts : TS} {i a b : Nat} (E : Nat → EnvT W) (hl : AV Ds ta [dN a, dN b]) (h1 : a < 2 ^ 62) (h2 : b < 2 ^ 62) (h0 : ∀ σ H, EnvL Ds σ H → EnvL (E 0) σ H) (hb : ∀ k < b - a, NV ((E k).set i (some (dN (a + k)))) ts (E (k + 1))) :
    NV Ds (tFor (iRng2 ta) (gName i) ts) (E (b - a)) := fun D σ H iv en q =>
  hl σ H _ iv en fun vs H1 l1 o1 => by
    match vs, o1 with
    | [v, u], ⟨o1, o2, _⟩ =>
      refine ⟨(a : Int), (b : Int), by rw [show v = V.int (a : Int) from o1, show u = V.int (b : Int) from o2], ⟨by omega, by omega, by omega, by omega⟩, ?_⟩
      have en0 : ((b : Int) - (a : Int)).toNat = b - a := by omega
      rw [en0]
      refine for_range (lo := (a : Int)) (n := b - a) (fun k σ' H' => W.L H1 H' ∧ EnvL (E k) σ' H') ⟨W.refl H1, h0 _ _ (en.st l1)⟩ (fun k σ' H' hk hP => ?_) fun σ' H' hP => q σ' H' (W.trans l1 hP.1) hP.2
      have iv' := W.step hP.1 (W.step l1 iv)
      exact hb k hk _ _ H' iv' (hP.2.set (show V.int ((a : Int) + (k : Int)) = V.int ((a + k : Nat) : Int) by rw [Int.natCast_add])) fun σ2 H2 l2 e2 => ⟨W.trans hP.1 l2, e2⟩
/-- for i in range(n), with a state -/
theorem nv_forK {Ds : EnvT W} {ta : TA} {ts : TS} {i n : Nat} (E : Nat → EnvT W) (hl : AV Ds ta [dN n]) (h2 : n < 2 ^ 62) (h0 : ∀ σ H, EnvL Ds σ H → EnvL (E 0) σ H) (hb : ∀ k < n, NV ((E k).set i (some (dN k))) ts (E (k + 1))) :
    NV Ds (tFor (iRng1 ta) (gName i) ts) (E n) := fun D σ H iv en q =>
  hl σ H _ iv en fun vs H1 l1 o1 => by
    match vs, o1 with
    | [v], ⟨o1, _⟩ =>
      refine ⟨(n : Int), by rw [show v = V.int (n : Int) from o1], by omega, by omega, ?_⟩
      refine for_range (lo := 0) (n := (n : Int).toNat) (fun k σ' H' => W.L H1 H' ∧ EnvL (E k) σ' H') ⟨W.refl H1, h0 _ _ (en.st l1)⟩ (fun k σ' H' hk hP => ?_) fun σ' H' hP => ?_
      · have iv' := W.step hP.1 (W.step l1 iv)
        rw [Int.toNat_natCast] at hk
        exact hb k hk _ _ H' iv' (hP.2.set (show V.int (0 + (k : Int)) = V.int (k : Int) by rw [Int.zero_add])) fun σ2 H2 l2 e2 => ⟨W.trans hP.1 l2, e2⟩
      · rw [Int.toNat_natCast] at hP
        exact q σ' H' (W.trans l1 hP.1) hP.2
def fK (k : Nat) : Nat := (List.range k).foldl (fun a k => a * (k + 1)) 1
theorem fK_step (k : Nat) : fK (k + 1) = fK k * (k + 1) := by
  unfold fK
  rw [List.range_succ, List.foldl_append]
  rfl
theorem fK_le {k : Nat} (h : k ≤ 12) : fK k ≤ 4294967296 := by
  have : ((List.range 13).all fun k => decide (fK k ≤ 4294967296)) = true := by decide +kernel
  exact of_decide_eq_true (List.all_eq_true.mp this k (List.mem_range.mpr (by omega)))
theorem ev_lcRFB {Ds : EnvT W} {t : TA} {tt : TT} {te : TE} {n i : Nat} {p : Nat → Bool} {g : Nat → Bool} (hl : AV Ds t [dN n]) (hz : n ≤ 100000) (ht : ∀ x < n, TV (Ds.set i (some (dN x))) tt (p x)) (hb : ∀ x < n, p x = true → EV (Ds.set i (some (dN x))) te (dB (g x))) : EV Ds (tLc (iRng1 t) (gName i) tt te [i]) (dBs (((List.range n).filter p).map g)) := by
  have := ev_lcR (p := p) (g := fun x => V.bl (g x)) hl hz ht fun x hx px => hb x hx px
  unfold dBs
  rw [List.map_map]
  exact this
end Vf

set_option Elab.async false
set_option linter.all false
set_option maxRecDepth 100000
set_option maxHeartbeats 4000000
set_option pp.maxSteps 300
namespace Vf
open PySem PySem.Spec PyProof.Rows L2
variable {W : Wd}
/-! ### lists or tuples, also written ones, that are read alone -/
def dQ (K : PySem.W.Frag) (xs : List V) : Dn W := ⟨fun v H => ∃ a, v = .ref a ∧ ((∀ H', W.L H H' → SqL K H' a xs) ∨ (∀ H', W.L H H' → SqT K H' a xs)),
  fun l ⟨a, e, h⟩ => ⟨a, e, h.imp (fun h H' l' => h H' (W.trans l l')) fun h H' l' => h H' (W.trans l l')⟩⟩
/-- a list or tuple that was handed -/
def dLTx (xs : List V) : Dn W := ⟨fun v H => ∃ a, v = .ref a ∧ W.F a ∧ Sq H a xs, fun st ⟨a, e, g, h⟩ => ⟨a, e, g, h.imp (W.keep g st) (W.keep g st)⟩⟩
/-- a meaning that can be read so -/
def Qs (K : PySem.W.Frag) (xs : List V) (d : Dn W) : Prop := ∀ v H, d.ok v H → (dQ K xs : Dn W).ok v H
section
variable {Ds Es Fs : EnvT W} {cs cs1 : List (Nat × List V)} {d d1 d2 : Dn W} {te tl : TE} {t : TA} {tt : TT} {ts : TS} {i j m n : Nat} {K : PySem.W.Frag} {xs ys : List V} {b : Bool}
theorem qs_L : Qs K xs (dLst xs : Dn W) := fun v H ⟨a, e, f, h⟩ => ⟨a, e, .inl fun H' l => SqL.of (W.keep f l h)⟩
theorem qs_T : Qs K xs (dTup xs : Dn W) := fun v H ⟨a, e, f, h⟩ => ⟨a, e, .inr fun H' l => .inl (.inl (W.keep f l h))⟩
theorem qs_LT : Qs K xs (dLTx xs : Dn W) := fun v H ⟨a, e, f, h⟩ => ⟨a, e, h.elim (fun h => .inl fun H' l => SqL.of (W.keep f l h)) fun h => .inr fun H' l => .inl (.inl (W.keep f l h))⟩
theorem qs_Q : Qs K xs (dQ K xs : Dn W) := fun v H h => h
theorem ev_Q (h : EV Ds te d) (q : Qs K xs d) : EV Ds te (dQ K xs) := ev_wk h q
theorem ev_LTL (h : EV Ds te (dLst xs)) : EV Ds te (dLTx xs) := ev_wk h fun v H ⟨a, e, f, h⟩ => ⟨a, e, f, .inl h⟩
theorem ev_LTT (h : EV Ds te (dTup xs)) : EV Ds te (dLTx xs) := ev_wk h fun v H ⟨a, e, f, h⟩ => ⟨a, e, f, .inr h⟩
theorem cd_lenQ : CrD (W := W) (fun xs H Q => ∃ p ys, xs = [.ref p] ∧ (SqL K H p ys ∨ SqT K H p ys) ∧ Q (.int ys.length) H) [dQ K xs] (dN xs.length) := fun us H Q iv o q => by
  match us, o with
  | [u], ⟨⟨a, e, h⟩, _⟩ =>
    subst e
    exact ⟨a, xs, rfl, h.imp (fun h => h H (W.refl H)) fun h => h H (W.refl H), q _ H (W.refl H) rfl⟩
theorem sd_is_listX : SpD (W := W) sp_is_list [] [dLTx xs] (dB true) := fun vs H Q iv o q => by
  match vs, o with
  | [u], ⟨⟨a, e, g, h⟩, _⟩ =>
    subst e
    exact ⟨a, xs, rfl, h, fun H' s => q _ H' (W.same s) rfl⟩
end
theorem PI.or {X : Cx} {tg e : Expr} {w1 w2 : TI} (h1 : PI X tg e w1) (h2 : PI X tg e w2) : PI X tg e (fun σ H R => w1 σ H R ∨ w2 σ H R) := ⟨fun pins s σ H R I h => h.elim (h1.run pins s σ H R I) (h2.run pins s σ H R I)⟩
def iLT (K : PySem.W.Frag) (tl : TE) : TI := fun σ H R => iList K tl σ H R ∨ iTup K tl σ H R
def iEnumLT (K : PySem.W.Frag) (t : TA) : TI := fun σ H R => iEnum K t σ H R ∨ iEnumT K t σ H R
section
variable {X : Cx}
theorem pi_LT {tg l : Expr} {tl : TE} (hl : PE X l tl) : PI X tg l (iLT X.K tl) := PI.or (pi_list hl) (pi_tup hl)
theorem pi_LTS {tg l : Expr} {tl : TE} (K : PySem.W.Frag) (hl : PE X l tl) (h : X.K = K := by rfl) : PI X tg l (iLT K tl) := h ▸ pi_LT hl
theorem pi_enumLT {e : Expr} {ta : TA} {p pos tpos : Pos} {elts : List Expr} {kk : Nat} (hg : Gl X "enumerate") (hm : X.mg "enumerate" = none) (ha : PA X [e] ta) (hs : starEach [e] X.env = [(false, eval e X.env)] := by rfl) :
    PI X (.Tuple elts kk tpos) (.Call (.Name "enumerate" p) [e] [] pos) (iEnumLT X.K ta) := PI.or (pi_enum hg hm ha hs) (pi_enumT hg hm ha hs)
end
section
variable {Ds Es Fs : EnvT W} {cs cs1 : List (Nat × List V)} {d d1 d2 : Dn W} {te tl : TE} {t : TA} {tt : TT} {ts : TS} {i j m n : Nat} {K : PySem.W.Frag} {xs ys : List V} {b : Bool}
/-- a comprehension over what stands in slot j -/
theorem ev_lcQ {p : V → Bool} {g : V → V} (hj : Ds.get j = some d) (q0 : Qs K xs d) (hz : xs.length ≤ 100000) (ht : ∀ x ∈ xs, TV (Ds.set i (some (dV x))) tt (p x))
    (hb : ∀ x ∈ xs, p x = true → EV (Ds.set i (some (dV x))) te (dV (g x))) (hn : Nat.ble (j + 1) Ds.n = true := by rfl) : EV Ds (tLc (iLT K (tVar j)) (gName i) tt te [i]) (dLst ((xs.filter p).map g)) := fun σ H Q iv en q => by
  obtain ⟨v, e, o⟩ := en.get hj hn
  obtain ⟨a, ea, hq⟩ := q0 v H o
  subst ea
  have turn : ∀ (D : Addr) (nD : H D = none) (k : Nat) (x : V) (H' : Hp), xs[k]? = some x → W.L H H' ∧ H' D = some (.lst (((xs.take k).filter p).map g)) → wipe ((wipe σ [i]).set i (some x)) [i] = wipe σ [i] ∧
      tt ((wipe σ [i]).set i (some x)) H' fun b H2 => if b = true then te ((wipe σ [i]).set i (some x)) H2 fun y H3 => ∃ ys, H3 D = some (.lst ys) ∧ ys.length < sizeLine ∧ (W.L H (upd H3 D (.lst (ys ++ [y]))) ∧ upd H3 D (.lst (ys ++ [y])) D = some (.lst (((xs.take (k + 1)).filter p).map g))) else (W.L H H2 ∧ H2 D = some (.lst (((xs.take (k + 1)).filter p).map g))) := by
    intro D nD k x H' hx hP
    obtain ⟨lP, eD⟩ := hP
    have xm := List.mem_of_getElem? hx
    have en' : EnvL (Ds.set i (some (dV x))) ((wipe σ [i]).set i (some x)) H' := env_lc rfl (en.st lP)
    have tk : (xs.take (k + 1)).filter p = (xs.take k).filter p ++ [x].filter p := by
      rw [List.take_add_one, hx, List.filter_append]
      rfl
    refine ⟨wipe_lc, ?_⟩
    refine ht x xm _ H' _ (W.step lP iv) en' fun H2 l2 => ?_
    cases hp : p x with
    | true =>
      refine (if_pos rfl).mpr (hb x xm hp _ H2 _ (W.step l2 (W.step lP iv)) (en'.st l2) fun y H3 l3 o3 => ?_)
      have eD3 := W.keep (W.fresh iv nD) l3 (W.keep (W.fresh iv nD) l2 eD)
      refine ⟨_, eD3, ?_, W.put iv (W.trans lP (W.trans l2 l3)) nD, ?_⟩
      · rw [List.length_map]
        refine sl_lt (Nat.le_trans (List.length_filter_le _ _) ?_)
        rw [List.length_take]
        omega
      · rw [upd_same, tk, List.map_append, show y = g x from o3]
        simp [hp]
    | false =>
      refine (if_neg Bool.false_ne_true).mpr ⟨W.trans lP l2, ?_⟩
      rw [W.keep (W.fresh iv nD) l2 eD, tk]
      simp [hp]
  rcases hq with hq | hq
  · refine .inl ⟨.ref a, e, a, rfl, ⟨xs, hq H (W.refl H)⟩, fun D nD => ?_⟩
    exact lc_list (K := K) (a := a) (xs := xs) (fun k H' => W.L H H' ∧ H' D = some (.lst (((xs.take k).filter p).map g))) ⟨W.put iv (W.refl H) nD, upd_same⟩ (fun k H' _ hP => hq H' hP.1) (fun k x H' hx hP => turn D nD k x H' hx hP)
      fun H' hP => q _ H' hP.1 ⟨D, rfl, W.fresh iv nD, by rw [hP.2, List.take_length]⟩
  · refine .inr ⟨.ref a, e, a, rfl, ⟨xs, hq H (W.refl H)⟩, fun D nD => ?_⟩
    exact lc_tup (K := K) (a := a) (xs := xs) (fun k H' => W.L H H' ∧ H' D = some (.lst (((xs.take k).filter p).map g))) ⟨W.put iv (W.refl H) nD, upd_same⟩ (fun k H' _ hP => hq H' hP.1) (fun k x H' hx hP => turn D nD k x H' hx hP)
      fun H' hP => q _ H' hP.1 ⟨D, rfl, W.fresh iv nD, by rw [hP.2, List.take_length]⟩
/-- for at, x in enumerate(l), l in slot m -/
theorem nvc_enumQ (E : Nat → EnvT W) (C : Nat → List (Nat × List V)) (hj : Ds.get m = some d) (q0 : Qs K xs d) (h0 : ∀ σ H, EnvL Ds σ H → EnvL (E 0) σ H) (hC : CE W cs = CE W (C 0))
    (hs : ∀ k, ((C k).all fun c => !(Nat.beq c.1 i)) = true) (hs2 : ∀ k, ((C k).all fun c => !(Nat.beq c.1 j)) = true) (hb : ∀ k x, xs[k]? = some x → NVC (((E k).set i (some (dN k))).set j (some (dV x))) (C k) ts (E (k + 1)) (C (k + 1))) (hn : Nat.ble (m + 1) Ds.n = true := by rfl) :
    NVC Ds cs (tFor (iEnumLT K (tCons (tVar m) tNil)) (gTup K 2 (gCons (gName i) (gCons (gName j) gNil))) ts) (E xs.length) (C xs.length) := fun D σ H G ce iv en q => by
  obtain ⟨v, e, o⟩ := en.get hj hn
  obtain ⟨a, ea, hq⟩ := q0 v G o
  subst ea
  have body : ∀ k σ' H' G', CE W (C k) σ' H' G' → W.L G G' → EnvL (E k) σ' G' → ∀ (hk : k < xs.length) (T : Addr), H' T = none → gTup K 2 (gCons (gName i) (gCons (gName j) gNil)) (.ref T) σ' (upd H' T (.tup [.int (k : Nat), xs[k]])) fun σ2 H2 =>
      ts { D with nx := fun σ2 H2 => ∃ G2, CE W (C (k + 1)) σ2 H2 G2 ∧ W.L G G2 ∧ EnvL (E (k + 1)) σ2 G2, ct := fun σ2 H2 => ∃ G2, CE W (C (k + 1)) σ2 H2 G2 ∧ W.L G G2 ∧ EnvL (E (k + 1)) σ2 G2, bk := D.nx } σ2 H2 := by
    intro k σ' H' G' cP lP eP hk T nT
    have iv' := W.step lP iv
    have hx : xs[k]? = some xs[k] := List.getElem?_eq_getElem hk
    have l3 : W.L H' (upd H' T (.tup [.int (k : Nat), xs[k]])) := W.put (W.step (cP.up iv') iv') (W.refl H') nT
    obtain ⟨G3, c3, lG⟩ := cP.go l3
    refine ⟨T, _, rfl, .inl (.inl upd_same), rfl, _, _, rfl, _, _, rfl, rfl, ?_⟩
    exact hb k xs[k] hx _ _ _ G3 ((c3.slot (hs k)).slot (hs2 k)) (W.step lG iv') (((eP.st lG).set rfl).set rfl) fun σ2 H2 G2 c2 l2 e2 => ⟨G2, c2, W.trans lP (W.trans lG l2), e2⟩
  have upG : ∀ k σ' H' G', CE W (C k) σ' H' G' → W.L G G' → W.L G H' := fun k σ' H' G' cP lP => W.trans lP (cP.up (W.step lP iv))
  rcases hq with hq | hq
  · refine .inl ⟨.ref a, e, a, xs, rfl, hq H (ce.up iv), fun k m σ' H' => k + m = xs.length ∧ ∃ G', CE W (C k) σ' H' G' ∧ W.L G G' ∧ EnvL (E k) σ' G', ⟨xs.length, Nat.zero_add _, G, hC ▸ ce, W.refl G, h0 _ _ en⟩, fun k m σ' H' hW => ?_⟩
    obtain ⟨km, G', cP, lP, eP⟩ := hW
    have hL := hq H' (upG k σ' H' G' cP lP)
    by_cases hk : k < xs.length
    · have hx : xs[k]? = some xs[k] := List.getElem?_eq_getElem hk
      refine .inr ⟨⟨_, _, hL, hx⟩, _, fun σ2 H2 hN => ⟨m - 1, by omega, by omega, hN⟩, fun x H2 hy => ?_⟩
      obtain ⟨T, x1, rfl, nT, rfl, fx⟩ := hy
      have e1 : x1 = xs[k] := by
        have h2 : xs[k]? = some x1 := fx _ hL
        rw [hx] at h2
        exact (Option.some.inj h2).symm
      subst e1
      exact body k σ' H' G' cP lP eP hk T nT
    · have kl : k = xs.length := by omega
      subst kl
      exact .inl ⟨⟨_, hL, by omega⟩, q σ' H' G' cP lP eP⟩
  · refine .inr ⟨.ref a, e, a, xs, rfl, hq H (ce.up iv), fun k m σ' H' => k + m = xs.length ∧ ∃ G', CE W (C k) σ' H' G' ∧ W.L G G' ∧ EnvL (E k) σ' G', ⟨xs.length, Nat.zero_add _, G, hC ▸ ce, W.refl G, h0 _ _ en⟩, fun k m σ' H' hW => ?_⟩
    obtain ⟨km, G', cP, lP, eP⟩ := hW
    have hL := hq H' (upG k σ' H' G' cP lP)
    by_cases hk : k < xs.length
    · have hx : xs[k]? = some xs[k] := List.getElem?_eq_getElem hk
      refine .inr ⟨⟨_, _, hL, hx⟩, _, fun σ2 H2 hN => ⟨m - 1, by omega, by omega, hN⟩, fun x H2 hy => ?_⟩
      obtain ⟨T, x1, rfl, nT, rfl, fx⟩ := hy
      have e1 : x1 = xs[k] := by
        have h2 : xs[k]? = some x1 := fx _ hL
        rw [hx] at h2
        exact (Option.some.inj h2).symm
      subst e1
      exact body k σ' H' G' cP lP eP hk T nT
    · have kl : k = xs.length := by omega
      subst kl
      exact .inl ⟨⟨_, hL, rfl⟩, q σ' H' G' cP lP eP⟩
end
end Vf
namespace PySem
/-- a tuple's items of ints, summed by the walk of its iterator -/
theorem vf_sumTup {pr : Program} {wo : World} {B : Around} {Er : Value → Shared → Prop} {st : Shared} {tp : Addr} {ns : Array (Int × Tok)} {R : Value → Shared → Prop} (calm : B.handled = none) (ht : st.heap.IsTuple tp (intItems ns))
    (k : ∀ hp tk t', (∀ c o, st.heap.get? c = some o → hp.get? c = some o) → R (.int (preSum (numAt ns) ns.size) t') { st with heap := hp, toks := tk }) : wpAny (model pr wo) B (call (.builtin "sum") [.ref tp]) R Er st := by
  have old : tp < st.heap.objs.size := ht.elim fun _ z => Heap.lt_size z.1
  let it : Addr := st.heap.objs.size
  refine call_sum_walkG (wpAny_pyIter_tuple ht ⟨it, [it, tp], [it], ns.size, fun i v => (intItems ns)[i]? = some v, fun i hp => hp.IsTupleIter it tp i ∧ hp.IsTuple tp (intItems ns), numAt ns, rfl, ?_, ?_, ?_, fun i v z => intItems_at z, ?_⟩)
  · have W := Walks.tuple (prog := pr) (w := wo) (A := B.in1) calm it tp (Nat.ne_of_lt old) (intItems ns)
    rwa [show (intItems ns).size = ns.size by simp [intItems]] at W
  · exact ⟨⟨_, Heap.get?_push_size _ rfl, rfl, rfl⟩, ht.push _⟩
  · intro c hc
    have grown : (st.heap.push { cls := .type "tuple_iterator", data := .fields #[.ref tp, .int 0 0] }).objs.size = it + 1 := Heap.size_push ..
    show c < (st.heap.push { cls := .type "tuple_iterator", data := .fields #[.ref tp, .int 0 0] }).objs.size
    rw [grown]
    simp only [List.mem_cons, List.not_mem_nil, or_false] at hc
    rcases hc with e | e
    · rw [e]; exact Nat.lt_succ_self _
    · rw [e]; show tp < it + 1; exact Nat.lt_succ_of_lt old
  · intro hp tk t' keep
    refine k hp tk t' fun c o e => keep c o ?_ (Heap.get?_push_of_some _ e)
    simp only [List.mem_cons, List.not_mem_nil, or_false]
    intro z
    have := Heap.lt_size e
    rw [z] at this
    exact Nat.lt_irrefl _ this
end PySem
namespace Vf
open PySem PySem.Spec PyProof.Rows L2
section
variable {X : Cx}
def rSumT (K : PySem.W.Frag) : List V → Hp → VK → Prop := fun zs H Q => ∃ (tp : Addr) (l : List Int), zs = [V.ref tp] ∧ SqT K H tp (l.map V.int) ∧ Q (.int l.sum) H
theorem cr_sumT (calm : X.calm = true) : CallR X (.builtin "sum") (rSumT X.K) := by
  intro pins s σ H zs us Q I r h
  obtain ⟨tp, l, rfl, hs, q⟩ := h
  obtain ⟨its, rv, pl, _⟩ := I.tuple hs
  rw [Vals.ref1 r]
  obtain ⟨xs, e⟩ := rv.ints.allInts.items
  have sm : numsOf (intItems xs).toList = l := by
    rw [← e]
    exact rv.ints.numsOf
  rw [nums_intItems] at sm
  rw [e] at pl
  refine PySem.vf_sumTup (I.ok.hd calm) pl fun hp tk t' keep => ?_
  rw [preSum_eq, List.take_of_length_le (by simp), sm]
  exact ⟨.int _, H, I.kept keep, ⟨_, rfl⟩, q⟩
def rSumLT (K : PySem.W.Frag) : List V → Hp → VK → Prop := fun zs H Q => rSum K zs H Q ∨ rSumT K zs H Q
theorem cr_sumLT (calm : X.calm = true) : CallR X (.builtin "sum") (rSumLT X.K) := (cr_sum calm).or (cr_sumT calm)
end
theorem cd_sumQ {W : Wd} {K : PySem.W.Frag} {l : List Int} : CrD (W := W) (rSumLT K) [dQ K (l.map V.int)] (dI l.sum) := fun us H Q iv o q => by
  match us, o with
  | [u], ⟨⟨a, e, h⟩, _⟩ =>
    subst e
    exact h.imp (fun h => ⟨a, l, rfl, h H (W.refl H), q _ H (W.refl H) rfl⟩) fun h => ⟨a, l, rfl, h H (W.refl H), q _ H (W.refl H) rfl⟩
end Vf

set_option Elab.async false
set_option linter.all false
set_option maxRecDepth 100000
set_option maxHeartbeats 4000000
set_option pp.maxSteps 300
namespace Vf
open PySem PySem.Spec PyProof.Rows L2
variable {W : Wd}
/-! ### rows as lists or tuples, moments -/
def pLn : List Int → List Int
  | [] => [1]
  | e :: es => facL e (pLn es)
theorem pLn_pol : ∀ es, pLn es = polL es
  | [] => rfl
  | e :: es => by
    show facL e (pLn es) = _
    rw [pLn_pol es, polL_step]
theorem ent_pLn {n i j : Nat} (hi : i ≤ n) (hj : j ≤ n) : entN n i j = (pLn (sgI n i)).getD j 0 := by
  have ln : (sgI n i).length = n := by
    unfold sgI
    rw [List.length_append, List.length_replicate, List.length_replicate]
    omega
  rw [pLn_pol, List.getD_eq_getElem?_getD, polL_at (by omega)]
  rfl
def ckM (n r : Nat) : Bool := (List.range (n + 1)).all fun i => decide (((List.range (n + 1)).map fun j => (pLn (sgI n i)).getD j 0 * ((wkL n r).getD j 0 : Int)).sum = ((n : Int) - ((2 * i : Nat) : Int)) ^ r)
theorem ckM_all : ((List.range 8).all fun n => (List.range 13).all fun r => ckM (n + 1) r) = true := by decide +kernel
theorem pow_walk {n r i : Nat} (n1 : 1 ≤ n) (n8 : n ≤ 8) (r12 : r ≤ 12) (hi : i ≤ n) : ((List.range (n + 1)).map fun j => entN n i j * ((wkL n r).getD j 0 : Int)).sum = ((n : Int) - ((2 * i : Nat) : Int)) ^ r := by
  have h := List.all_eq_true.mp ckM_all (n - 1) (List.mem_range.mpr (by omega))
  have h2 := List.all_eq_true.mp h r (List.mem_range.mpr (by omega))
  rw [Nat.sub_add_cancel n1] at h2
  have h3 := of_decide_eq_true (List.all_eq_true.mp h2 i (List.mem_range.mpr (by omega)))
  rw [← h3]
  refine congrArg List.sum (List.map_congr_left fun j hj => ?_)
  rw [ent_pLn hi (by have := List.mem_range.mp hj; omega)]
def momN (r : List Nat) (p : Nat) : Int := ((List.range r.length).map fun k => (r.getD k 0 : Int) * (((r.length - 1 : Nat) : Int) - ((2 * k : Nat) : Int)) ^ p).sum
theorem mul_sumI (c : Int) (f : Nat → Int) : ∀ l : List Nat, c * (l.map f).sum = (l.map fun x => c * f x).sum
  | [] => Int.mul_zero c
  | x :: l => by rw [List.map_cons, List.sum_cons, Int.mul_add, mul_sumI c f l, List.map_cons, List.sum_cons]
theorem mom_chg {r d : List Nat} {p : Nat} (h : ChgP (r, d)) (l9 : r.length ≤ 9) (p12 : p ≤ 12) : momN r p = (r.sum : Int) * ((List.range r.length).map fun j => (d.getD j 0 : Int) * ((wkL (r.length - 1) p).getD j 0 : Int)).sum := by
  have l2 : 2 ≤ r.length := h.row.l2
  have ch := h.ch
  have ch : ∀ j < r.length, ((List.range r.length).map fun k => (r.getD k 0 : Int) * entN (r.length - 1) k j).sum = (r.sum : Int) * (d.getD j 0 : Int) := ch
  obtain ⟨n, hn⟩ : ∃ n, r.length = n + 1 := ⟨r.length - 1, by omega⟩
  unfold momN
  rw [hn] at ch ⊢
  rw [show n + 1 - 1 = n by omega] at ch ⊢
  have e1 : ((List.range (n + 1)).map fun k => (r.getD k 0 : Int) * ((n : Int) - ((2 * k : Nat) : Int)) ^ p) = (List.range (n + 1)).map fun k => ((List.range (n + 1)).map fun j => (r.getD k 0 : Int) * entN n k j * ((wkL n p).getD j 0 : Int)).sum := by
    refine List.map_congr_left fun k hk => ?_
    rw [← pow_walk (n := n) (r := p) (i := k) (by omega) (by omega) p12 (by have := List.mem_range.mp hk; omega), mul_sumI]
    refine congrArg List.sum (List.map_congr_left fun j _ => ?_)
    rw [Int.mul_assoc]
  rw [e1, sum_swap, mul_sumI]
  refine congrArg List.sum (List.map_congr_left fun j hj => ?_)
  rw [← Int.mul_assoc, ← ch j (List.mem_range.mp hj), Int.mul_comm, mul_sumI]
  refine congrArg List.sum (List.map_congr_left fun k _ => ?_)
  rw [Int.mul_comm]
theorem sum_cut {f : Nat → Int} {a : Nat} (z : ∀ j, a ≤ j → f j = 0) : ∀ b, ((List.range (a + b)).map f).sum = ((List.range a).map f).sum
  | 0 => rfl
  | b + 1 => by
    rw [show a + (b + 1) = a + b + 1 by omega, List.range_succ, List.map_append, List.sum_append, sum_cut z b]
    show _ + (f (a + b) + 0) = _
    rw [z _ (by omega)]
    omega
theorem wk2_all : ((List.range 8).all fun n => decide ((wkL (n + 1) 2).getD 0 0 = n + 1)) = true := by decide +kernel
/-- the first moment -/
theorem mom_one {r d : List Nat} (h : ChgP (r, d)) (l9 : r.length ≤ 9) : momN r 1 = (r.sum : Int) * (d.getD 1 0 : Int) := by
  have l2 : 2 ≤ r.length := h.row.l2
  have F := wkF (n := r.length - 1) (r := 1) (by omega) (by omega) (by omega)
  rw [mom_chg h l9 (by omega)]
  obtain ⟨b, hb⟩ : ∃ b, r.length = 2 + b := ⟨r.length - 2, by omega⟩
  have z : ∀ j, 2 ≤ j → (d.getD j 0 : Int) * ((wkL (r.length - 1) 1).getD j 0 : Int) = 0 := fun j hj => by
    by_cases c : j ≤ r.length - 1
    · rw [F.off j c (.inr (by omega))]
      exact Int.mul_zero _
    · rw [List.getD_eq_getElem?_getD (l := wkL _ _), List.getElem?_eq_none (by rw [wkL_len]; omega)]
      exact Int.mul_zero _
  have e := sum_cut z b
  rw [← hb] at e
  rw [e]
  have z0 : (wkL (r.length - 1) 1).getD 0 0 = 0 := F.off 0 (by omega) (.inl rfl)
  have z1 : (wkL (r.length - 1) 1).getD 1 0 = 1 := F.top (by omega)
  show _ * ((d.getD 0 0 : Int) * ((wkL (r.length - 1) 1).getD 0 0 : Int) + ((d.getD 1 0 : Int) * ((wkL (r.length - 1) 1).getD 1 0 : Int) + 0)) = _
  rw [z0, z1]
  congr 1
  omega
/-- the second moment -/
theorem mom_two {r d : List Nat} (h : ChgP (r, d)) (l9 : r.length ≤ 9) (d0 : d.getD 0 0 = 1) : momN r 2 = (r.sum : Int) * (((r.length - 1 : Nat) : Int) + 2 * (if 1 < r.length - 1 then (d.getD 2 0 : Int) else 0)) := by
  have l2 : 2 ≤ r.length := h.row.l2
  have F := wkF (n := r.length - 1) (r := 2) (by omega) (by omega) (by omega)
  have w0 : (wkL (r.length - 1) 2).getD 0 0 = r.length - 1 := by
    have := of_decide_eq_true (List.all_eq_true.mp wk2_all (r.length - 2) (List.mem_range.mpr (by omega)))
    rwa [show r.length - 2 + 1 = r.length - 1 by omega] at this
  have w1 : (wkL (r.length - 1) 2).getD 1 0 = 0 := F.off 1 (by omega) (.inl rfl)
  rw [mom_chg h l9 (by omega)]
  by_cases c : 1 < r.length - 1
  · rw [if_pos c]
    obtain ⟨b, hb⟩ : ∃ b, r.length = 3 + b := ⟨r.length - 3, by omega⟩
    have z : ∀ j, 3 ≤ j → (d.getD j 0 : Int) * ((wkL (r.length - 1) 2).getD j 0 : Int) = 0 := fun j hj => by
      by_cases c : j ≤ r.length - 1
      · rw [F.off j c (.inr (by omega))]
        exact Int.mul_zero _
      · rw [List.getD_eq_getElem?_getD (l := wkL _ _), List.getElem?_eq_none (by rw [wkL_len]; omega)]
        exact Int.mul_zero _
    have e := sum_cut z b
    rw [← hb] at e
    rw [e]
    have w2 : (wkL (r.length - 1) 2).getD 2 0 = 2 := F.top (by omega)
    show _ * ((d.getD 0 0 : Int) * ((wkL (r.length - 1) 2).getD 0 0 : Int) + ((d.getD 1 0 : Int) * ((wkL (r.length - 1) 2).getD 1 0 : Int) + ((d.getD 2 0 : Int) * ((wkL (r.length - 1) 2).getD 2 0 : Int) + 0))) = _
    rw [w0, w1, w2, d0]
    congr 1
    omega
  · rw [if_neg c]
    have l : r.length = 2 := by omega
    have e : ((List.range r.length).map fun j => (d.getD j 0 : Int) * ((wkL (r.length - 1) 2).getD j 0 : Int)).sum = (d.getD 0 0 : Int) * ((wkL (r.length - 1) 2).getD 0 0 : Int) + ((d.getD 1 0 : Int) * ((wkL (r.length - 1) 2).getD 1 0 : Int) + 0) := by
      rw [show List.range r.length = [0, 1] by rw [l]; rfl]
      rfl
    rw [e, w0, w1, d0]
    congr 1
    omega
theorem mom_span {n p : Nat} {L : List Nat} (h : ∀ v ∈ L, pc v ≤ n) : (L.map fun v => ((n : Int) - ((2 * pc v : Nat) : Int)) ^ p).sum = momN (rowP pc n L) p := by
  rw [sum_group (fun i => ((n : Int) - ((2 * i : Nat) : Int)) ^ p) h]
  unfold momN
  rw [rowP_len, show n + 1 - 1 = n by omega]
  refine congrArg List.sum (List.map_congr_left fun j hj => ?_)
  rw [List.getD_eq_getElem?_getD, rowP_at (by have := List.mem_range.mp hj; omega)]
  rfl
theorem mom_nought {r : List Nat} : momN r 0 = (r.sum : Int) := by
  unfold momN
  have : ∀ l : List Nat, ∀ f : Nat → Nat, (∀ k < l.length, f k = l.getD k 0) → ((List.range l.length).map fun k => (f k : Int)).sum = (l.sum : Int) := by
    intro l f hf
    have e : (List.range l.length).map f = l := by
      refine List.ext_getElem? fun i => ?_
      rw [List.getElem?_map]
      by_cases c : i < l.length
      · rw [List.getElem?_range c, List.getElem?_eq_getElem c]
        show some (f i) = _
        rw [hf i c, List.getD_eq_getElem?_getD, List.getElem?_eq_getElem c]
        rfl
      · rw [List.getElem?_eq_none (by rw [List.length_range]; omega), List.getElem?_eq_none (by omega)]
        rfl
    have e2 := sum_vs (l := (List.range l.length).map f)
    rw [List.map_map] at e2
    exact e2.trans (congrArg (fun z : List Nat => ((z.sum : Nat) : Int)) e)
  rw [← this r (fun k => r.getD k 0) fun k _ => rfl]
  refine congrArg List.sum (List.map_congr_left fun j _ => ?_)
  rw [Int.pow_zero, Int.mul_one]
section
variable {Ds Es : EnvT W} {K : PySem.W.Frag} {d : Dn W} {te tl : TE} {i j m n p : Nat} {l r : List Nat}
theorem cd_sumLT : CrD (W := W) (rSumLT K) [dLT l] (dN l.sum) := fun vs0 H Q iv o q => by
  match vs0, o with
  | [v], ⟨⟨a, e, g, h⟩, _⟩ =>
    subst e
    refine h.imp (fun h => ⟨a, (l.map fun i : Nat => (i : Int)), rfl, SqL.of (by rw [h, vs_int]), q _ H (W.refl H) (by rw [sum_vs]; rfl)⟩) fun h => ⟨a, (l.map fun i : Nat => (i : Int)), rfl, ?_, q _ H (W.refl H) (by rw [sum_vs]; rfl)⟩
    refine .inl (.inl ?_)
    rw [h, vs_int]
theorem ev_lcQB {g : Nat → Bool} (hj : Ds.get j = some d) (q0 : Qs K (vs l) d) (hz : l.length ≤ 100000) (hb : ∀ x ∈ l, EV (Ds.set i (some (dN x))) te (dB (g x))) (hn : Nat.ble (j + 1) Ds.n = true := by rfl) : EV Ds (tLc (iLT K (tVar j)) (gName i) tYes te [i]) (dBs (l.map g)) := by
  have h := ev_lcQ (K := K) (i := i) (tt := tYes) (te := te) (p := fun _ => true) (g := fun x => V.bl (g (nOf x))) hj q0 (by rw [len_vs]; exact hz) (fun x hx => tv_yes) (fun x hx _ => by
    obtain ⟨c, hc, rfl⟩ := List.mem_map.mp hx
    exact hb c hc) hn
  have e : ((vs l).filter fun _ => true) = vs l := List.filter_eq_self.mpr fun _ _ => rfl
  rw [e] at h
  unfold vs at h
  rw [List.map_map] at h
  unfold dBs
  rw [List.map_map]
  exact h
/-- [g k x for k, x in enumerate(l)], l in slot j -/
theorem ev_lcEQ {G : Nat → Int} (hj : Ds.get j = some d) (q0 : Qs K (vs l) d) (hz : l.length ≤ 100000) (ne : i ≠ m) (hb : ∀ k < l.length, EV ((Ds.set i (some (dN k))).set m (some (dN (l.getD k 0)))) te (dI (G k))) (hn : Nat.ble (j + 1) Ds.n = true := by rfl) :
    EV Ds (tLc (iEnumLT K (tCons (tVar j) tNil)) (gTup K 2 (gCons (gName i) (gCons (gName m) gNil))) tYes te [i, m]) (dIs ((List.range l.length).map G)) := fun σ H Q iv en q => by
  obtain ⟨v, e, o⟩ := en.get hj hn
  obtain ⟨a, ea, hq⟩ := q0 v H o
  subst ea
  have lx : ∀ k, (hk : k < l.length) → (vs l)[k]? = some (V.int ((l.getD k 0 : Nat) : Int)) := fun k hk => by
    unfold vs
    rw [List.getElem?_map, List.getElem?_eq_getElem hk, List.getD_eq_getElem?_getD, List.getElem?_eq_getElem hk]
    rfl
  have turn : ∀ (D : Addr) (nD : H D = none) (k : Nat) (hk : k < l.length) (H' : Hp), W.L H H' → H' D = some (.lst (((List.range k).map G).map V.int)) → ∀ T, H' T = none →
      gTup K 2 (gCons (gName i) (gCons (gName m) gNil)) (.ref T) (wipe σ [i, m]) (upd H' T (.tup [V.int (k : Nat), V.int ((l.getD k 0 : Nat) : Int)])) fun σ2 H2 => wipe σ2 [i, m] = wipe σ [i, m] ∧
        tYes σ2 H2 fun b H3 => if b = true then te σ2 H3 fun y H4 => ∃ ys, H4 D = some (.lst ys) ∧ ys.length < sizeLine ∧ (W.L H (upd H4 D (.lst (ys ++ [y]))) ∧ upd H4 D (.lst (ys ++ [y])) D = some (.lst (((List.range (k + 1)).map G).map V.int))) else (W.L H H3 ∧ H3 D = some (.lst (((List.range (k + 1)).map G).map V.int))) := by
    intro D nD k hk H' lP eD T nT
    have iv' := W.step lP iv
    have l3 : W.L H' (upd H' T (.tup [V.int (k : Nat), V.int ((l.getD k 0 : Nat) : Int)])) := W.put iv' (W.refl _) nT
    have iv3 := W.step l3 iv'
    have en3 := env_wipe (i := i) (j := m) (d1 := dN k) (d2 := dN (l.getD k 0)) rfl rfl (en.st (W.trans lP l3)) ne
    refine ⟨T, _, rfl, .inl (.inl upd_same), rfl, _, _, rfl, _, _, rfl, rfl, wipe2 ne, tv_yes _ _ _ iv3 en3 fun H3 l4 => ?_⟩
    refine (if_pos rfl).mpr (hb k hk _ H3 _ (W.step l4 iv3) (en3.st l4) fun y H4 l5 o5 => ?_)
    have eD5 := W.keep (W.fresh iv nD) l5 (W.keep (W.fresh iv nD) l4 (W.keep (W.fresh iv nD) l3 eD))
    refine ⟨_, eD5, ?_, W.put iv (W.trans lP (W.trans l3 (W.trans l4 l5))) nD, ?_⟩
    · rw [List.length_map, List.length_map, List.length_range]
      exact sl_lt (by omega)
    · rw [upd_same, show y = V.int (G k) from o5, List.range_succ, List.map_append, List.map_append]
      rfl
  rcases hq with hq | hq
  · refine .inl ⟨.ref a, e, a, _, rfl, hq H (W.refl H), fun D nD => ?_⟩
    refine ⟨fun k m H' => k + m = l.length ∧ W.L H H' ∧ H' D = some (.lst (((List.range k).map G).map V.int)), ⟨l.length, Nat.zero_add _, W.put iv (W.refl H) nD, upd_same⟩, fun k m H' hW => ?_⟩
    obtain ⟨km, lP, eD⟩ := hW
    have hL := hq H' lP
    by_cases hk : k < l.length
    · refine .inr ⟨⟨_, _, hL, lx k hk⟩, fun H2 => W.L H H2 ∧ H2 D = some (.lst (((List.range (k + 1)).map G).map V.int)), fun H2 hN => ⟨m - 1, by omega, by omega, hN⟩, fun z H2 hy => ?_⟩
      obtain ⟨T, x1, rfl, nT, rfl, fx⟩ := hy
      have e1 : x1 = V.int ((l.getD k 0 : Nat) : Int) := by
        have h2 : (vs l)[k]? = some x1 := fx _ hL
        rw [lx k hk] at h2
        exact (Option.some.inj h2).symm
      subst e1
      exact turn D nD k hk H' lP eD T nT
    · have kl : k = l.length := by omega
      subst kl
      exact .inl ⟨⟨_, hL, by rw [len_vs]; omega⟩, q _ H' lP ⟨D, rfl, W.fresh iv nD, eD⟩⟩
  · refine .inr ⟨.ref a, e, a, _, rfl, hq H (W.refl H), fun D nD => ?_⟩
    refine ⟨fun k m H' => k + m = l.length ∧ W.L H H' ∧ H' D = some (.lst (((List.range k).map G).map V.int)), ⟨l.length, Nat.zero_add _, W.put iv (W.refl H) nD, upd_same⟩, fun k m H' hW => ?_⟩
    obtain ⟨km, lP, eD⟩ := hW
    have hL := hq H' lP
    by_cases hk : k < l.length
    · refine .inr ⟨⟨_, _, hL, lx k hk⟩, fun H2 => W.L H H2 ∧ H2 D = some (.lst (((List.range (k + 1)).map G).map V.int)), fun H2 hN => ⟨m - 1, by omega, by omega, hN⟩, fun z H2 hy => ?_⟩
      obtain ⟨T, x1, rfl, nT, rfl, fx⟩ := hy
      have e1 : x1 = V.int ((l.getD k 0 : Nat) : Int) := by
        have h2 : (vs l)[k]? = some x1 := fx _ hL
        rw [lx k hk] at h2
        exact (Option.some.inj h2).symm
      subst e1
      exact turn D nD k hk H' lP eD T nT
    · have kl : k = l.length := by omega
      subst kl
      exact .inl ⟨⟨_, hL, by rw [len_vs]⟩, q _ H' lP ⟨D, rfl, W.fresh iv nD, eD⟩⟩
theorem ev_lcI {g : Nat → Int} (hl : EV Ds tl (dVs l)) (hz : l.length ≤ 100000) (hb : ∀ x ∈ l, EV (Ds.set i (some (dN x))) te (dI (g x))) : EV Ds (tLc (iList K tl) (gName i) tYes te [i]) (dIs (l.map g)) := by
  have h := ev_lcN (K := K) (i := i) (tt := tYes) (te := te) (p := fun _ => true) (g := fun x => .int (g x)) hl hz (fun x hx => tv_yes) fun x hx _ => hb x hx
  rw [filt_true] at h
  unfold dIs
  rw [List.map_map]
  exact h
theorem rt_Is {C : Addr} {l : List Int} (h : ∀ v ∈ l, v.natAbs < 2 ^ 64) (hl : l.length ≤ 1000) : RT K C (dIs l : Dn W) (PyData.list ((l.map V.int).map toD)).shown := rt_data (dd_Is l) ref_Lst (nice_is h) (by decide) (by omega)
def sp_is_rowX : Sp := spW (ι := List Nat) (fun _ r => RowP r) (fun _ r => [dLT r]) fun _ _ => dB true
theorem sd_is_rowX (h : RowP r) : SpD sp_is_rowX [] [(dLT r : Dn W)] (dB true) := spW_sd (i := r) h
def sp_check_rowX : Sp := spW (ι := List Nat) (fun _ r => RowP r) (fun _ r => [dLT r]) fun _ _ => dV .non
theorem sd_check_rowX (h : RowP r) : SpD sp_check_rowX [] [(dLT r : Dn W)] (dV .non) := spW_sd (i := r) h
structure MomP (i : List Nat × Nat) : Prop where
  row : RowP i.1
  pw : i.2 ≤ 12
def sp_moment : Sp := spW (ι := List Nat × Nat) (fun _ i => MomP i) (fun _ i => [dLT i.1, dN i.2]) fun _ i => dI (momN i.1 i.2)
theorem sd_moment (h : RowP r) (hp : p ≤ 12) : SpD sp_moment [] [(dLT r : Dn W), dN p] (dI (momN r p)) := spW_sd (i := (r, p)) ⟨h, hp⟩
end
/-! a cell that is told in part -/
section
variable {Ds : EnvT W} {te ti : TE} {tu : TS} {d : Dn W} {i : Nat}
def FLX {ι : Type} (Ds : EnvT W) (te : TE) (R : ι → Prop) (f : ι → List V) : Prop := ∀ (σ : L2.St) (H : Hp) (Q : VK), W.inv H → EnvL Ds σ H → (∀ x p H', R x → H p = none → W.F p → W.L H (del p H') → H' p = some (.lst (f x)) → Q (.ref p) H') → te σ H Q
theorem sv_cellX {ι : Type} {R : ι → Prop} {f : ι → List V} (h : FLX Ds te R f) (r : ∀ x, R x → SVC (Ds.set i none) [(i, f x)] tu d) (hi : Nat.ble (i + 1) Ds.n = true := by rfl) : SV Ds (tSeq (tAsg te (gName i)) tu) d := fun D σ H iv en q =>
  h σ H _ iv en fun x p H1 rx np fp l e =>
    r x rx D _ H1 _ ⟨p, List.getElem?_set_self (by rw [en.1]; exact Nat.le_of_ble_eq_true hi), fp, e, rfl⟩ (W.step l iv) (en.st l).dropS fun v H2 l2 o => q v H2 (W.trans l l2) o
theorem flx_cat {ι : Type} {R : ι → Prop} {f : ι → List V} {xs : List V} (h1 : EV Ds te (dLst xs)) (h2 : EV Ds ti (dEx R fun x => dLst (f x))) (hz : ∀ x, R x → xs.length + (f x).length ≤ 100000) : FLX Ds (tOp rCat te ti) R fun x => xs ++ f x := fun σ H Q iv en q => h1 σ H _ iv en fun v H1 l1 o1 => h2 σ H1 _ (W.step l1 iv) (en.st l1) fun u H2 l2 ⟨x, rx, o2⟩ => by
  have iv2 := W.step l2 (W.step l1 iv)
  have o1 := (dLst xs).st l2 o1
  obtain ⟨a, e, _, ha⟩ := o1
  obtain ⟨b, e2, _, hb⟩ := o2
  subst e e2
  exact ⟨a, b, _, _, rfl, rfl, ha, hb, Nat.le_of_lt (sl_lt (hz x rx)), fun p np => q x p _ rx (none_back iv2 (W.trans l1 l2) np) (W.fresh iv2 np) (by rw [del_upd np]; exact W.trans l1 l2) upd_same⟩
end
end Vf

set_option Elab.async false
set_option linter.all false
set_option maxRecDepth 100000
set_option maxHeartbeats 4000000
set_option pp.maxSteps 300
namespace Vf
open PySem PySem.Spec PyProof.Rows L2
variable {W : Wd}
/-! ### steps beside cells; moments of rows -/
section
variable {Ds Es Fs : EnvT W} {cs cs1 : List (Nat × List V)} {d : Dn W} {te : TE} {t : TA} {tt : TT} {ts tu : TS} {i j : Nat} {K : PySem.W.Frag} {x y : V}
theorem svc_ifR {b : Bool} (h : TV (withC Ds cs) tt b) (h1 : b = true → SVC Ds cs ts d) (h2 : b = false → SVC Ds cs tu d) : SVC Ds cs (tSeq (tIfS tt ts tNext) tu) d := fun D σ H G ce iv en q =>
  tv_run h ce iv en fun H1 G1 c1 l1 => by
    cases b with
    | true => exact h1 rfl { D with nx := tu D } σ H1 G1 c1 (W.step l1 iv) (en.st l1) fun v H2 l2 o2 => q v H2 (W.trans l1 l2) o2
    | false => exact h2 rfl D σ H1 G1 c1 (W.step l1 iv) (en.st l1) fun v H2 l2 o2 => q v H2 (W.trans l1 l2) o2
theorem nvc_unp2 (h : AV (withC Ds cs) t [dV x, dV y]) (k1 : (cs.all fun c => !(Nat.beq c.1 i)) = true := by rfl) (k2 : (cs.all fun c => !(Nat.beq c.1 j)) = true := by rfl) : NVC Ds cs (tAsg (tTup t) (gTup K 2 (gNames [i, j]))) ((Ds.set i (some (dV x))).set j (some (dV y))) cs := fun D σ H G ce iv en q =>
  ev_run (ev_tup h (by simp)) ce iv en fun v H1 G1 c1 l1 _ ⟨a, xs, e, g, h3, o1⟩ => by
    subst e
    match xs, o1 with
    | [u, w], ⟨o1, o2, _⟩ => exact ⟨a, _, rfl, .inl (.inl h3), rfl, u, _, rfl, w, _, rfl, rfl, q _ H1 G1 ((c1.slot k1).slot k2) l1 (((en.st l1).set (show (dV x : Dn W).ok u G1 from o1)).set (show (dV y : Dn W).ok w G1 from o2))⟩
end
def totN (d w : List Nat) (k : Nat) : Nat := ((List.range k).map fun j => d.getD j 0 * w.getD j 0).sum
theorem totN_step {d w : List Nat} (k : Nat) : totN d w (k + 1) = totN d w k + d.getD k 0 * w.getD k 0 := by
  unfold totN
  rw [List.range_succ, List.map_append, List.sum_append]
  rfl
theorem totN_int {d w : List Nat} : ∀ k, ((totN d w k : Nat) : Int) = ((List.range k).map fun j => (d.getD j 0 : Int) * (w.getD j 0 : Int)).sum
  | 0 => rfl
  | k + 1 => by
    rw [totN_step, Int.natCast_add, totN_int k, List.range_succ, List.map_append, List.sum_append, Int.natCast_mul]
    show _ = _ + (_ + 0)
    rw [Int.add_zero]
def dblN (s : Nat) : Nat → Nat
  | 0 => 1
  | k + 1 => if dblN s k < s then 2 * dblN s k else dblN s k
theorem dblN_all : ((List.range 65).all fun s => decide (s ≤ dblN s 6) && (List.range 7).any fun k => decide (dblN s 6 = 2 ^ k)) = true := by decide +kernel
theorem dblN_end {s : Nat} (h : s ≤ 64) : s ≤ dblN s 6 ∧ ∃ k, dblN s 6 = 2 ^ k := by
  have h1 := List.all_eq_true.mp dblN_all s (List.mem_range.mpr (by omega))
  rw [Bool.and_eq_true, decide_eq_true_iff, List.any_eq_true] at h1
  obtain ⟨a, k, _, b⟩ := h1
  exact ⟨a, k, of_decide_eq_true b⟩
theorem sum_setN : ∀ (l : List Nat) (m y : Nat), m < l.length → (l.set m y).sum + l.getD m 0 = l.sum + y
  | [], m, y, h => by simp at h
  | x :: l, 0, y, _ => by
    show y + l.sum + x = x + l.sum + y
    omega
  | x :: l, m + 1, y, h => by
    have := sum_setN l m y (by simpa using h)
    show x + (l.set m y).sum + l.getD m 0 = x + l.sum + y
    omega
theorem sum_le_mul {l : List Nat} {c : Nat} (h : ∀ v ∈ l, v ≤ c) : l.sum ≤ l.length * c := by
  induction l with
  | nil => exact Nat.zero_le _
  | cons x l ih =>
    have h1 := h x (List.mem_cons_self ..)
    have h2 := ih fun v hv => h v (List.mem_cons_of_mem _ hv)
    rw [List.sum_cons, List.length_cons, Nat.succ_mul]
    omega
theorem sum_absI {a : Nat → Nat} {g : Nat → Int} {M : Nat} (h : ∀ k, (g k).natAbs ≤ M) : ∀ l : List Nat, ((l.map fun k => (a k : Int) * g k).sum).natAbs ≤ (l.map a).sum * M
  | [] => by simp
  | x :: l => by
    have ih := sum_absI (a := a) h l
    rw [List.map_cons, List.sum_cons, List.map_cons, List.sum_cons, Nat.add_mul]
    have h1 := Int.natAbs_add_le ((a x : Int) * g x) ((l.map fun k => (a k : Int) * g k).sum)
    have h2 : ((a x : Int) * g x).natAbs ≤ a x * M := by
      rw [Int.natAbs_mul, Int.natAbs_natCast]
      exact Nat.mul_le_mul_left _ (h x)
    omega
theorem range_getD (l : List Nat) : (List.range l.length).map (fun k => l.getD k 0) = l := by
  refine List.ext_getElem? fun i => ?_
  rw [List.getElem?_map]
  by_cases c : i < l.length
  · rw [List.getElem?_range c, List.getElem?_eq_getElem c]
    show some (l.getD i 0) = _
    rw [List.getD_eq_getElem?_getD, List.getElem?_eq_getElem c]
    rfl
  · rw [List.getElem?_eq_none (by rw [List.length_range]; omega), List.getElem?_eq_none (by omega)]
    rfl
theorem sum_congrR {f g : Nat → Int} {n : Nat} (h : ∀ k < n, f k = g k) : ((List.range n).map f).sum = ((List.range n).map g).sum := congrArg List.sum (List.map_congr_left fun k hk => h k (List.mem_range.mp hk))
theorem mom_bd {r : List Nat} {p : Nat} (h : RowP r) (l9 : r.length ≤ 9) (hp : p ≤ 12) : (momN r p).natAbs < 2 ^ 64 := by
  obtain ⟨k0, sk, hk0⟩ := h.pw
  have s1 : r.sum ≤ 2 ^ 8 := by
    rw [sk]
    exact pw_le (by omega)
  have e : momN r p = ((List.range r.length).map fun k => (r.getD k 0 : Int) * (if k < r.length then (((r.length - 1 : Nat) : Int) - ((2 * k : Nat) : Int)) ^ p else 0)).sum := sum_congrR fun k hk => by rw [if_pos hk]
  rw [e]
  have := sum_absI (a := fun k => r.getD k 0) (g := fun k => if k < r.length then (((r.length - 1 : Nat) : Int) - ((2 * k : Nat) : Int)) ^ p else 0) (M := 8 ^ 12) (fun k => ?_) (List.range r.length)
  · rw [range_getD] at this
    refine Nat.lt_of_le_of_lt this (Nat.lt_of_le_of_lt (Nat.mul_le_mul_right _ s1) (by decide))
  · by_cases c : k < r.length
    · rw [if_pos c, Int.natAbs_pow]
      refine Nat.le_trans (Nat.pow_le_pow_left (m := 8) ?_ p) (Nat.pow_le_pow_right (by decide) hp)
      omega
    · rw [if_neg c]
      exact Nat.zero_le _
theorem getD_le_sum : ∀ (l : List Nat) (k : Nat), l.getD k 0 ≤ l.sum
  | [], k => Nat.zero_le _
  | x :: l, 0 => by
    show x ≤ x + l.sum
    omega
  | x :: l, k + 1 => by
    have := getD_le_sum l k
    show l.getD k 0 ≤ x + l.sum
    omega
/-- a row by its numbers alone -/
theorem row_some {t : List Nat} {m k y : Nat} (hm : t.length = m) (m1 : 1 ≤ m) (m6 : m ≤ 6) (hs : (1 :: t).sum ≤ 2 ^ k) (hk : k ≤ m) (hy : y = (1 :: t).getD m 0 + 2 ^ k - (1 :: t).sum) : RowP ((1 :: t).set m y) := by
  have ln : (1 :: t).length = m + 1 := by rw [List.length_cons, hm]
  refine ⟨by rw [List.length_set, ln]; omega, by rw [List.length_set, ln]; omega, ?_, k, ?_, by rw [List.length_set, ln]; omega⟩
  · obtain ⟨j, rfl⟩ : ∃ j, m = j + 1 := ⟨m - 1, by omega⟩
    rfl
  · have := sum_setN (1 :: t) m y (by rw [ln]; omega)
    omega
end Vf

set_option Elab.async false
set_option linter.all false
set_option maxRecDepth 100000
set_option maxHeartbeats 4000000
set_option pp.maxSteps 300
/-! ### `in` over a list of instances with their own == -/
namespace VQ
open PySem PySem.SeqAt
open AutoSeq1 (wpAny_loadPart')
open MeetsSeq MeetsSeq2 MeetsSeq3 SeqRoads2
section
variable {prog : Program} {w : World} {B0 : Around} {R : Result → Shared → Prop}
theorem in_loop (lst : Addr) (what : Value) (bs : List Bool) (J : Shared → Prop)
    (rd : ∀ s, J s → ∃ (vals : Array Value) (nn : Nat), s.heap.get? lst = some { cls := .type "list", data := .seq vals nn } ∧ vals.size = bs.length ∧ ∀ j (h : j < vals.size), wpAny (model prog w) B0.in1 (eqBool vals[j] what) (fun r s' => bs[j]? = some r ∧ J s') (fun e s' => R (.error e) s') s) (left : Nat) :
    ∀ (j : Nat) (b : Bool), bs.length - j = left → (bs.drop j).any id = b → (∀ s, J s → R (.ok (.ret (.bool b))) s) → ∀ s, J s →
      wpAny (model prog w) B0.in1 (Builtin.«list.__contains__.loop» ⟨[.ref lst, what, rawInt j], []⟩) (GQ.FinOf prog w B0 R) (fun e s' => R (.error e) s') s := by
  induction left with
  | zero =>
    intro j b hk hb fin s hJ
    obtain ⟨vals, nn, at_, sz, _⟩ := rd s hJ
    have over : bs.drop j = [] := List.drop_eq_nil_of_le (by omega)
    rw [over] at hb
    have done_ := fin s hJ
    rw [← hb] at done_
    obtain ⟨hp, g, d, tk, os⟩ := s
    wp_walk using wpAny_loadPart' at_
    have none_ : vals[((j : Nat) : Int).toNat]? = none := by simp; omega
    rw [none_]
    wp_walk
    exact done_
  | succ left ih =>
    intro j b hk hb fin s hJ
    obtain ⟨vals, nn, at_, sz, turn⟩ := rd s hJ
    have lt : j < vals.size := by omega
    have tj := turn j lt
    obtain ⟨hp, g, d, tk, os⟩ := s
    wp_walk using wpAny_loadPart' at_
    have some_ : vals[((j : Nat) : Int).toNat]? = some vals[j] := by simp [lt]
    rw [some_]
    refine wpAny_bind (wpAny_mono tj (fun r s2 h2 => ?_) fun _ _ z => z)
    obtain ⟨hr, J2⟩ := h2
    have more : bs.drop j = r :: bs.drop (j + 1) := by
      have lj : j < bs.length := by omega
      rw [List.drop_eq_getElem_cons lj]
      rw [List.getElem?_eq_getElem lj] at hr
      rw [Option.some.inj hr]
    rw [more, List.any_cons] at hb
    cases r with
    | true =>
      have done_ := fin s2 J2
      rw [← hb] at done_
      obtain ⟨hp2, g2, d2, tk2, os2⟩ := s2
      wp_walk
      exact done_
    | false =>
      have rest_ := ih (j + 1) b (by omega) (by simpa using hb) fin s2 J2
      obtain ⟨hp2, g2, d2, tk2, os2⟩ := s2
      have cst : ((j : Int) + 1) = ((j + 1 : Nat) : Int) := by omega
      wp_walk
      rw [cst]
      refine ⟨plainId_quiet plain_contains_loop _, codeAny_builtin entry_contains_loop ?_⟩
      rw [Around.under_plainId plain_contains_loop _]
      exact rest_
theorem in_body (lst : Addr) (what : Value) (bs : List Bool) (J : Shared → Prop)
    (rd : ∀ s, J s → ∃ (vals : Array Value) (nn : Nat), s.heap.get? lst = some { cls := .type "list", data := .seq vals nn } ∧ vals.size = bs.length ∧ ∀ j (h : j < vals.size), wpAny (model prog w) B0.in1 (eqBool vals[j] what) (fun r s' => bs[j]? = some r ∧ J s') (fun e s' => R (.error e) s') s)
    (fin : ∀ s, J s → R (.ok (.ret (.bool (bs.any id)))) s) {s : Shared} (hJ : J s) :
    wpAny (model prog w) B0.in1 (Builtin.«list.__contains__» ⟨[.ref lst, what], []⟩) (GQ.FinOf prog w B0 R) (fun e s' => R (.error e) s') s := by
  obtain ⟨vals, nn, at_, sz, _⟩ := rd s hJ
  have run := in_loop (B0 := B0) (R := R) lst what bs J rd _ 0 _ rfl rfl fin s hJ
  obtain ⟨hp, g, d, tk, os⟩ := s
  wp_walk using wpAny_loadPart' at_
  refine ⟨plainId_quiet plain_contains_loop _, codeAny_builtin entry_contains_loop ?_⟩
  rw [Around.under_plainId plain_contains_loop _]
  exact run
end
section
variable {prog : Program} {w : World} {B0 : Around} {E : Value → Shared → Prop} {s : Shared}
theorem in_list_own {lst : Addr} {what : Value} {bs : List Bool} {Q : Value → Shared → Prop} (J : Shared → Prop)
    (rd : ∀ s, J s → ∃ (vals : Array Value) (nn : Nat), s.heap.get? lst = some { cls := .type "list", data := .seq vals nn } ∧ vals.size = bs.length ∧ ∀ j (h : j < vals.size), wpAny (model prog w) B0.in1 (eqBool vals[j] what) (fun r s' => bs[j]? = some r ∧ J s') E s)
    (fin : ∀ s, J s → Q (.bool (bs.any id)) s) (hJ : J s) : wpAny (model prog w) B0 (compareOp .In what (.ref lst)) Q E s := by
  obtain ⟨vals, nn, at_, sz, _⟩ := rd s hJ
  show wpAny _ B0 (do return .bool (← contains (.ref lst) what)) Q E s
  refine wpAny_bind (wpAny_contains_slot ⟨_, at_, rfl⟩ F.slot_list_contains (GQ.call_here F.slot_list_contains ⟨_, at_, rfl⟩ F.entry_list_contains (F.args_list_contains_2 _ _) ?_))
  exact in_body (R := wants (fun v s' => wpAny (model prog w) B0 (truthy v) (fun b s2 => wpAny (model prog w) B0 (pure (.bool b)) Q E s2) E s') E) lst what bs J rd (fun s' h' => wpAny_truthy_bool (wpAny_pure (fin s' h'))) hJ
end
end VQ
namespace Vf
open PySem PySem.Spec PyProof.Rows L2
section
variable {X : Cx} {C : Addr} {k : Nat}
/-- which rooms stand at some values -/
def AtL (C : Addr) (H : Hp) (xs : List V) (l : List (Nat × List Nat)) : Prop := xs.length = l.length ∧ ∀ (j : Nat) v z, xs[j]? = some v → l[j]? = some z → ∃ c, v = .ref c ∧ RoomAt C H c z.1 z.2
def rInR (C : Addr) : R2 := fun x y H Q => ∃ (a : Addr) (n : Nat) (B : List Nat) (p : Addr) (xs : List V) (l : List (Nat × List Nat)), x = .ref a ∧ RoomAt C H a n B ∧ y = .ref p ∧ H p = some (.lst xs) ∧ AtL C H xs l ∧
  ∀ H', Ext H H' → Q (.bl ((l.map fun z : Nat × List Nat => decide (z.1 = n ∧ z.2 = B)).any id)) H'
theorem at_same {H : Hp} {a : Addr} {n m : Nat} {B D : List Nat} (h1 : RoomAt C H a n B) (h2 : RoomAt C H a m D) : n = m ∧ B = D := by
  obtain ⟨dx, b, e1, e2, _⟩ := h1
  obtain ⟨dy, c, f1, f2, _⟩ := h2
  rw [e1] at f1
  have f0 : rf n b = rf m c := by
    injection f1 with f1
    injection f1
  have f3 : (n : Int) = (m : Int) := by
    have z := rf_places n b
    rw [f0, rf_places] at z
    injection z with z
    injection z with z
    exact z.symm
  have f4 : b = c := by
    have z := rf_basis n b
    rw [f0, rf_basis] at z
    injection z with z
    injection z with z
    exact z.symm
  subst f4
  rw [e2] at f2
  injection f2 with f2
  injection f2 with f2
  refine ⟨by omega, ?_⟩
  have := congrArg (List.map nOf) f2
  unfold vs at this
  rw [List.map_map, List.map_map] at this
  rwa [show (nOf ∘ fun i : Nat => V.int (i : Int)) = id from rfl, List.map_id, List.map_id] at this
theorem op_inR (Ec : EqC X.prog X.w X.K X.mg X.base C k (sp_eq X.K C)) (hr : Room (k + 1) X.A) : OpR X (compareOp .In) (rInR C) := by
  obtain ⟨f, fd, F, hs, hf, hb, _, _⟩ := Ec
  intro pins s σ H x y v u Q I rx ry h
  obtain ⟨a, n, B, p, xs, l, rfl, ra, rfl, hp, al, q⟩ := h
  cases rx
  cases ry
  refine VQ.in_list_own (bs := l.map fun z : Nat × List Nat => decide (z.1 = n ∧ z.2 = B)) (fun s' => ∃ H', Inv X pins σ H' s' ∧ Ext H H') (fun s' hJ => ?_) (fun s' ⟨H', I', e⟩ => ⟨.bl _, H', I', rfl, q H' e⟩) ⟨H, I, Ext.rfl'⟩
  obtain ⟨H1, I1, e1⟩ := hJ
  obtain ⟨_, its, nn, r, gt⟩ := I1.hok p _ (e1 _ _ hp)
  refine ⟨its.toArray, nn, gt, by rw [List.size_toArray, ← r.length, List.length_map, al.1], fun j hj => ?_⟩
  have hj' : j < its.length := by simpa using hj
  have kj : j < xs.length := by rw [r.length]; exact hj'
  have kl : j < l.length := by rw [← al.1]; exact kj
  obtain ⟨u, hu, ru⟩ := r.get (List.getElem?_eq_getElem kj)
  have gj : its[j]? = some its.toArray[j] := by
    rw [List.getElem?_eq_getElem hj'] <;> simp
  rw [gj] at hu
  rw [Option.some.inj hu]
  obtain ⟨c, ec, rc⟩ := al.2 j _ _ (List.getElem?_eq_getElem kj) (List.getElem?_eq_getElem kl)
  rw [ec] at ru
  cases (show u = Value.ref c from ru)
  have ra1 := at_ext e1 ra
  have rc1 := at_ext e1 rc
  have bj : (l.map fun z : Nat × List Nat => decide (z.1 = n ∧ z.2 = B))[j]? = some (decide (l[j].1 = n ∧ l[j].2 = B)) := by
    rw [List.getElem?_map, List.getElem?_eq_getElem kl]
    rfl
  rw [bj]
  by_cases ca : c = a
  · subst ca
    have same := at_same rc1 ra1
    rw [decide_eq_true same]
    exact SeqAt.EqAt.same (A := X.A.in1) (s := s') (.ref c) X.prog X.w X.xe _ ⟨rfl, H1, I1, e1⟩
  · refine GQ.eqBool_refG ca ?_
    obtain ⟨dx, b0, ha, hb0, _⟩ := id rc1
    obtain ⟨dz, b1, ha2, _⟩ := id ra1
    obtain ⟨_, O, _⟩ := ins_get I1.hok ha
    obtain ⟨od, J, _⟩ := O.look
    obtain ⟨_, O2, _⟩ := ins_get I1.hok ha2
    obtain ⟨od2, J2, _⟩ := O2.look
    obtain ⟨m, hF⟩ := I1.fr
    have hi := hr.in1
    refine PySem.W.cmp_K (op := .Eq) (tb := .ref C) hi.units0 hF I1.ok.mod.kin J J2.type (by simp [PySem.W.notFirst]) hs hf ?_
    refine wpAny_mono (own_run (A := X.A.in1) F hi rfl hb I1 (y := V.ref a) (u := Value.ref a) rfl (R := fun v2 H2 => v2 = .bl (decide (l[j].1 = n ∧ l[j].2 = B)) ∧ H2 = H1) ⟨c, l[j].1, l[j].2, .ref a, rfl, rc1, .inl ⟨a, n, B, rfl, ra1, rfl, rfl⟩⟩) (fun v2 s2 z => ?_) fun _ _ z => z
    obtain ⟨v3, H3, I3, rv, e3, rfl⟩ := z
    subst e3
    cases rv
    exact ⟨_, rfl, rfl, H3, I3, e1⟩
end
end Vf

set_option Elab.async false
set_option linter.all false
set_option maxRecDepth 100000
set_option maxHeartbeats 4000000
set_option pp.maxSteps 300
namespace Vf
open PySem PySem.Spec PyProof.Rows L2
variable {W : Wd}
section
variable {C : Addr} {n : Nat} {B : List Nat} {Ds Fs : EnvT W} {tl : TE} {ts : TS} {i j : Nat} {K : PySem.W.Frag}
theorem atL_of {H : Hp} : ∀ {l : List (Nat × List Nat)} {xs : List V}, OkL (l.map fun z => (dRoom C z.1 z.2 : Dn W)) xs H → AtL C H xs l
  | [], [], _ => ⟨rfl, fun j v z h _ => by simp at h⟩
  | z :: l, x :: xs, ⟨o, r⟩ => by
    obtain ⟨ln, at_⟩ := atL_of (l := l) r
    refine ⟨by rw [List.length_cons, List.length_cons, ln], fun j v y h1 h2 => ?_⟩
    cases j with
    | zero =>
      simp at h1 h2
      subst h1 h2
      exact room_at o
    | succ j =>
      simp at h1 h2
      exact at_ j v y h1 h2
  | [], _ :: _, h => h.elim
  | _ :: _, [], h => h.elim
/-- a room in a list of rooms -/
theorem od_inR (l : List (Nat × List Nat)) : OpD (W := W) (rInR C) (dRoom C n B) (dLD (l.map fun z => dRoom C z.1 z.2)) (dB ((l.map fun z : Nat × List Nat => decide (z.1 = n ∧ z.2 = B)).any id)) := fun u v H Q iv o1 o2 q => by
  obtain ⟨a, e1, r1⟩ := room_at o1
  obtain ⟨p, xs, e2, g2, h2, o⟩ := o2
  exact ⟨a, n, B, p, xs, l, e1, r1, e2, h2, atL_of o, fun H' e => q _ H' (W.same fun x o h => e x o h) rfl⟩
/-- for x, y in a list of pairs -/
theorem nv_forP2 (ps : List (Dn W × Dn W)) (is : List Nat) (hl : EV Ds tl (dLD (ps.map fun p => dTD [p.1, p.2]))) (he : forget Ds is = Fs) (hb : ∀ p ∈ ps, NV ((Fs.set i (some p.1)).set j (some p.2)) ts Fs) :
    NV Ds (tFor (iList K tl) (gTup K 2 (gCons (gName i) (gCons (gName j) gNil))) ts) Fs := fun D σ H iv en q =>
  hl σ H _ iv en fun v H1 l1 ⟨a, xs, e, g, h, o⟩ => by
    subst e
    refine ⟨a, rfl, ⟨xs, .inl (.inl h)⟩, ?_⟩
    refine for_list (K := K) (a := a) (xs := xs) (fun k σ' H' => W.L H1 H' ∧ EnvL Fs σ' H') ⟨W.refl H1, he ▸ (en.st l1).forget is⟩ (fun k σ' H' _ hP => .inl (.inl (W.keep g hP.1 h))) (fun k x σ' H' hx hP => ?_) fun σ' H' hP => q σ' H' (W.trans l1 hP.1) hP.2
    have iv' := W.step hP.1 (W.step l1 iv)
    obtain ⟨d, hd, ok⟩ := (o.st hP.1).at hx
    obtain ⟨p, hp, rfl⟩ := List.mem_map.mp hd
    obtain ⟨b, ys, e, gb, h2, oy⟩ := ok
    match ys, oy with
    | [y1, y2], ⟨o1, o2, _⟩ => exact ⟨b, _, e, .inl (.inl h2), rfl, _, _, rfl, _, _, rfl, rfl, hb p hp _ _ H' iv' ((hP.2.set o1).set o2) fun σ2 H2 l2 e2 => ⟨W.trans hP.1 l2, e2⟩⟩
end
/-! ### three own rooms over a half -/
section
variable {n v z o : Nat} {A X Y H : List Nat}
theorem own_con (h : OwnF n A) : bas (conB n A) = A := plain_unique (bas_plain _) h.f.pl fun v => by
  rw [con_span h.f.pl h.f.n24 h.f.lt, h.max]
structure Pr3 (n : Nat) (H X Y : List Nat) : Prop where
  oX : OwnF n X
  oY : OwnF n Y
  com : lowB n (comB n X Y) = H
  len : 2 * H.length + 2 = n
theorem Pr3.dist (h : Pr3 n H X Y) : distB n X Y = 1 := by
  have a := h.oX.len
  have b := h.len
  unfold distB
  rw [h.com]
  omega
theorem Pr3.ne (h : Pr3 n H X Y) : ¬ X = Y := fun e => by
  have d := h.dist
  have := (dist_zero h.oX h.oY).mpr e
  omega
theorem Pr3.sum (h : Pr3 n H X Y) : bas (X ++ Y) = bas (conB n H) := plain_unique (bas_plain _) (bas_plain _) fun v => by
  have := con_common h.oX.f.pl h.oY.f.pl h.oX.f.n24 h.oX.f.lt h.oY.f.lt v
  rw [h.com, own_con h.oX, own_con h.oY] at this
  exact this.symm
theorem half_move (hA : OwnF n A) (hv : v < 2 ^ n) (hz : span A z) : halfB n A (v ^^^ z) = halfB n A v := by
  have lz := span_lt hA.f.lt hz
  refine plain_unique (lowB_plain _ _) (lowB_plain _ _) fun x => ?_
  show span (halfB n A (v ^^^ z)) x ↔ span (halfB n A v) x
  rw [half_span hA.f (Nat.xor_lt_two_pow hv lz), half_span hA.f hv]
  refine and_congr_right fun hx => ?_
  rw [par_comm, par_xor, hA.still z hz x hx, par_comm v x, Bool.xor_false]
theorem lack_move (hA : OwnF n A) (hv : Lack n A v) (hz : span A z) (pz : par z v = true) : Lack n A (v ^^^ z) := by
  have lz := span_lt hA.f.lt hz
  refine ⟨Nat.xor_lt_two_pow hv.1 lz, fun k => hv.2.1 ?_, ?_⟩
  · have := span_xor k hz
    rwa [Nat.xor_assoc, Nat.xor_self, Nat.xor_zero] at this
  · rw [par_xor, par_comm v, par_comm z, par_xor, par_xor, hv.2.2, hA.still z hz z hz, par_comm v z]
    cases par z v <;> rfl
/-- the neighbour over the same half is the same for every such word -/
theorem nb_move (hA : OwnF n A) (hv : Lack n A v) (ho : span A o) (po : par o v = true) (hz : span A z) (pz : par z v = true) : nbB n A (v ^^^ o) = nbB n A (v ^^^ z) := by
  have l1 := lack_move hA hv ho po
  have l2 := lack_move hA hv hz pz
  have oz := own_nb hA l2.1 l2.2.1 l2.2.2
  refine nb_of hA oz (dist_nb hA l2.1 l2.2.1) ((nb_span hA.f l2.1 _).mpr (.inr ?_)) l1.2.1
  have e : v ^^^ o ^^^ (v ^^^ z) = o ^^^ z := by
    rw [Nat.xor_comm v o, Nat.xor_assoc, ← Nat.xor_assoc v v, Nat.xor_self, Nat.zero_xor]
  rw [e]
  refine ⟨span_xor ho hz, ?_⟩
  rw [par_xor, par_comm o, par_comm z, par_xor, par_xor, par_comm v o, par_comm v z, po, pz, hA.still z hz o ho, hA.still z hz z hz]
  rfl
theorem pr_one (hA : OwnF n A) (hv : Lack n A v) : Pr3 n (halfB n A v) A (nbB n A v) := ⟨hA, own_nb hA hv.1 hv.2.1 hv.2.2, com_nb hA hv.1 hv.2.1, half_len hA hv.1 hv.2.1⟩
theorem pr_two (hA : OwnF n A) (hv : Lack n A v) (hz : span A z) (pz : par z v = true) : Pr3 n (halfB n A v) A (nbB n A (v ^^^ z)) := by
  have := pr_one hA (lack_move hA hv hz pz)
  rwa [half_move hA hv.1 hz] at this
theorem pr_three (hA : OwnF n A) (hv : Lack n A v) (hz : span A z) (pz : par z v = true) : Pr3 n (halfB n A v) (nbB n A v) (nbB n A (v ^^^ z)) := by
  have l2 := lack_move hA hv hz pz
  refine ⟨own_nb hA hv.1 hv.2.1 hv.2.2, own_nb hA l2.1 l2.2.1 l2.2.2, plain_unique (lowB_plain _ _) (lowB_plain _ _) fun x => ?_, half_len hA hv.1 hv.2.1⟩
  show span (lowB n (comB n (nbB n A v) (nbB n A (v ^^^ z)))) x ↔ span (halfB n A v) x
  have hm := half_span hA.f (Nat.xor_lt_two_pow hv.1 (span_lt hA.f.lt hz)) x
  rw [half_move hA hv.1 hz] at hm
  rw [comB_span (nb_F hA.f hv.1).lt, nb_span hA.f hv.1, nb_span hA.f l2.1]
  constructor
  · rintro ⟨h1, h2⟩
    rcases h1 with h1 | ⟨h1, p1⟩
    · exact (half_span hA.f hv.1 x).mpr h1
    · rcases h2 with h2 | ⟨h2, p2⟩
      · refine absurd ?_ hv.2.1
        have := span_xor h2.1 h1
        rwa [← Nat.xor_assoc, Nat.xor_self, Nat.zero_xor] at this
      · have q1 : par v (x ^^^ v) = false := by rw [par_comm]; exact p1
        have q2 : par z (x ^^^ v) = false := hA.still z hz _ h1
        have q3 : par v z = true := by rw [par_comm]; exact pz
        have q4 : par z z = false := hA.still z hz z hz
        have e : par (x ^^^ (v ^^^ z)) (v ^^^ z) = true := by
          rw [← Nat.xor_assoc, par_xor, par_comm (x ^^^ v), par_xor, q1, q2, par_comm z, par_xor, q3, q4]
          rfl
        rw [e] at p2
        cases p2
  · intro h
    have h1 := (half_span hA.f hv.1 x).mp h
    exact ⟨.inl h1, .inl (hm.mp h)⟩
theorem not_nb (hA : OwnF n A) (hv : Lack n A v) (hz : span A z) (pz : par z v = true) : ¬ span (nbB n A v) z := fun k => by
  rcases (nb_span hA.f hv.1 z).mp k with ⟨_, p⟩ | ⟨h, _⟩
  · rw [pz] at p
    cases p
  · refine hv.2.1 ?_
    have := span_xor hz h
    rwa [← Nat.xor_assoc, Nat.xor_self, Nat.zero_xor] at this
theorem not_nb2 (hA : OwnF n A) (hv : Lack n A v) (hz : span A z) (pz : par z v = true) : ¬ span (nbB n A v) (v ^^^ z) := fun k => by
  rcases (nb_span hA.f hv.1 _).mp k with ⟨h, _⟩ | ⟨_, p⟩
  · exact (lack_move hA hv hz pz).2.1 h
  · have e : v ^^^ z ^^^ v = z := by rw [Nat.xor_comm v z, Nat.xor_assoc, Nat.xor_self, Nat.xor_zero]
    rw [e, pz] at p
    cases p
theorem back_one (hA : OwnF n A) (hv : Lack n A v) (hz : span A z) (pz : par z v = true) : nbB n (nbB n A v) z = A := by
  have p := pr_one hA hv
  refine nb_of p.oY hA ?_ hz (not_nb hA hv hz pz)
  rw [dist_comm p.oY hA]
  exact p.dist
theorem back_two (hA : OwnF n A) (hv : Lack n A v) (hz : span A z) (pz : par z v = true) : nbB n (nbB n A v) (v ^^^ z) = nbB n A (v ^^^ z) := by
  have p := pr_three hA hv hz pz
  exact nb_of p.oX p.oY p.dist (nb_has hA.f (lack_move hA hv hz pz).1) (not_nb2 hA hv hz pz)
/-- the words of a neighbour, from the half and its shift -/
theorem nb_list (hA : OwnF n A) (hv : Lack n A v) : let L := ((wordsOf A).filter fun x => !par x v) ++ ((wordsOf A).filter fun x => !par x v).map fun x => x ^^^ v
    L.Nodup ∧ ∀ x, x ∈ L ↔ span (nbB n A v) x := by
  intro L
  have e : sortN L = wordsOf (nbB n A v) := words_nb hA.f hv.1 hv.2.1
  have ok := words_ok (nb_F hA.f hv.1).pl
  have pm : (wordsOf (nbB n A v)).Perm L := by
    rw [← e]
    exact List.mergeSort_perm _ _
  exact ⟨pm.nodup_iff.mp ok.2.1, fun x => by rw [← pm.mem_iff, ok.1]⟩
theorem half_words (hA : OwnF n A) (hv : v < 2 ^ n) : (wordsOf A).filter (fun x => !par x v) = wordsOf (halfB n A v) := words_filt (lowB_plain _ _) hA.f.pl fun x => by
  show span (halfB n A v) x ↔ _
  rw [half_span hA.f hv]
  cases par x v <;> simp
end
end Vf

set_option Elab.async false
set_option linter.all false
set_option maxRecDepth 100000
set_option maxHeartbeats 4000000
set_option pp.maxSteps 300
/-! ### set(l) of a list of ints -/
namespace L2
open PySem PySem.Spec PyProof.Rows
abbrev vEmp (w : World) : Obj := { cls := .type "set", dict := none, data := .set #[] 0 (.fresh 0 0 (!w.params.followText "set-order")) }
abbrev vLit (lst : Addr) : Obj := { cls := .type "list_iterator", data := .fields #[.ref lst, .int 0 0] }
section
variable {P : Program} {w : World} {A : Around} {E : Value → Shared → Prop} {s : Shared}
theorem vf_setInit {lst : Addr} {vals : Array Value} (ns : List Int) (calm : A.handled = none) (isl : s.heap.IsList lst vals) (are_ : IntsAre vals.toList ns) (room : ns.length + 1 < scanBound) {R : Result → Shared → Prop}
    (fin : ∀ (hp : Heap) (t m : Nat), SetR w hp s.heap.objs.size (fun j => decide (j ∈ ns)) m → m ≤ ns.length → (∀ b o, s.heap.get? b = some o → hp.get? b = some o) → R (.ok (.ret .none)) { s with heap := hp, toks := t }) :
    wpAny (model P w) A.in1.in1 (Builtin.«set.__init__» ⟨[.ref s.heap.objs.size, .ref lst], []⟩) (GQ.FinOf P w A.in1 R) (fun e s' => R (.error e) s') { s with heap := s.heap.push (vEmp w) } := by
  have size_ : vals.size = ns.length := by rw [← IntsAre.length are_, Array.length_toList]
  obtain ⟨obj, at_, cls_, nn, dat_⟩ := isl
  obtain ⟨kc, kd, kdata, ks⟩ := obj
  dsimp only at cls_ dat_
  subst cls_ dat_
  have at2 : (s.heap.push (vEmp w)).get? lst = some { cls := .type "list", dict := kd, data := .seq vals nn, slots := ks } := Heap.get?_push_of_some _ at_
  have is2 : (s.heap.push (vEmp w)).IsList lst vals := ⟨_, at2, rfl, nn, rfl⟩
  have self_ : (s.heap.push (vEmp w)).get? s.heap.objs.size = some (vEmp w) := Heap.get?_push_size _ rfl
  have old_ : lst < s.heap.objs.size := Heap.lt_size at_
  have sz2 : (s.heap.push (vEmp w)).objs.size = s.heap.objs.size + 1 := Heap.size_push ..
  have f1 := F.sub_list_set
  have f2 := F.sub_list_frozenset
  have f3 : (Value.type "list" == Value.type "dict") = false := by decide
  unfold Builtin.«set.__init__» noKeywords Builtin.Frozenset.updateFrom
  generalize same_ : pyIter = it_
  wp_walk
  subst same_
  refine wpAny_pyIter_list is2 (wpAny_bind (wpAny_runValue ?_))
  have calm3 : A.in1.in1.in1.handled = none := by simp [calm]
  have away : s.heap.objs.size ∉ [(s.heap.push (vEmp w)).objs.size, lst] := by
    rw [sz2]
    simp only [List.mem_cons, List.mem_singleton, List.not_mem_nil, or_false, not_or]
    exact ⟨Nat.ne_of_lt (Nat.lt_succ_self _), Nat.ne_of_gt old_⟩
  have each : ∀ (i : Nat) (v : Value), vals[i]? = some v → ∃ k t, ns[i]? = some k ∧ v = .int k t := fun i v hv => by
    have li : i < ns.length := by
      rw [← size_]
      exact (Array.getElem?_eq_some_iff.mp hv).1
    obtain ⟨t, e⟩ := PyProof.Rows.IntsAre.int_at are_ i v (by rwa [Array.getElem?_toList])
    refine ⟨ns[i], t, List.getElem?_eq_getElem li, e.trans ?_⟩
    rw [List.getD_eq_getElem?_getD, List.getElem?_eq_getElem li] <;> rfl
  refine set_update_ints ((Walks.list calm3 _ lst (by rw [sz2]; exact Nat.ne_of_lt (Nat.lt_succ_of_lt old_)) vals).toS) s.heap.objs.size away ns size_ room each (vals.size - 0) 0 _ (by omega) (Nat.zero_le _) ⟨⟨_, Heap.get?_push_size _ rfl, rfl, rfl⟩, is2.push _⟩ ⟨0, Nat.le_refl 0, setR_new_at (Heap.get?_push_of_some _ self_)⟩ ?_
  intro s2 m mv lm sr
  obtain ⟨hp2, g2, d2, t2, o2⟩ := s2
  have eg : g2 = s.gens := mv.gens
  have ed : d2 = s.drawn := mv.drawn
  have eo : o2 = s.os := mv.os
  subst eg ed eo
  refine wpAny_pure (wpAny_pure ?_)
  refine fin hp2 t2 m sr (by omega) fun b o e => ?_
  have lb : b < s.heap.objs.size := Heap.lt_size e
  refine mv.heap b o ?_ (Heap.get?_push_of_some _ (Heap.get?_push_of_some _ e))
  simp only [List.mem_cons, List.mem_singleton, List.not_mem_nil, or_false, not_or]
  exact ⟨Nat.ne_of_lt lb, by rw [sz2]; exact Nat.ne_of_lt (Nat.lt_succ_of_lt lb)⟩
theorem vf_setList {lst : Addr} {vals : Array Value} (ns : List Int) (calm : A.handled = none) (isl : s.heap.IsList lst vals) (are_ : IntsAre vals.toList ns) (room : ns.length + 1 < scanBound) {Q : Value → Shared → Prop}
    (fin : ∀ (hp : Heap) (t m : Nat), SetR w hp s.heap.objs.size (fun j => decide (j ∈ ns)) m → m ≤ ns.length → (∀ b o, s.heap.get? b = some o → hp.get? b = some o) → Q (.ref s.heap.objs.size) { s with heap := hp, toks := t }) :
    wpAny (model P w) A (call (.type "set") [.ref lst]) Q E s := by
  obtain ⟨ca, tl, mro_⟩ := F.called_set.mro
  have made_ := F.called_set.made
  have sub_ := F.called_set.sub
  have n1 := F.called_set.notType
  have n2 := F.called_set.canCreate
  have n3 := F.typeCall_set_1 (.ref lst)
  refine wpAny_call (codeAny_of_tree ?_)
  show wpAny _ _ (callAny (.type "set") _) _ _ _
  refine wpAny_pure ⟨Code.quiet_builtin _ (by decide +kernel), codeAny_builtin F.entry_type_call (?_)⟩
  rw [Around.under_plain (weight_type_call_type "set" [.ref lst] []) rfl]
  repeat (any_goals (first | assumption | wp_step))
  refine codeAny_mono (code_set_led1 (.ref lst) (E := E) (Q₁ := fun obj s₁ => obj = .ref s.heap.objs.size ∧ s₁ = { s with heap := s.heap.push (vEmp w) }) ⟨rfl, rfl⟩) fun res s2 hres => ?_
  match res, hres with
  | .error e, hres => exact hres
  | .ok (.ret obj), hres =>
    obtain ⟨rfl, rfl⟩ := hres
    have here_ : (s.heap.push (vEmp w)).get? s.heap.objs.size = some (vEmp w) := Heap.get?_push_size _ rfl
    have ty_ : Shared.TypeIs { s with heap := s.heap.push (vEmp w) } (.ref s.heap.objs.size) "set" := ⟨_, here_, rfl⟩
    have i1 := F.called_set.init.lookup
    have i2 := F.called_set.init.bind (.ref s.heap.objs.size)
    repeat (any_goals (first | assumption | wp_step))
    refine codeAny_mono (codeAny_call_builtin (R := wants (fun v s3 => v = .none ∧ ∃ hp t m, s3 = { s with heap := hp, toks := t } ∧ SetR w hp s.heap.objs.size (fun j => decide (j ∈ ns)) m ∧ m ≤ ns.length ∧ ∀ b o, s.heap.get? b = some o → hp.get? b = some o) E) F.called_set.init.plain F.entry_set_init (check_set_init_1 ty_ ?_)) fun res2 s3 hres2 => ?_
    · exact vf_setInit ns calm isl are_ room fun hp t m sr lm kp => ⟨rfl, hp, t, m, rfl, sr, lm, kp⟩
    · match res2, hres2 with
      | .error e, hres2 => exact hres2
      | .ok (.ret v), hres2 =>
        obtain ⟨rfl, hp, t, m, rfl, sr, lm, kp⟩ := hres2
        repeat (any_goals (first | assumption | wp_step))
        exact fin _ _ _ sr lm kp
      | .ok .next, hres2 => exact hres2.elim
      | .ok .brk, hres2 => exact hres2.elim
      | .ok .cont, hres2 => exact hres2.elim
  | .ok .next, hres => exact hres.elim
  | .ok .brk, hres => exact hres.elim
  | .ok .cont, hres => exact hres.elim
end
section
variable {X : Cx}
/-- set(l), l of ints -/
def rSetOfL (K : PySem.W.Frag) (w : World) : List V → Hp → VK → Prop := fun xs H Q => ∃ (p : Addr) (ns : List Int), xs = [V.ref p] ∧ SqL K H p (ns.map V.int) ∧ ns.length + 1 < scanBound ∧ ∀ q m, m ≤ ns.length → H q = none → Q (.ref q) (upd H q (SetO w q (fun j => decide (j ∈ ns)) m))
theorem cr_setOfL (calm : X.calm = true) : CallR X (.type "set") (rSetOfL X.K X.w) := by
  intro pins s σ H xs us Q I r h
  obtain ⟨p, ns, rfl, hq, room, q⟩ := h
  rw [Vals.ref1 r]
  obtain ⟨its, rv, pl, _⟩ := I.list hq
  refine vf_setList ns (I.ok.hd calm) pl.isList (ints_of_vals rv) room fun hp t m sr lm kp => ?_
  exact ⟨.ref _, upd H s.heap.objs.size (SetO X.w s.heap.objs.size (fun j => decide (j ∈ ns)) m), I.laid (t' := t) kp (Nat.le_refl _) (setO_new sr), rfl, q _ m lm (I.hok.fresh (Nat.le_refl _))⟩
end
end L2

set_option Elab.async false
set_option linter.all false
set_option maxRecDepth 100000
set_option maxHeartbeats 4000000
set_option pp.maxSteps 300
namespace Vf
open PySem PySem.Spec PyProof.Rows L2
variable {W : Wd}
/-! ### sorted(set(l)) -/
section
variable {Ds Es : EnvT W} {w : World} {K : PySem.W.Frag} {te tl : TE} {ta tb : TE} {ts tu : TS} {i j n : Nat} {l : List Nat} {d : Dn W} {y : V} {xs : List V}
def dSet (w : World) (l : List Nat) : Dn W := ⟨fun v H => ∃ p m, v = .ref p ∧ W.F p ∧ m ≤ l.length ∧ H p = some (SetO w p (fun j => decide (j ∈ l.map fun i : Nat => (i : Int))) m), fun st ⟨p, m, e, f, le, h⟩ => ⟨p, m, e, f, le, W.keep f st h⟩⟩
theorem cd_setOf (hl : l.length ≤ 60) : CrD (W := W) (rSetOfL K w) [dVs l] (dSet w l) := fun vs0 H Q iv o q => by
  match vs0, o with
  | [v], ⟨⟨a, e, g, h⟩, _⟩ =>
    subst e
    refine ⟨a, (l.map fun i : Nat => (i : Int)), rfl, SqL.of (by rw [h, vs_int]), ?_, fun p m le np => q _ _ (W.put iv (W.refl H) np) ⟨p, m, rfl, W.fresh iv np, by rwa [List.length_map] at le, upd_same⟩⟩
    rw [List.length_map]
    show l.length + 1 < 4096
    omega
theorem cd_sortedSet (hl : l.length ≤ 60) : CrD (W := W) (rSortedSet w) [dSet w l] (dEx (fun L : List Nat => L.Pairwise (· < ·) ∧ ∀ x, x ∈ L ↔ x ∈ l) dVs) := fun vs0 H Q iv o q => by
  match vs0, o with
  | [v], ⟨⟨a, m, e, g, le, h⟩, _⟩ =>
    subst e
    refine ⟨a, _, m, rfl, h, by omega, fun ns p od mem _ np => ?_⟩
    have nat_ : ∀ k ∈ ns, ∃ x ∈ l, (x : Int) = k := fun k hk => by
      have := of_decide_eq_true ((mem k).mp hk)
      obtain ⟨x, hx, e⟩ := List.mem_map.mp this
      exact ⟨x, hx, e⟩
    have back : (ns.map Int.toNat).map (fun x : Nat => (x : Int)) = ns := by
      rw [List.map_map]
      refine (List.map_congr_left fun k hk => ?_).trans (List.map_id ns)
      obtain ⟨x, _, e⟩ := nat_ k hk
      subst e
      rfl
    refine q _ _ (W.put iv (W.refl H) np) ⟨ns.map Int.toNat, ⟨?_, fun x => ?_⟩, p, rfl, W.fresh iv np, ?_⟩
    · rw [List.pairwise_map]
      refine od.imp_of_mem fun {a b} ha hb lt => ?_
      obtain ⟨x, _, rfl⟩ := nat_ a ha
      obtain ⟨z, _, rfl⟩ := nat_ b hb
      show x < z
      omega
    · constructor
      · intro hx
        obtain ⟨k, hk, e⟩ := List.mem_map.mp hx
        obtain ⟨z, hz, rfl⟩ := nat_ k hk
        rw [← e]
        exact hz
      · intro hx
        refine List.mem_map.mpr ⟨(x : Int), (mem _).mpr (decide_eq_true (List.mem_map.mpr ⟨x, hx, rfl⟩)), rfl⟩
    · rw [upd_same]
      unfold vs
      conv => lhs; rw [← back]
      rw [List.map_map]
      rfl
theorem ev_sortedSet (hl : l.length ≤ 60) (h : EV Ds te (dVs l)) : EV Ds (tCB (rSortedSet w) (tCons (tCB (rSetOfL K w) (tCons te tNil)) tNil)) (dEx (fun L : List Nat => L.Pairwise (· < ·) ∧ ∀ x, x ∈ L ↔ x ∈ l) dVs) := ev_cb (cd_sortedSet hl) (av_cons (ev_cb (cd_setOf hl) (av_cons h av_nil)) av_nil)
/-- for x in a list that is told in part -/
theorem nv_forLX {P : List Nat → Prop} (E : List Nat → Nat → EnvT W) (hl : EV Ds tl (dEx P dVs)) (h0 : ∀ l, P l → ∀ σ H, EnvL Ds σ H → EnvL (E l 0) σ H) (hb : ∀ l, P l → ∀ k x, l[k]? = some x → NV ((E l k).set i (some (dN x))) ts (E l (k + 1)))
    (he : ∀ l, P l → ∀ σ H, EnvL (E l l.length) σ H → EnvL Es σ H) : NV Ds (tFor (iList K tl) (gName i) ts) Es := fun D σ H iv en q =>
  hl σ H _ iv en fun v H1 l1 ⟨l, pl, a, e, g, h⟩ => by
    subst e
    refine ⟨a, rfl, ⟨vs l, .inl (.inl h)⟩, ?_⟩
    refine for_list (K := K) (a := a) (xs := vs l) (fun k σ' H' => W.L H1 H' ∧ EnvL (E l k) σ' H') ⟨W.refl H1, h0 l pl _ _ (en.st l1)⟩ (fun k σ' H' _ hP => .inl (.inl (W.keep g hP.1 h))) (fun k x σ' H' hx hP => ?_) fun σ' H' hP => q σ' H' (W.trans l1 hP.1) (he l pl _ _ (by have := hP.2; rwa [len_vs] at this))
    have iv' := W.step hP.1 (W.step l1 iv)
    obtain ⟨z, hz, rfl⟩ := get_vs hx
    exact hb l pl k z hz _ _ H' iv' (hP.2.set rfl) fun σ2 H2 l2 e2 => ⟨W.trans hP.1 l2, e2⟩
/-- a, b = a value, a new list, by the pair -/
theorem sv_unpVC (h2 : EV Ds ta (dV y)) (h : FL Ds tb xs) (r : SVC ((Ds.set i (some (dV y))).set j none) [(j, xs)] tu d) (hj : Nat.ble (j + 1) Ds.n = true := by rfl) :
    SV Ds (tSeq (tAsg (tTup (tCons ta (tCons tb tNil))) (gTup K 2 (gCons (gName i) (gCons (gName j) gNil)))) tu) d := fun D σ H iv en q =>
  h2 σ H _ iv en fun v H1 l1 o1 => h σ H1 _ (W.step l1 iv) (en.st l1) fun p H2 np fp l2 e2 => by
    have LG : W.L H (del p H2) := W.trans l1 l2
    refine ⟨by show 2 ≤ sizeLine; decide, fun T nT => ?_⟩
    have ne_ : T ≠ p := fun z => by
      subst z
      rw [nT] at e2
      cases e2
    have nTd : del p H2 T = none := by rw [del_ne ne_]; exact nT
    have LT : W.L (del p H2) (upd (del p H2) T (.tup [v, .ref p])) := W.put (W.step LG iv) (W.refl _) nTd
    refine ⟨T, _, rfl, .inl (.inl upd_same), rfl, _, _, rfl, _, _, rfl, rfl, ?_⟩
    have ce : CE W [(j, xs)] ((σ.set i (some v)).set j (some (.ref p))) (upd H2 T (.tup [v, .ref p])) (upd (del p H2) T (.tup [v, .ref p])) := by
      refine ⟨p, ?_, fp, by rw [upd_ne (Ne.symm ne_)]; exact e2, ?_⟩
      · exact List.getElem?_set_self (by rw [List.length_set, en.1]; exact Nat.le_of_ble_eq_true hj)
      · show _ = del p (upd H2 T _)
        rw [del_upd_ne ne_]
    exact r D _ _ _ ce (W.step LT (W.step LG iv)) (((en.st (W.trans LG LT)).set (d := dV y) (show v = y from o1)).dropS) fun v3 H3 l3 o => q v3 H3 (W.trans LG (W.trans LT l3)) o
/-- a, b = a value, a new list -/
theorem sv_parVC (h2 : EV Ds ta (dV y)) (h : FL Ds tb xs) (r : SVC ((Ds.set i (some (dV y))).set j none) [(j, xs)] tu d) (hj : Nat.ble (j + 1) Ds.n = true := by rfl) : SV Ds (tSeq (tPar i j (tCons ta (tCons tb tNil))) tu) d := fun D σ H iv en q =>
  h2 σ H _ iv en fun v H1 l1 o1 => h σ H1 _ (W.step l1 iv) (en.st l1) fun p H2 np fp l2 e2 => by
    have LG : W.L H (del p H2) := W.trans l1 l2
    exact ⟨v, .ref p, rfl, r D _ H2 (del p H2) ⟨p, List.getElem?_set_self (by rw [List.length_set, en.1]; exact Nat.le_of_ble_eq_true hj), fp, e2, rfl⟩ (W.step LG iv) (((en.st LG).set (d := dV y) (show v = y from o1)).dropS) fun v3 H3 l3 o => q v3 H3 (W.trans LG l3) o⟩
theorem ev_lcQM {g : Nat → Nat} (hj : Ds.get j = some d) (q0 : Qs K (vs l) d) (hz : l.length ≤ 100000) (hb : ∀ x ∈ l, EV (Ds.set i (some (dN x))) te (dN (g x))) (hn : Nat.ble (j + 1) Ds.n = true := by rfl) : EV Ds (tLc (iLT K (tVar j)) (gName i) tYes te [i]) (dVs (l.map g)) := by
  have h := ev_lcQ (K := K) (i := i) (tt := tYes) (te := te) (p := fun _ => true) (g := fun x => V.int ((g (nOf x) : Nat) : Int)) hj q0 (by rw [len_vs]; exact hz) (fun x hx => tv_yes) (fun x hx _ => by
    obtain ⟨c, hc, rfl⟩ := List.mem_map.mp hx
    exact hb c hc) hn
  have e : ((vs l).filter fun _ => true) = vs l := List.filter_eq_self.mpr fun _ _ => rfl
  rw [e] at h
  unfold vs at h
  rw [List.map_map] at h
  unfold dVs vs
  rw [List.map_map]
  exact h
end
/-! ### rows of contraries -/
section
variable {K : PySem.W.Frag} {C : Addr} {r d : List Nat} {n : Nat} {ws : List Nat}
theorem rt_three (h : ∀ v ∈ r, v < 2 ^ 64) (hl : r.length ≤ 100) : RT K C (dLD [dVs r, dVs r, dVs r] : Dn W) (PyData.list [PyData.list ((vs r).map toD), PyData.list ((vs r).map toD), PyData.list ((vs r).map toD)]).shown := by
  have nc := nice_list (dep := 1) (n := r.length * 1923 + 2) (es := [PyData.list ((vs r).map toD), PyData.list ((vs r).map toD), PyData.list ((vs r).map toD)]) fun e he => by
    simp only [List.mem_cons, List.not_mem_nil, or_false] at he
    rcases he with rfl | rfl | rfl <;> exact nice_vs h
  refine rt_data (dd_LD (.cons (dd_L r) (.cons (dd_L r) (.cons (dd_L r) .nil)))) ref_LD nc (by decide) ?_
  show 3 * (r.length * 1923 + 2 + 2) + 2 ≤ 16000000
  omega
def sp_changed_sumsX : Sp := spW (ι := List Nat × List Nat) (fun _ i => ChgP i) (fun _ i => [dLT i.1]) fun _ i => dVs (i.2.map (i.1.sum * ·))
theorem sd_changed_sumsX (h : ChgP (r, d)) : SpD sp_changed_sumsX [] [(dLT r : Dn W)] (dVs (d.map (r.sum * ·))) := spW_sd (i := (r, d)) h
noncomputable def sp_changedX : Sp := spF (ι := List Nat × List Nat) (fun _ i => ChgP i) (fun _ i => [dLT i.1]) fun i => vs i.2
theorem sd_changedX (h : ChgP (r, d)) : SpD sp_changedX [] [(dLT r : Dn W)] (dVs d) := spF_sd (i := (r, d)) h
theorem fl_changedX {Ds : EnvT W} {t : TA} (h : ChgP (r, d)) (ha : AV Ds t [dLT r]) : FL Ds (tCall sp_changedX [] E0 t) (vs d) := fl_call (i := (r, d)) (ys := fun i => vs i.2) h ha
def sp_is_own_row : Sp := spW (ι := List Nat × List Nat) (fun _ i => ChgP i) (fun _ i => [dLT i.1]) fun _ i => dB (decide (i.2 = i.1))
theorem sd_is_own_row (h : ChgP (r, d)) : SpD sp_is_own_row [] [(dLT r : Dn W)] (dB (decide (d = r))) := spW_sd (i := (r, d)) h
structure LcnP (i : Nat × List Nat) : Prop where
  n12 : i.1 ≤ 12
  lt : ∀ v ∈ i.2, v < 2 ^ i.1
  len : i.2.length ≤ 60
def evAll (n : Nat) (ws : List Nat) : List Nat := (List.range (2 ^ n)).filter fun v => ws.all fun w => !par v w
def sp_lcontra : Sp := spW (ι := Nat × List Nat) (fun _ i => LcnP i) (fun _ i => [dN i.1, dVs i.2]) fun _ i => dVs (evAll i.1 i.2)
theorem sd_lcontra (n12 : n ≤ 12) (h : ∀ v ∈ ws, v < 2 ^ n) (hl : ws.length ≤ 60) : SpD sp_lcontra [] [(dN n : Dn W), dVs ws] (dVs (evAll n ws)) := spW_sd (i := (n, ws)) ⟨n12, h, hl⟩
theorem evAll_congr {us : List Nat} (h : ∀ x, x ∈ us ↔ x ∈ ws) : evAll n us = evAll n ws := by
  unfold evAll
  refine List.filter_congr fun v _ => ?_
  rw [Bool.eq_iff_iff, List.all_eq_true, List.all_eq_true]
  exact ⟨fun k x hx => k x ((h x).mpr hx), fun k x hx => k x ((h x).mp hx)⟩
theorem evAll_step {w : Nat} : (evAll n ws).filter (fun v => !par v w) = evAll n (ws ++ [w]) := by
  unfold evAll
  rw [List.filter_filter]
  refine List.filter_congr fun v _ => ?_
  rw [List.all_append, Bool.and_comm]
  simp
theorem evAll_lt : ∀ v ∈ evAll n ws, v < 2 ^ n := fun v hv => List.mem_range.mp (List.mem_filter.mp hv).1
theorem evAll_row (n24 : n ≤ 24) (lt : ∀ v ∈ ws, v < 2 ^ n) : rowP pc n (evAll n ws) = rowB n (bas (conB n (bas ws))) := by
  refine rowB_of (bas_plain _) (fun v => ?_) (List.nodup_range.filter _)
  rw [con_span (bas_plain _) n24 (bas_lt lt), par_span]
  unfold evAll
  rw [List.mem_filter, List.mem_range, List.all_eq_true]
  refine and_congr_right fun _ => ?_
  have e : (∀ b, span (bas ws) b → par v b = false) ↔ ∀ b ∈ ws, par v b = false := by
    rw [par_span]
    exact ⟨fun h b hb => h b ((bas_span _ _).mpr hb), fun h b hb => h b ((bas_span _ _).mp hb)⟩
  rw [e]
  exact ⟨fun h b hb => by simpa using h b hb, fun h b hb => by simpa using h b hb⟩
theorem own_row (hT : 0 < r.sum) : d.map (r.sum * ·) = r.map (· * r.sum) ↔ d = r := by
  constructor
  · intro h
    have e : (d.map (r.sum * ·)).map (· / r.sum) = (r.map (· * r.sum)).map (· / r.sum) := congrArg _ h
    rw [List.map_map, List.map_map] at e
    have e1 : d.map ((· / r.sum) ∘ (r.sum * ·)) = d := (List.map_congr_left fun x _ => Nat.mul_div_cancel_left x hT).trans (List.map_id d)
    have e2 : r.map ((· / r.sum) ∘ (· * r.sum)) = r := (List.map_congr_left fun x _ => Nat.mul_div_cancel x hT).trans (List.map_id r)
    rwa [e1, e2] at e
  · intro h
    rw [h]
    exact List.map_congr_left fun x _ => Nat.mul_comm ..
end
end Vf

set_option Elab.async false
set_option linter.all false
set_option maxRecDepth 100000
set_option maxHeartbeats 4000000
set_option pp.maxSteps 300
/-! ### xs[a::b] -/
namespace L2
open PySem PySem.Spec PyProof.Rows
theorem vals_pick {xs : List V} {its : List Value} (r : Vals xs its) : ∀ idx : List Nat, Vals (idx.filterMap (xs[·]?)) (idx.filterMap (its.toArray[·]?))
  | [] => .nil
  | i :: idx => by
    have ih := vals_pick r idx
    by_cases c : i < xs.length
    · obtain ⟨u, hu, ru⟩ := r.get (List.getElem?_eq_getElem c)
      have e1 : xs[i]? = some xs[i] := List.getElem?_eq_getElem c
      have e2 : its.toArray[i]? = some u := by simpa using hu
      rw [List.filterMap_cons_some e1, List.filterMap_cons_some e2]
      exact .cons ru ih
    · have e1 : xs[i]? = none := List.getElem?_eq_none (by omega)
      have e2 : its.toArray[i]? = none := by
        have : its.length ≤ i := by rw [← r.length]; omega
        simpa using this
      rw [List.filterMap_cons_none e1, List.filterMap_cons_none e2]
      exact ih
def stepIx (a b : Int) (n : Nat) : List Nat := sliceRange (sliceBounds (some a) none (some b) n).1 (sliceBounds (some a) none (some b) n).2.1 (sliceBounds (some a) none (some b) n).2.2
def tStepL (K : PySem.W.Frag) (a b : Int) (te : TE) : TE := fun σ H Q => te σ H fun x H1 => ∃ l xs, x = .ref l ∧ SqL K H1 l xs ∧ ((stepIx a b xs.length).filterMap (xs[·]?)).length ≤ sizeLine ∧ ∀ p, H1 p = none → Q (.ref p) (upd H1 p (.lst ((stepIx a b xs.length).filterMap (xs[·]?))))
theorem pe_stepL {X : Cx} {e : Expr} {te : TE} {k1 k2 : Nat} {a b : Int} {p1 p2 p3 pos : Pos} (he : PE X e te) (nz : b ≠ 0) : PE X (.Subscript e (.Slice (some (.Constant (.int a) k1 p1)) none (some (.Constant (.int b) k2 p2)) p3) pos) (tStepL X.K a b te) := by
  refine ⟨fun pins st σ H Q inv h => ?_⟩
  refine Subscript_ (thn (he.run pins st σ H _ inv h) fun va st1 ⟨x, H1, I1, rx, qx⟩ => ?_)
  obtain ⟨l, xs, rfl, hx, hsz, q⟩ := qx
  cases rx
  refine wpAny_Slice (thn ((po_some (X := X) (e := .Constant (.int a) k1 p1) (te := tC (.int a)) pe_int).run pins st1 σ H1 (fun o H2 => o = some a ∧ H2 = H1) I1 ⟨a, rfl, rfl, rfl⟩) fun vl st2 ⟨o1, H2, I2, pl, eo1, e2⟩ => ?_)
  subst eo1 e2
  refine thn (po_none.run pins st2 σ H2 (fun o H3 => o = none ∧ H3 = H2) I2 ⟨rfl, rfl⟩) fun vu st3 ⟨o2, H3, I3, pu, eo2, e3⟩ => ?_
  subst eo2 e3
  refine thn ((po_some (X := X) (e := .Constant (.int b) k2 p2) (te := tC (.int b)) pe_int).run pins st3 σ H3 (fun o H4 => o = some b ∧ H4 = H3) I3 ⟨b, rfl, rfl, rfl⟩) fun vs st4 ⟨o3, H4, I4, ps, eo3, e4⟩ => ?_
  subst eo3 e4
  have I5 : Inv X pins σ H4 { st4 with heap := st4.heap.push { cls := .type "slice", data := .fields #[vl, vu, vs] } } := I4.kept (t' := st4.toks) fun _ _ q => Heap.get?_push_of_some _ q
  obtain ⟨its, r, isl, lim⟩ := I5.list hx
  have len_ := r.length
  show wpAny (model X.prog X.w) X.A (subscriptTail e _ (.ref l) (.ref st4.heap.objs.size)) (EP X pins σ Q) X.xe _
  refine tail_any (ops := [.ref l, .ref st4.heap.objs.size]) isl.isList.typeIs (PySem.slot_list_getitem.lookup) ?_ (by with_unfolding_all rfl)
  refine wpAny_getItem_list_slice isl.isList (Heap.IsSliceOf.new _ vl vu vs) pl pu ps (fun z => nz (by injection z)) ?_ (by rw [List.size_toArray]; omega)
  have pk := vals_pick r (stepIx a b xs.length)
  have same_ : slicePick its.toArray (some a) none (some b) = ((stepIx a b xs.length).filterMap (its.toArray[·]?)).toArray := by
    unfold slicePick stepIx
    rw [List.size_toArray, ← len_]
  rw [same_]
  refine ⟨.ref _, _, I5.laid (t' := st4.toks) (o := .lst ((stepIx a b xs.length).filterMap (xs[·]?))) (fun _ _ q => Heap.get?_push_of_some _ q) (Nat.le_refl _) ?_, rfl, q _ (I5.hok.fresh (Nat.le_refl _))⟩
  exact ⟨hsz, _, 0, pk, Heap.get?_push_size _ rfl⟩
end L2

set_option Elab.async false
set_option linter.all false
set_option maxRecDepth 100000
set_option maxHeartbeats 400000
set_option pp.maxSteps 300
namespace Vf
open PySem PySem.Spec PyProof.Rows L2
/-! ### products of rows -/
theorem pc_app {w o n m : Nat} (ho : o < 2 ^ n) (hw : w < 2 ^ m) (k : n + m ≤ 24) : pc (w * 2 ^ n + o) = pc o + pc w := by
  have e : o ^^^ (w <<< n) = w * 2 ^ n + o := by
    have t := Nat.div_add_mod (o ^^^ (w <<< n)) (2 ^ n)
    rw [jn_mod ho, jn_div ho, Nat.mul_comm] at t
    exact t.symm
  have t := pc_two o (w <<< n)
  rw [e, and_off ho, pc_zero, pc_shl hw k] at t
  omega
def rc (L : List Nat) (j : Nat) : Nat := (L.filter fun v => decide (pc v = j)).length
theorem rc_cons (v : Nat) (L : List Nat) (j : Nat) : rc (v :: L) j = (if pc v = j then 1 else 0) + rc L j := by
  unfold rc
  rw [List.filter_cons]
  by_cases h : pc v = j
  · rw [if_pos (decide_eq_true h), if_pos h, List.length_cons, Nat.add_comm]
  · rw [if_neg (by simp [h]), if_neg h, Nat.zero_add]
theorem rc_app (L M : List Nat) (j : Nat) : rc (L ++ M) j = rc L j + rc M j := by
  unfold rc
  rw [List.filter_append, List.length_append]
theorem rc_off {n j : Nat} {L : List Nat} (h : ∀ v ∈ L, pc v ≤ n) (k : n < j) : rc L j = 0 := by
  unfold rc
  rw [List.length_eq_zero_iff, List.filter_eq_nil_iff]
  intro v hv
  have := h v hv
  simp
  omega
def sumR (f : Nat → Nat) (N : Nat) : Nat := ((List.range N).map f).sum
theorem sumR_zero (f : Nat → Nat) : sumR f 0 = 0 := rfl
theorem sumR_succ (f : Nat → Nat) (N : Nat) : sumR f (N + 1) = sumR f N + f N := by
  unfold sumR
  rw [List.range_succ, List.map_append, List.sum_append]
  simp
theorem sumR_head (f : Nat → Nat) (N : Nat) : sumR f (N + 1) = f 0 + sumR (fun i => f (i + 1)) N := by
  induction N with
  | zero => rw [sumR_succ, sumR_zero, sumR_zero, Nat.zero_add, Nat.add_zero]
  | succ N ih => rw [sumR_succ, ih, sumR_succ, Nat.add_assoc]
theorem sumR_congr {f g : Nat → Nat} : ∀ {N : Nat}, (∀ i, i < N → f i = g i) → sumR f N = sumR g N
  | 0, _ => rfl
  | N + 1, h => by rw [sumR_succ, sumR_succ, sumR_congr fun i hi => h i (by omega), h N (by omega)]
theorem sumR_add (f g : Nat → Nat) : ∀ N, sumR (fun i => f i + g i) N = sumR f N + sumR g N
  | 0 => rfl
  | N + 1 => by rw [sumR_succ, sumR_succ, sumR_succ, sumR_add]; omega
theorem sumR_nought {f : Nat → Nat} {N : Nat} (h : ∀ i, i < N → f i = 0) : sumR f N = 0 := by
  induction N with
  | zero => rfl
  | succ N ih => rw [sumR_succ, ih fun i hi => h i (by omega), h N (by omega)]
theorem sumR_rev (f : Nat → Nat) : ∀ N, sumR f (N + 1) = sumR (fun i => f (N - i)) (N + 1) := by
  intro N
  induction N generalizing f with
  | zero => rfl
  | succ N ih =>
    rw [sumR_head, ih, sumR_succ (fun i => f (N + 1 - i)), Nat.sub_self, Nat.add_comm]
    refine congrArg (· + f 0) (sumR_congr fun i hi => ?_)
    show f (N - i + 1) = f (N + 1 - i)
    rw [show N - i + 1 = N + 1 - i by omega]
theorem sumR_cut {f : Nat → Nat} {N M : Nat} (h : ∀ i, N ≤ i → i < M → f i = 0) (k : N ≤ M) : sumR f M = sumR f N := by
  induction M with
  | zero => rw [show N = 0 by omega]
  | succ M ih =>
    by_cases e : N = M + 1
    · rw [e]
    · rw [sumR_succ, ih (fun i h1 h2 => h i h1 (by omega)) (by omega), h M (by omega) (by omega), Nat.add_zero]
theorem sumR_one {x N : Nat} (f : Nat → Nat) (h : x < N) : sumR (fun k => (if x = k then 1 else 0) * f k) N = f x := by
  induction N with
  | zero => omega
  | succ N ih =>
    rw [sumR_succ]
    by_cases e : x = N
    · rw [sumR_nought fun i hi => by rw [if_neg (by omega), Nat.zero_mul], if_pos e, Nat.one_mul, Nat.zero_add, e]
    · rw [ih (by omega), if_neg e, Nat.zero_mul, Nat.add_zero]
/-- the words counted by their weights -/
theorem sum_byPc {m : Nat} (f : Nat → Nat) : ∀ {M : List Nat}, (∀ w ∈ M, pc w ≤ m) → (M.map fun w => f (pc w)).sum = sumR (fun k => rc M k * f k) (m + 1)
  | [], _ => (sumR_nought fun i _ => Nat.zero_mul _).symm
  | w :: M, h => by
    have hw := h w (List.mem_cons_self ..)
    rw [List.map_cons, List.sum_cons, sum_byPc f fun v hv => h v (List.mem_cons_of_mem _ hv), ← sumR_one f (show pc w < m + 1 by omega), ← sumR_add]
    exact sumR_congr fun i _ => by rw [rc_cons, Nat.add_mul]
def cv (f g : Nat → Nat) (t : Nat) : Nat := sumR (fun i => f i * g (t - i)) (t + 1)
theorem cv_comm (f g : Nat → Nat) (t : Nat) : cv f g t = cv g f t := by
  unfold cv
  rw [sumR_rev]
  refine sumR_congr fun i hi => ?_
  rw [Nat.mul_comm, show t - (t - i) = i by omega]
theorem rc_map {n m : Nat} (k : n + m ≤ 24) {w : Nat} (hw : w < 2 ^ m) : ∀ {L : List Nat}, (∀ o ∈ L, o < 2 ^ n) → ∀ j, rc (L.map fun o => w * 2 ^ n + o) j = if pc w ≤ j then rc L (j - pc w) else 0
  | [], _, j => by
    rw [List.map_nil]
    show 0 = if _ then 0 else 0
    rw [ite_self]
  | o :: L, h, j => by
    rw [List.map_cons, rc_cons, rc_map k hw (fun v hv => h v (List.mem_cons_of_mem _ hv)) j, pc_app (h o (List.mem_cons_self ..)) hw k]
    by_cases c : pc w ≤ j
    · rw [if_pos c, if_pos c, rc_cons]
      by_cases e : pc o = j - pc w
      · rw [if_pos e, if_pos (by omega)]
      · rw [if_neg e, if_neg (by omega)]
    · rw [if_neg c, if_neg c, if_neg (by omega)]
theorem rc_besL {n m : Nat} {L : List Nat} (k : n + m ≤ 24) (hL : ∀ o ∈ L, o < 2 ^ n) : ∀ {M : List Nat}, (∀ w ∈ M, w < 2 ^ m) → ∀ j, rc (besL n L M) j = (M.map fun w => if pc w ≤ j then rc L (j - pc w) else 0).sum
  | [], _, j => rfl
  | w :: M, h, j => by
    have ih := rc_besL k hL (fun v hv => h v (List.mem_cons_of_mem _ hv)) j
    unfold besL at ih ⊢
    rw [List.map_cons, List.flatten_cons, rc_app, ih, rc_map (L := L) k (h w (List.mem_cons_self ..)) hL, List.map_cons, List.sum_cons]
theorem rc_bes {n m : Nat} {L M : List Nat} (k : n + m ≤ 24) (hL : ∀ o ∈ L, o < 2 ^ n) (hM : ∀ w ∈ M, w < 2 ^ m) (j : Nat) : rc (besL n L M) j = cv (rc L) (rc M) j := by
  have pm : ∀ w ∈ M, pc w ≤ m := fun w hw => pc_le_n (by omega) (hM w hw)
  rw [rc_besL k hL hM j, sum_byPc (fun x => if x ≤ j then rc L (j - x) else 0) pm, cv_comm]
  unfold cv
  by_cases c : m ≤ j
  · rw [sumR_cut (N := m + 1) (M := j + 1) (fun i h1 _ => by rw [rc_off pm (by omega), Nat.zero_mul]) (by omega)]
    exact sumR_congr fun i hi => by rw [if_pos (show i ≤ j by omega)]
  · rw [sumR_cut (N := j + 1) (M := m + 1) (fun i h1 _ => by rw [if_neg (by omega), Nat.mul_zero]) (by omega)]
    exact sumR_congr fun i hi => by rw [if_pos (show i ≤ j by omega)]
theorem row_at {n : Nat} {B : List Nat} (f : RoomF n B) (j : Nat) : (rowB n B).getD j 0 = rc (wordsOf B) j := by
  by_cases h : j ≤ n
  · rw [List.getD_eq_getElem?_getD]
    unfold rowB
    rw [rowP_at h]
    rfl
  · rw [rc_off (fun v hv => pc_le_n f.n24 (words_lt f.pl f.lt v hv)) (Nat.lt_of_not_le h), List.getD_eq_getElem?_getD, List.getElem?_eq_none (by rw [rowB_len]; omega)]
    rfl
/-- the product of two rows -/
def cvL (A B : List Nat) : List Nat := (List.range (A.length + B.length - 1)).map (cv (A.getD · 0) (B.getD · 0))
theorem cvL_comm (A B : List Nat) : cvL A B = cvL B A := by
  unfold cvL
  rw [Nat.add_comm]
  exact List.map_congr_left fun j _ => cv_comm _ _ j
theorem bes_F {n m : Nat} {A B : List Nat} (fA : RoomF n A) (fB : RoomF m B) (k : n + m ≤ 24) : RoomF (n + m) (bas (besB n A B)) := ⟨bas_plain _, by have := fA.n1; omega, k, bas_lt (bes_lt fA.lt fB.lt)⟩
theorem row_bes {n m : Nat} {A B : List Nat} (fA : RoomF n A) (fB : RoomF m B) (k : n + m ≤ 24) : rowB (n + m) (bas (besB n A B)) = cvL (rowB n A) (rowB m B) := by
  unfold cvL
  rw [rowB_len, rowB_len, show n + 1 + (m + 1) - 1 = n + m + 1 by omega]
  refine (rowB_of (L := besL n (wordsOf A) (wordsOf B)) (bas_plain _) (fun v => ?_) ?_).symm.trans ?_
  · exact (besL_ok fA.lt (words_spanL fA.pl) (words_spanL fB.pl)).1 v
  · exact (besL_ok fA.lt (words_spanL fA.pl) (words_spanL fB.pl)).nd
  · refine List.map_congr_left fun j _ => ?_
    show rc _ j = _
    rw [rc_bes k (words_lt fA.pl fA.lt) (words_lt fB.pl fB.lt)]
    refine sumR_congr fun i _ => ?_
    show _ = (rowB n A).getD i 0 * (rowB m B).getD (j - i) 0
    rw [row_at fA, row_at fB]
/-! rows of led rooms, of rooms with all places -/
theorem rc_pcs {L M : List Nat} (h : (L.map pc).Perm (M.map pc)) (j : Nat) : rc L j = rc M j := by
  have e : ∀ X : List Nat, rc X j = ((X.map pc).filter fun x => decide (x = j)).length := fun X => by
    induction X with
    | nil =>
      unfold rc
      rw [List.map_nil, List.filter_nil, List.filter_nil]
    | cons v X ih =>
      rw [rc_cons, List.map_cons, List.filter_cons, ih]
      by_cases c : pc v = j
      · rw [if_pos c, if_pos (decide_eq_true c), List.length_cons, Nat.add_comm]
      · rw [if_neg c, if_neg (by simp [c]), Nat.zero_add]
  rw [e, e]
  exact (h.filter _).length_eq
theorem rowB_rc (n : Nat) (B : List Nat) : rowB n B = (List.range (n + 1)).map (rc (wordsOf B)) := rfl
theorem row_ex {n : Nat} {A s : List Nat} (hs : Seq n s) (f : RoomF n A) : rowB n (bas (exB A s)) = rowB n A := by
  have e := ex_pcs hs f.n24 f.lt (words_spanL f.pl)
  rw [rowB_rc, rowB_rc]
  refine List.map_congr_left fun j _ => rc_pcs ?_ j
  exact ((sortN_perm _).symm.trans (List.Perm.of_eq e)).trans (sortN_perm _)
theorem pc_flip {n w : Nat} (n24 : n ≤ 24) (hw : w < 2 ^ n) : pc (w ^^^ (2 ^ n - 1)) = n - pc w := by
  have t := pc_two w (2 ^ n - 1)
  rw [Nat.and_two_pow_sub_one_eq_mod, Nat.mod_eq_of_lt hw, pc_mask n24] at t
  have := pc_le_n n24 hw
  omega
theorem row_sym {n : Nat} {B : List Nat} (f : RoomF n B) (h : span B (2 ^ n - 1)) : (rowB n B).reverse = rowB n B := by
  have p1 := Nat.two_pow_pos n
  have lt := words_lt f.pl f.lt
  have n24 := f.n24
  obtain ⟨mem, nd, _⟩ := words_ok f.pl
  have pm : ((wordsOf B).map (· ^^^ (2 ^ n - 1))).Perm (wordsOf B) := by
    refine (List.perm_ext_iff_of_nodup (map_nd (fun a _ b _ e => ?_) nd) nd).mpr fun v => ?_
    · have := congrArg (· ^^^ (2 ^ n - 1)) e
      simpa [Nat.xor_assoc] using this
    · rw [List.mem_map]
      constructor
      · rintro ⟨w, hw, rfl⟩
        exact (mem _).mpr (span_xor ((mem w).mp hw) h)
      · intro hv
        exact ⟨v ^^^ (2 ^ n - 1), (mem _).mpr (span_xor ((mem v).mp hv) h), by rw [Nat.xor_assoc, Nat.xor_self, Nat.xor_zero]⟩
  have turn : ∀ j, j ≤ n → rc (wordsOf B) (n - j) = rc (wordsOf B) j := fun j hj => by
    have e1 : rc (wordsOf B) j = rc ((wordsOf B).map (· ^^^ (2 ^ n - 1))) j := rc_pcs (pm.symm.map pc) j
    rw [e1]
    clear e1 pm mem nd h f
    have key : ∀ X : List Nat, (∀ v ∈ X, v < 2 ^ n) → rc X (n - j) = rc (X.map (· ^^^ (2 ^ n - 1))) j := fun X => by
      induction X with
      | nil =>
        intro _
        unfold rc
        rw [List.map_nil, List.filter_nil, List.filter_nil]
      | cons v X ih =>
        intro hX
        have hv := hX v (List.mem_cons_self ..)
        have := pc_le_n n24 hv
        rw [List.map_cons, rc_cons, rc_cons, ih fun w hw => hX w (List.mem_cons_of_mem _ hw), pc_flip n24 hv]
        by_cases c : pc v = n - j
        · rw [if_pos c, if_pos (by omega)]
        · rw [if_neg c, if_neg (by omega)]
    exact key _ lt
  rw [rowB_rc, ← List.map_reverse, ← PySem.W.krv_range, List.map_map]
  refine List.map_congr_left fun j hj => ?_
  have := List.mem_range.mp hj
  have t := turn j (by omega)
  show rc (wordsOf B) (n + 1 - 1 - j) = rc (wordsOf B) j
  rw [show n + 1 - 1 - j = n - j by omega]
  exact t
theorem rc_le {L M : List Nat} (nd : L.Nodup) (h : ∀ v ∈ L, v ∈ M) (j : Nat) : rc L j ≤ rc M j := by
  refine List.Nodup.length_le_of_subset (nd.filter _) fun v hv => ?_
  obtain ⟨h1, h2⟩ := List.mem_filter.mp hv
  exact List.mem_filter.mpr ⟨h v h1, h2⟩
theorem row_le {n : Nat} {A B : List Nat} (fA : RoomF n A) (fB : RoomF n B) (h : ∀ v, span A v → span B v) (j : Nat) : (rowB n A).getD j 0 ≤ (rowB n B).getD j 0 := by
  rw [row_at fA, row_at fB]
  exact rc_le (words_ok fA.pl).2.1 (fun v hv => ((words_ok fB.pl).1 v).mpr (h v (((words_ok fA.pl).1 v).mp hv))) j
/-! words of even weights alone -/
theorem rc_pos {L : List Nat} {v : Nat} (h : v ∈ L) : rc L (pc v) ≠ 0 := fun e => by
  have := List.length_eq_zero_iff.mp e
  exact List.not_mem_nil (this ▸ List.mem_filter.mpr ⟨h, decide_eq_true rfl⟩)
def oddsL (r : List Nat) : List Nat := (List.range (r.length / 2)).map fun k => r.getD (2 * k + 1) 0
theorem sum_nought {l : List Nat} : l.sum = 0 ↔ ∀ x ∈ l, x = 0 := by
  induction l with
  | nil => exact ⟨fun _ _ h => (List.not_mem_nil h).elim, fun _ => rfl⟩
  | cons x l ih =>
    rw [List.sum_cons, Nat.add_eq_zero_iff, ih]
    exact ⟨fun ⟨a, b⟩ y hy => (List.mem_cons.mp hy).elim (fun e => e ▸ a) (b y), fun h => ⟨h x (List.mem_cons_self ..), fun y hy => h y (List.mem_cons_of_mem _ hy)⟩⟩
theorem odds_con {n : Nat} {B : List Nat} (f : RoomF n B) : (oddsL (rowB n B)).sum = 0 ↔ restOf (2 ^ n - 1) (bas (conB n B)) = 0 := by
  have p1 := Nat.two_pow_pos n
  obtain ⟨mem, nd, _⟩ := words_ok f.pl
  have lt := words_lt f.pl f.lt
  rw [rest_zero (bas_plain _).1, con_spanS f.pl f.n24 f.lt, sum_nought]
  constructor
  · intro h
    refine ⟨by omega, fun b hb => ?_⟩
    have hb' := (mem b).mpr hb
    have bl := lt b hb'
    have pl := pc_le_n f.n24 bl
    unfold par
    rw [Nat.and_comm, Nat.and_two_pow_sub_one_eq_mod, Nat.mod_eq_of_lt bl]
    refine decide_eq_false fun o => rc_pos hb' ?_
    have := h (rc (wordsOf B) (pc b)) (List.mem_map.mpr ⟨pc b / 2, List.mem_range.mpr (by rw [rowB_len]; omega), by rw [row_at f, show 2 * (pc b / 2) + 1 = pc b by omega]⟩)
    exact this
  · rintro ⟨_, h⟩ x hx
    obtain ⟨k, _, rfl⟩ := List.mem_map.mp hx
    rw [row_at f]
    refine List.length_eq_zero_iff.mpr (List.filter_eq_nil_iff.mpr fun v hv e => ?_)
    have e := of_decide_eq_true e
    have := h v ((mem v).mp hv)
    unfold par at this
    rw [Nat.and_comm, Nat.and_two_pow_sub_one_eq_mod, Nat.mod_eq_of_lt (lt v hv)] at this
    have := of_decide_eq_false this
    omega
theorem ev_stepL {W : Wd} {Ds : EnvT W} {te : TE} {K : PySem.W.Frag} {a b : Int} {xs : List V} (z : ((L2.stepIx a b xs.length).filterMap (xs[·]?)).length ≤ sizeLine) (h : EV Ds te (dLst xs)) : EV Ds (L2.tStepL K a b te) (dLst ((L2.stepIx a b xs.length).filterMap (xs[·]?))) := fun σ H Q iv en q => h σ H _ iv en fun v H1 l1 ⟨p, e, g, h1⟩ => by
  subst e
  have iv1 := W.step l1 iv
  exact ⟨p, xs, rfl, SqL.of h1, z, fun p2 np => q _ _ (W.trans l1 (W.put iv1 (W.refl _) np)) ⟨p2, rfl, W.fresh iv1 np, upd_same⟩⟩
theorem step_odd : ∀ L < 12, L2.stepIx 1 2 L = (List.range (L / 2)).map fun k => 2 * k + 1 := by decide +kernel
theorem ev_odds {W : Wd} {Ds : EnvT W} {te : TE} {K : PySem.W.Frag} {r : List Nat} (h : EV Ds te (dVs r)) (l : r.length < 12) : EV Ds (L2.tStepL K 1 2 te) (dVs (oddsL r)) := by
  refine ev_eqD (ev_stepL (by rw [len_vs, step_odd _ l]; exact Nat.le_trans (List.length_filterMap_le _ _) (by rw [List.length_map, List.length_range]; exact Nat.le_trans (show r.length / 2 ≤ 100000 by omega) (by decide))) h) (congrArg dLst ?_)
  rw [len_vs, step_odd _ l]
  unfold oddsL vs
  rw [List.filterMap_map, List.map_map]
  have : ∀ k ∈ List.range (r.length / 2), ((fun i => (r.map fun v : Nat => V.int (v : Int))[i]?) ∘ fun k => 2 * k + 1) k = some (V.int (r.getD (2 * k + 1) 0 : Nat)) := fun k hk => by
    have := List.mem_range.mp hk
    show (r.map _)[2 * k + 1]? = _
    rw [List.getElem?_map, List.getD_eq_getElem?_getD, List.getElem?_eq_getElem (show 2 * k + 1 < r.length by omega)]
    rfl
  revert this
  generalize List.range (r.length / 2) = R
  intro h
  induction R with
  | nil => rfl
  | cons k R ih => rw [List.filterMap_cons_some (h k (List.mem_cons_self ..)), ih fun x hx => h x (List.mem_cons_of_mem _ hx)]; rfl

theorem lt_of_LX {W : Wd} {P : List Nat → Prop} {Ds : EnvT W} {te : TE} (h : EV Ds te (dEx P dVs)) : EV Ds te (dEx P dLT) := ev_wk h fun v H ⟨l, p, a, e, g, h⟩ => ⟨l, p, a, e, g, .inl h⟩
theorem row_small {n : Nat} {B : List Nat} (f : RoomF n B) : ∀ v ∈ rowB n B, v ≤ 4294967296 := fun v hv => by
  have s := (rowB_P f).sum0.2
  obtain ⟨k, hk, e⟩ := List.mem_iff_getElem.mp hv
  have t := getD_le_sum (rowB n B) k
  rw [List.getD_eq_getElem?_getD, List.getElem?_eq_getElem hk] at t
  have : v ≤ (rowB n B).sum := by rw [← e]; exact t
  omega
theorem chg_bes {n m : Nat} {A B : List Nat} (fA : RoomF n A) (fB : RoomF m B) (k : n + m ≤ 24) : ChgP (cvL (rowB n A) (rowB m B), cvL (rowB n (bas (conB n A))) (rowB m (bas (conB m B)))) := by
  rw [← row_bes fA fB k, ← row_bes (con_F fA) (con_F fB) k, ← rowB_congr (bas_plain _) (bas_plain _) (con_bes fA.pl fB.pl k fA.lt fB.lt)]
  exact rowB_chg (bes_F fA fB k) (con_F (bes_F fA fB k))
theorem all_span (A : List Nat) (w : Nat) : span (bas (A ++ bas [w])) w := (bas_span _ _).mpr fun S hS h => (bas_span [w] w).mpr (fun S2 h2 k => k w (List.mem_singleton_self w)) S hS fun x hx => h x (List.mem_append_right _ hx)
theorem sum_F {n : Nat} {A B : List Nat} (fA : RoomF n A) (fB : RoomF n B) : RoomF n (bas (A ++ B)) := ⟨bas_plain _, fA.n1, fA.n24, bas_lt fun c hc => (List.mem_append.mp hc).elim (fA.lt c) (fB.lt c)⟩
/-! _law_times -/
def tkv (A B : List Nat) (k j t : Nat) : Nat := sumR (fun i => if i ≤ t then A.getD i 0 * B.getD (t - i) 0 else 0) k + if k ≤ t ∧ t < k + j then A.getD k 0 * B.getD (t - k) 0 else 0
def tkL (A B : List Nat) (k j : Nat) : List Nat := (List.range (A.length + B.length - 1)).map (tkv A B k j)
section
variable {A B : List Nat} {k j t : Nat}
theorem tkL_len : (tkL A B k j).length = A.length + B.length - 1 := by
  unfold tkL
  rw [List.length_map, List.length_range]
theorem tkL_at (h : t < A.length + B.length - 1) : (tkL A B k j)[t]? = some (tkv A B k j t) := by
  unfold tkL
  rw [List.getElem?_map, List.getElem?_range h]
  rfl
theorem tkL_zero : tkL A B 0 0 = List.replicate (A.length + B.length - 1) 0 := by
  refine List.eq_replicate_iff.mpr ⟨tkL_len, fun x hx => ?_⟩
  obtain ⟨t, _, rfl⟩ := List.mem_map.mp hx
  unfold tkv
  rw [if_neg (by omega), sumR_zero]
theorem getD_off {l : List Nat} {i : Nat} (h : l.length ≤ i) : l.getD i 0 = 0 := by
  rw [List.getD_eq_getElem?_getD, List.getElem?_eq_none h]
  rfl
theorem tkL_step (hk : k < A.length) (hj : j < B.length) : (tkL A B k j).set (k + j) (tkv A B k j (k + j) + A.getD k 0 * B.getD j 0) = tkL A B k (j + 1) := by
  refine List.ext_getElem? fun t => ?_
  by_cases h : t < A.length + B.length - 1
  · rw [tkL_at h, List.getElem?_set]
    by_cases e : k + j = t
    · subst e
      rw [if_pos rfl, if_pos (by rw [tkL_len]; exact h)]
      unfold tkv
      rw [if_neg (by omega), if_pos (by omega), Nat.add_zero, Nat.add_sub_cancel_left]
    · rw [if_neg e, tkL_at h]
      unfold tkv
      by_cases c : k ≤ t ∧ t < k + j
      · rw [if_pos c, if_pos (by omega)]
      · rw [if_neg c, if_neg (by omega)]
  · rw [List.getElem?_eq_none (by rw [List.length_set, tkL_len]; omega), List.getElem?_eq_none (by rw [tkL_len]; omega)]
theorem tkL_row : tkL A B k B.length = tkL A B (k + 1) 0 := by
  refine List.map_congr_left fun t _ => ?_
  unfold tkv
  rw [sumR_succ, if_neg (show ¬ (k + 1 ≤ t ∧ t < k + 1 + 0) by omega), Nat.add_zero]
  by_cases c : k ≤ t
  · rw [if_pos c]
    by_cases d : t < k + B.length
    · rw [if_pos ⟨c, d⟩]
    · rw [if_neg (by omega), getD_off (show B.length ≤ t - k by omega), Nat.mul_zero]
  · rw [if_neg (by omega), if_neg c]
theorem tkL_end : tkL A B A.length 0 = cvL A B := by
  refine List.map_congr_left fun t _ => ?_
  unfold tkv cv
  rw [if_neg (by omega), Nat.add_zero]
  by_cases c : A.length ≤ t + 1
  · rw [sumR_cut (N := A.length) (M := t + 1) (fun i h1 _ => by show A.getD i 0 * B.getD (t - i) 0 = 0; rw [getD_off h1, Nat.zero_mul]) c]
    exact sumR_congr fun i hi => by rw [if_pos (by omega)]
  · rw [sumR_cut (N := t + 1) (M := A.length) (fun i h1 _ => by rw [if_neg (by omega)]) (by omega)]
    exact sumR_congr fun i hi => by rw [if_pos (by omega)]
end
section
variable {W : Wd} {A B : List Nat}
structure TnP (i : List Nat × List Nat) : Prop where
  a1 : 1 ≤ i.1.length
  a25 : i.1.length ≤ 25
  b1 : 1 ≤ i.2.length
  b25 : i.2.length ≤ 25
  sm : ∀ v ∈ i.1, v ≤ 4294967296
def sp_ltimesN : Sp := spW (ι := List Nat × List Nat) (fun _ i => TnP i) (fun _ i => [dVs i.1, dVs i.2]) fun _ i => dVs (cvL i.1 i.2)
theorem sd_ltimesN (h : TnP (A, B)) : SpD sp_ltimesN [] [(dVs A : Dn W), dVs B] (dVs (cvL A B)) := spW_sd (i := (A, B)) h
theorem row_Tn {n m : Nat} {A B : List Nat} (fA : RoomF n A) (fB : RoomF m B) : TnP (rowB n A, rowB m B) := ⟨by rw [rowB_len]; omega, by rw [rowB_len]; have := fA.n24; omega, by rw [rowB_len]; omega, by rw [rowB_len]; have := fB.n24; omega, row_small fA⟩
end
end Vf

set_option Elab.async false
set_option linter.all false
set_option maxRecDepth 100000
set_option maxHeartbeats 4000000
set_option pp.maxSteps 300
namespace K39
open PySem PySem.Spec PyProof.Rows L2 Vf
abbrev topS (i : Nat) : Stmt := PySem.Challenge.pw_owncontraries_k39_whole_rows_beside_and.main.body.getD i (.Pass ⟨0, 0, 0, 0⟩)
section
variable {P : Program} {w : World} {K : PySem.W.Frag} {mg : Str → Option Value} {base : Heap} {C : Addr}
abbrev s_is_integer : Stmt := topS 15
abbrev N_is_integer : List Str := ["value"]
theorem sc_is_integer : FnScope N_is_integer ["value"] (defScope s_is_integer) := ⟨rfl, rfl, rfl, by decide +kernel, rfl, by decide +kernel, by decide +kernel⟩
theorem ok_is_integer {f : Addr} {fd : FuncData} (F : Fun K "is_integer" "is_integer" s_is_integer f fd) (m_isinstance : mg "isinstance" = none) (m_int : mg "int" = none) (m_bool : mg "bool" = none) :
    FnOk P w K mg base CX0 1 f fd ["value"] sp_is_integer := by
  refine F.ok sc_is_integer (fun vs H Q E h => ?_) (fun cdv A outer s H vs Q E hr h => ?_)
  · obtain ⟨i, rfl, _⟩ := h
    rfl
  · obtain ⟨i, rfl, q⟩ := h
    refine ⟨_, (pss_one (ps_ret (pe_and (pe_callB call_isi (by rfl) m_isinstance (by decide +kernel) (pa_cons (pv 0) (pa_cons (pe_bltn (v := .ty "int") (by rfl) m_int (by decide +kernel) rfl) pa_nil))) (pe_one (pe_not (pe_callB call_isi (by rfl) m_isinstance (by decide +kernel) (pa_cons (pv 0) (pa_cons (pe_bltn (v := .ty "bool") (by rfl) m_bool (by decide +kernel) rfl) pa_nil)))))))), ?_⟩
    refine ⟨.int i, rfl, .int i, .ty "int", .type "int", .type "int", true, rfl, .ty _, .base (.int i), kit_ty (by decide +kernel), true, rfl, iteT ?_⟩
    exact ⟨.int i, rfl, .int i, .ty "bool", .type "int", .type "bool", false, rfl, .ty _, .base (.int i), kit_ty (by decide +kernel), false, rfl, q⟩
abbrev s_is_count : Stmt := topS 16
abbrev N_is_count : List Str := ["value"]
theorem sc_is_count : FnScope N_is_count ["value"] (defScope s_is_count) := ⟨rfl, rfl, rfl, by decide +kernel, rfl, by decide +kernel, by decide +kernel⟩
theorem ok_is_count {f : Addr} {fd : FuncData} (F : Fun K "is_count" "is_count" s_is_count f fd) (C_is_integer : Cal P w K mg base "is_integer" 1 ["value"] [] sp_is_integer) :
    FnOk P w K mg base CX0 2 f fd ["value"] sp_is_count := by
  refine F.ok sc_is_count (fun vs H Q E h => ?_) (fun cdv A outer s H vs Q E hr h => ?_)
  · obtain ⟨i, rfl, _⟩ := h
    rfl
  · obtain ⟨i, rfl, q⟩ := h
    refine ⟨_, (pss_one (ps_ret (pe_and (pe_cal C_is_integer (hr.mono (by decide)) (by rfl) (pa_cons (pv 0) pa_nil)) (pe_one (pe_cmpR op_ge (pv 0) pe_int (nomark _)))))), ?_⟩
    refine ⟨.int i, rfl, i, rfl, true, rfl, iteT ?_⟩
    exact ⟨.int i, rfl, i, 0, rfl, rfl, q⟩
abbrev s_is_list : Stmt := topS 17
abbrev N_is_list : List Str := ["value"]
theorem sc_is_list : FnScope N_is_list ["value"] (defScope s_is_list) := ⟨rfl, rfl, rfl, by decide +kernel, rfl, by decide +kernel, by decide +kernel⟩
theorem ok_is_list {f : Addr} {fd : FuncData} (F : Fun K "is_list" "is_list" s_is_list f fd) (m_isinstance : mg "isinstance" = none) (m_list : mg "list" = none) (m_tuple : mg "tuple" = none) :
    FnOk P w K mg base CX0 1 f fd ["value"] sp_is_list := by
  refine F.ok sc_is_list (fun vs H Q E h => ?_) (fun cdv A outer s H vs Q E hr h => ?_)
  · obtain ⟨a, xs, rfl, _⟩ := h
    rfl
  · obtain ⟨a, xs, rfl, hS, q⟩ := h
    refine ⟨_, (pss_one (ps_ret (pe_callB call_isiT (by rfl) m_isinstance (by decide +kernel) (pa_cons (pv 0) (pa_cons (pe_tup (pa_cons (pe_bltn (v := .ty "list") (by rfl) m_list (by decide +kernel) rfl) (pa_cons (pe_bltn (v := .ty "tuple") (by rfl) m_tuple (by decide +kernel) rfl) pa_nil))) pa_nil))))), ?_⟩
    refine ⟨.ref a, rfl, by show 2 ≤ sizeLine; decide, fun t ht => ?_⟩
    have s1 : Same H (upd H t (.tup [.ty "list", .ty "tuple"])) := same_new ht
    rcases hS.same s1 with h1 | h1
    · exact ⟨.ref a, t, [.ty "list", .ty "tuple"], .type "list", [.type "list", .type "tuple"], true, rfl, upd_same, .cons (.ty _) (.cons (.ty _) .nil), .base (.lst h1),
        kitAny_cons (b := true) (kit_ty (by decide +kernel)) (fun z => by cases z) (fun _ => rfl), q _ s1⟩
    · exact ⟨.ref a, t, [.ty "list", .ty "tuple"], .type "tuple", [.type "list", .type "tuple"], true, rfl, upd_same, .cons (.ty _) (.cons (.ty _) .nil), .base (.tup h1),
        kitAny_cons (b := false) (kit_ty (by decide +kernel)) (fun _ => kitAny_cons (b := true) (kit_ty (by decide +kernel)) (fun z => by cases z) (fun _ => rfl)) (fun z => by cases z), q _ s1⟩
abbrev s_is_places : Stmt := topS 20
abbrev N_is_places : List Str := ["value"]
theorem sc_is_places : FnScope N_is_places ["value"] (defScope s_is_places) := ⟨rfl, rfl, rfl, by decide +kernel, rfl, by decide +kernel, by decide +kernel⟩
theorem ok_is_places {f : Addr} {fd : FuncData} (F : Fun K "is_places" "is_places" s_is_places f fd) (C_is_integer : Cal P w K mg base "is_integer" 1 ["value"] [] sp_is_integer)
    {t : Tok} (g_MOST_PLACES : mg "MOST_PLACES" = some (.int 24 t)) : FnOk P w K mg base CX0 2 f fd ["value"] sp_is_places := by
  refine F.ok sc_is_places (fun vs H Q E h => ?_) (fun cdv A outer s H vs Q E hr h => ?_)
  · obtain ⟨i, rfl, _⟩ := h
    rfl
  · obtain ⟨n, rfl, h1, h2, q⟩ := h
    refine ⟨_, (pss_one (ps_ret (pe_and (pe_cal C_is_integer (hr.mono (by decide)) (by rfl) (pa_cons (pv 0) pa_nil)) (pe_one (pe_chain op_le op_le pe_int (pv 0) (pe_glob (v := .int 24) rfl g_MOST_PLACES ⟨_, rfl⟩)))))), ?_⟩
    refine ⟨.int n, rfl, n, rfl, true, rfl, iteT ?_⟩
    refine ⟨.int n, rfl, 1, n, rfl, rfl, true, bl_t (show (1 : Int) ≤ (n : Int) by omega), iteT ?_⟩
    refine ⟨n, 24, rfl, rfl, ?_⟩
    show Q (V.bl (decide ((n : Int) ≤ 24))) H
    rw [show decide ((n : Int) ≤ 24) = true from decide_eq_true (by omega)]
    exact q
abbrev s_check_places : Stmt := topS 21
abbrev N_check_places : List Str := ["places"]
theorem sc_check_places : FnScope N_check_places ["places"] (defScope s_check_places) := ⟨rfl, rfl, rfl, by decide +kernel, rfl, by decide +kernel, by decide +kernel⟩
theorem ok_check_places {f : Addr} {fd : FuncData} (F : Fun K "check_places" "check_places" s_check_places f fd) (C_is_places : Cal P w K mg base "is_places" 2 ["value"] [] sp_is_places) :
    FnOk P w K mg base CX0 3 f fd ["places"] sp_check_places := by
  refine F.ok sc_check_places (fun vs H Q E h => ?_) (fun cdv A outer s H vs Q E hr h => ?_)
  · obtain ⟨i, rfl, _⟩ := h
    rfl
  · obtain ⟨n, rfl, h1, h2, q⟩ := h
    refine ⟨_, (pss_one (ps_if (pt_not (pt_val (pe_cal C_is_places (hr.mono (by decide)) (by rfl) (pa_cons (pv 0) pa_nil)))) (pss_one ps_never) pss_nil)), ?_⟩
    exact ⟨.int n, rfl, n, rfl, h1, h2, true, rfl, iteF q⟩
abbrev s_is_word : Stmt := topS 22
abbrev N_is_word : List Str := ["places", "value"]
theorem sc_is_word : FnScope N_is_word ["places", "value"] (defScope s_is_word) := ⟨rfl, rfl, rfl, by decide +kernel, rfl, by decide +kernel, by decide +kernel⟩
theorem ok_is_word {f : Addr} {fd : FuncData} (F : Fun K "is_word" "is_word" s_is_word f fd) (C_check_places : Cal P w K mg base "check_places" 3 ["places"] [] sp_check_places) (C_is_count : Cal P w K mg base "is_count" 2 ["value"] [] sp_is_count) :
    FnOk P w K mg base CX0 4 f fd ["places", "value"] sp_is_word := by
  refine F.ok sc_is_word (fun vs H Q E h => ?_) (fun cdv A outer s H vs Q E hr h => ?_)
  · obtain ⟨i, j, rfl, _⟩ := h
    rfl
  · obtain ⟨n, m, rfl, h1, h2, q⟩ := h
    refine ⟨_, (pss_cons (ps_expr (pe_cal C_check_places (hr.mono (by decide)) (by rfl) (pa_cons (pv 0) pa_nil)))
    (pss_one (ps_ret (pe_and (pe_cal C_is_count (hr.mono (by decide)) (by rfl) (pa_cons (pv 1) pa_nil)) (pe_one (pe_cmpR op_lt (pv 1) (pe_op op_oneShl pe_int (pv 0)) (nomark _))))))), ?_⟩
    refine ⟨.int n, rfl, n, rfl, h1, h2, .int m, rfl, m, rfl, true, bl_t (show (0 : Int) ≤ (m : Int) by omega), iteT ?_⟩
    · refine ⟨.int m, rfl, .int n, rfl, n, rfl, rfl, by omega, m, 2 ^ n, rfl, rfl, ?_⟩
      have e : decide ((m : Int) < 2 ^ n) = decide (m < 2 ^ n) := by
        apply decide_eq_decide.mpr
        have e2 : (2 : Int) ^ n = ((2 ^ n : Nat) : Int) := by
          rw [Int.natCast_pow]
          rfl
        rw [e2]
        exact Int.ofNat_lt
      show Q (V.bl (decide ((m : Int) < 2 ^ n))) H
      rw [e]
      exact q
abbrev s_check_word : Stmt := topS 23
abbrev N_check_word : List Str := ["word", "places"]
theorem sc_check_word : FnScope N_check_word ["word", "places"] (defScope s_check_word) := ⟨rfl, rfl, rfl, by decide +kernel, rfl, by decide +kernel, by decide +kernel⟩
theorem ok_check_word {f : Addr} {fd : FuncData} {kws : List (Str × V)} (F : FunD K "check_word" "check_word" (defArgs s_check_word) (defBody s_check_word) (defScope s_check_word) [.int 24] kws f fd) (C_is_word : Cal P w K mg base "is_word" 4 ["places", "value"] [] sp_is_word) :
    FnOk P w K mg base CX0 5 f fd ["word", "places"] sp_check_word := by
  refine F.ok sc_check_word (fun vs H Q E h => ?_) (fun cdv A outer s H vs Q E hr h => ?_)
  · obtain ⟨i, j, rfl, _⟩ := h
    rfl
  · obtain ⟨m, n, rfl, n1, n2, h1, q⟩ := h
    refine ⟨_, (pss_one (ps_if (pt_not (pt_val (pe_cal C_is_word (hr.mono (by decide)) (by rfl) (pa_cons (pv 1) (pa_cons (pv 0) pa_nil))))) (pss_one ps_never) pss_nil)), ?_⟩
    exact ⟨.int n, rfl, .int m, rfl, n, m, rfl, n1, n2, true, bl_t h1, iteF q⟩
abbrev s_weight : Stmt := topS 24
abbrev N_weight : List Str := ["word", "left", "count"]
theorem sc_weight : FnScope N_weight ["word"] (defScope s_weight) := ⟨rfl, rfl, rfl, by decide +kernel, rfl, by decide +kernel, by decide +kernel⟩
theorem ok_weight {f : Addr} {fd : FuncData} (F : Fun K "weight" "weight" s_weight f fd) (C1_check_word : Cal P w K mg base "check_word" 5 ["word", "places"] [.int 24] sp_check_word) :
    FnOk P w K mg base CX0 6 f fd ["word"] sp_weight := by
  refine F.ok sc_weight (fun vs H Q E h => ?_) (fun cdv A outer s H vs Q E hr h => ?_)
  · obtain ⟨i, rfl, _⟩ := h
    rfl
  · obtain ⟨m, rfl, h1, q⟩ := h
    refine ⟨_, (pss_cons (ps_expr (pe_cal C1_check_word (hr.mono (by decide)) (by rfl) (pa_cons (pv 0) pa_nil)))
    (pss_cons (ps_set (i := 1) sc_weight.nd rfl (Or.inl rfl) (pv 0))
    (pss_cons (ps_set (i := 2) sc_weight.nd rfl (Or.inl rfl) pe_int)
    (pss_cons (ps_while PassesOwn.never (pt_cmpR op_gtN (pv 1) pe_int (nomark _)) (pss_cons (ps_set (i := 1) sc_weight.nd rfl (Or.inl rfl) (pe_op op_andN (pv 1) (pe_op op_subN (pv 1) pe_int)))
    (pss_one (ps_aug (i := 2) sc_weight.nd rfl (Or.inl rfl) pe_int ip_add))))
    (pss_one (ps_ret (pv 2))))))), ?_⟩
    refine ⟨.int m, rfl, m, 24, rfl, by decide, by decide, h1, .int m, rfl, ?_⟩
    refine while_by (fun σ H' => ∃ l c : Nat, σ = [some (.int m), some (.int l), some (.int c)] ∧ c + pc l = pc m ∧ l ≤ m ∧ H' = H)
      (fun σ _ => match σ with | [_, some (.int l), _] => l.toNat | _ => 0) ⟨m, 0, rfl, by omega, Nat.le_refl _, rfl⟩ ?_
      (fun σ H Q Q' f ⟨v, e, i, j, e1, e2, k, e3, q⟩ => ⟨v, e, i, j, e1, e2, k, e3, f _ _ q⟩)
    rintro σ H1 ⟨l, c, rfl, e, lm, rfl⟩
    refine ⟨.int l, rfl, l, 0, rfl, rfl, _, rfl, ite2 (fun hb => ?_) (fun hb => ?_)⟩
    · have l0 : 0 < l := of_decide_eq_true hb
      have e2 := pc_off l0 (by omega)
      have e3 := off_lt l0
      refine ⟨.int l, rfl, .int l, rfl, l, 1, rfl, rfl, l0, l, l - 1, rfl, rfl, ?_⟩
      refine ⟨.int c, rfl, c, 1, rfl, rfl, ⟨l &&& (l - 1), c + 1, rfl, by omega, by omega, rfl⟩, ?_⟩
      show ((l &&& (l - 1) : Nat) : Int).toNat < (l : Int).toNat
      omega
    · have l0 : l = 0 := by
        have : ¬ 0 < l := fun z => hb (decide_eq_true z)
        omega
      subst l0
      rw [pc_zero, Nat.add_zero] at e
      refine ⟨.int c, rfl, ?_⟩
      rw [e]
      exact q
abbrev s_places_of : Stmt := topS 25
abbrev N_places_of : List Str := ["word", "place"]
theorem sc_places_of : FnScope N_places_of ["word"] (defScope s_places_of) := ⟨rfl, rfl, rfl, by decide +kernel, rfl, by decide +kernel, by decide +kernel⟩
theorem ok_places_of {f : Addr} {fd : FuncData} (F : Fun K "places_of" "places_of" s_places_of f fd) (C1_check_word : Cal P w K mg base "check_word" 5 ["word", "places"] [.int 24] sp_check_word)
    {t : Tok} (g_MOST_PLACES : mg "MOST_PLACES" = some (.int 24 t)) (m_range : mg "range" = none) : FnOk P w K mg base CX0 6 f fd ["word"] sp_places_of := by
  refine F.ok sc_places_of (fun vs H Q E h => ?_) (fun cdv A outer s H vs Q E hr h => ?_)
  · obtain ⟨a, rfl, _⟩ := h
    rfl
  · obtain ⟨m, rfl, h1, q⟩ := h
    refine ⟨_, (pss_cons (ps_expr (pe_cal C1_check_word (hr.mono (by decide)) (by rfl) (pa_cons (pv 0) pa_nil)))
    (pss_one (ps_ret (pe_lc (own := [("place", 1)]) (g := gName 1) (by rfl) sc_places_of.nd (pi_range1 (by rfl) m_range (pa_cons (pe_glob (v := .int 24) rfl g_MOST_PLACES ⟨_, rfl⟩) pa_nil)) (blkOk_by (own := [("place", 1)]) (N := N_places_of) (sc := defScope s_places_of) (by decide +kernel)) (fun _ _ _ _ _ => pg_name (i := 1) sc_places_of.nd rfl (Or.inl rfl)) (fun _ _ _ _ _ => (pts_one (pt_int (pe_op op_andN (pe_op op_shrNN (pv 0) (pv 1)) pe_int) (by intro _; rfl)))) (fun _ _ _ _ _ => (pv 1)))))), ?_⟩
    refine ⟨.int m, rfl, m, 24, rfl, by decide, by decide, h1, 24, rfl, by decide, by decide, fun D hD => ?_⟩
    refine lc_range (lo := 0) (n := 24) (fun i H' => Same H H' ∧ H' D = some (.lst (Vf.vs ((List.range i).filter fun j => m.testBit j)))) ⟨same_new hD, upd_same⟩
      (fun i H' hi hP => ?_) fun H' hP => q H' D hP.1 hD hP.2
    obtain ⟨sm, eD⟩ := hP
    refine ⟨rfl, .int m, rfl, .int (0 + (i : Int)), rfl, m, i, rfl, int_zero_add i, m / 2 ^ i, 1, rfl, rfl, (m / 2 ^ i) &&& 1, rfl, ?_⟩
    rw [odd_bit]
    have key : Vf.vs ((List.range (i + 1)).filter fun j => m.testBit j) = Vf.vs ((List.range i).filter fun j => m.testBit j) ++ (if m.testBit i = true then [V.int (i : Nat)] else []) := by
      unfold Vf.vs
      rw [List.range_succ, List.filter_append, List.map_append]
      congr 1
      by_cases hb : m.testBit i = true <;> simp [hb]
    refine ite2 (fun hb => ?_) (fun hb => ?_)
    · refine ⟨.int (0 + (i : Int)), rfl, _, eD, ?_, fun b o e => ?_, ?_⟩
      · unfold Vf.vs
        rw [List.length_map]
        exact sl_lt (Nat.le_trans (List.length_filter_le _ _) (by rw [List.length_range]; omega))
      · rw [upd_ne (ne_of_none e hD)]
        exact sm b o e
      · rw [upd_same, key, if_pos hb, int_zero_add]
    · refine ⟨sm, ?_⟩
      rw [key, if_neg hb, List.append_nil]
      exact eD
abbrev s_are_spots : Stmt := topS 26
abbrev N_are_spots : List Str := ["places", "value", "spot"]
theorem sc_are_spots : FnScope N_are_spots ["places", "value"] (defScope s_are_spots) := ⟨rfl, rfl, rfl, by decide +kernel, rfl, by decide +kernel, by decide +kernel⟩
theorem ok_are_spots {f : Addr} {fd : FuncData} (F : Fun K "are_spots" "are_spots" s_are_spots f fd) (C_is_list : Cal P w K mg base "is_list" 1 ["value"] [] sp_is_list) (C_is_count : Cal P w K mg base "is_count" 2 ["value"] [] sp_is_count)
    (m_all : mg "all" = none) (m_len : mg "len" = none) (m_set : mg "set" = none) : FnOk P w K mg base CX0 3 f fd ["places", "value"] sp_are_spots := by
  refine F.ok sc_are_spots (fun vs H Q E h => ?_) (fun cdv A outer s H vs Q E hr h => ?_)
  · obtain ⟨a, l, N, rfl, _⟩ := h
    rfl
  · obtain ⟨a, l, N, rfl, hS, nd, h24, hl, q⟩ := h
    -- the turns of the comprehension
    have turn : ∀ {H1 : Hp} {D : Addr}, H1 D = none → ∀ (i : Nat) (x : V) (H' : Hp), (Vf.vs l)[i]? = some x → (Same H1 H' ∧ H' D = some (.lst ((List.replicate i true).map V.bl))) →
        ∃ n : Nat, x = .int (n : Nat) ∧ n < N ∧ ((List.replicate i true).map V.bl).length < sizeLine ∧
          (Same H1 (upd H' D (.lst (((List.replicate i true).map V.bl) ++ [V.bl true]))) ∧ upd H' D (.lst (((List.replicate i true).map V.bl) ++ [V.bl true])) D = some (.lst ((List.replicate (i + 1) true).map V.bl))) := by
      intro H1 D hD i x H' hx ⟨sm, eD⟩
      obtain ⟨n, en, rfl⟩ := get_vs hx
      have il : i < l.length := (List.getElem?_eq_some_iff.mp en).1
      refine ⟨n, rfl, h24 n (List.mem_of_getElem? en), ?_, fun b o e => ?_, ?_⟩
      · rw [List.length_map, List.length_replicate]
        exact sl_lt (by omega)
      · rw [upd_ne (ne_of_none e hD)]
        exact sm b o e
      · rw [upd_same, List.replicate_succ', List.map_append]
        rfl
    rcases hS with hS | hS
    · refine ⟨_, (pss_cons (ps_if (PW.pt (pw_or (pt_not (pt_val (pe_cal C_is_list (hr.mono (by decide)) (by rfl) (pa_cons (pv 1) pa_nil)))) (pw_or1 (pt_not (pt_val (pe_callB (cr_all rfl) (by rfl) m_all (by decide +kernel) (pa_cons (pe_lc (own := [("spot", 2)]) (g := gName 2) (by rfl) sc_are_spots.nd (pi_list (pv 1)) (blkOk_by (own := [("spot", 2)]) (N := N_are_spots) (sc := defScope s_are_spots) (by decide +kernel)) (fun _ _ _ _ _ => pg_name (i := 2) sc_are_spots.nd rfl (Or.inl rfl)) (fun _ _ _ _ _ => pts_nil) (fun _ _ _ _ _ => (pe_and (pe_cal C_is_count (hr.mono (by decide)) (by rfl) (pa_cons (pv 2) pa_nil)) (pe_one (pe_cmpR op_ltN (pv 2) (pv 0) (nomark _)))))) pa_nil))))))) (pss_one (ps_ret pe_bl)) pss_nil)
    (pss_one (ps_ret (pe_cmpR op_eq (RZ.pe_lenSetI (by rfl) m_len (by rfl) m_set (pv 1)) (pe_callB call_len_seq (by rfl) m_len (by decide +kernel) (pa_cons (pv 1) pa_nil)) (nomark _))))), ?_⟩
      refine ⟨.ref a, rfl, a, _, rfl, .inl hS, fun H1 s1 => ⟨true, rfl, iteF ?_⟩⟩
      have hL : SqL K H1 a (Vf.vs l) := .inl (.inl (s1 _ _ hS))
      refine ⟨.ref a, rfl, a, rfl, ⟨_, hL⟩, fun D hD => ?_⟩
      refine lc_list (K := K) (a := a) (xs := Vf.vs l) (fun i H' => Same H1 H' ∧ H' D = some (.lst ((List.replicate i true).map V.bl))) ⟨same_new hD, upd_same⟩
        (fun i H' _ hP => hP.1.seq hL) (fun i x H' hx hP => ?_) fun H' hP => ?_
      · obtain ⟨n, rfl, hn, hz, hN⟩ := turn hD i x H' hx hP
        refine ⟨rfl, yes_ ?_⟩
        refine iteT ?_
        refine ⟨.int n, rfl, n, rfl, true, bl_t (show (0 : Int) ≤ (n : Int) by omega), iteT ?_⟩
        refine ⟨.int n, rfl, .int N, rfl, n, N, rfl, rfl, _, hP.2, hz, ?_⟩
        rw [decide_eq_true hn]
        exact hN
      · obtain ⟨sm, eD⟩ := hP
        have sT := s1.trans sm
        have hL2 : SqL K H' a (Vf.vs l) := sm.seq hL
        refine ⟨D, _, rfl, .inl (.inl eD), true, ?_, iteF ?_⟩
        · rw [all_true]
        · refine ⟨.ref a, rfl, a, l.map (fun i : Nat => (i : Int)), rfl, ?_, nd_int nd, ?_, .ref a, rfl, a, Vf.vs l, rfl, .inl hL2, rfl, ?_⟩
          · rw [← vs_int]
            exact hL2
          · rw [List.length_map]
            omega
          · have e : decide (V.int ((l.map (fun i : Nat => (i : Int))).length : Nat) = V.int ((Vf.vs l).length : Nat)) = true := by
              rw [List.length_map, len_vs]
              exact decide_eq_true rfl
            rw [e]
            exact q _ sT
    · refine ⟨_, (pss_cons (ps_if (PW.pt (pw_or (pt_not (pt_val (pe_cal C_is_list (hr.mono (by decide)) (by rfl) (pa_cons (pv 1) pa_nil)))) (pw_or1 (pt_not (pt_val (pe_callB (cr_all rfl) (by rfl) m_all (by decide +kernel) (pa_cons (pe_lc (own := [("spot", 2)]) (g := gName 2) (by rfl) sc_are_spots.nd (pi_tup (pv 1)) (blkOk_by (own := [("spot", 2)]) (N := N_are_spots) (sc := defScope s_are_spots) (by decide +kernel)) (fun _ _ _ _ _ => pg_name (i := 2) sc_are_spots.nd rfl (Or.inl rfl)) (fun _ _ _ _ _ => pts_nil) (fun _ _ _ _ _ => (pe_and (pe_cal C_is_count (hr.mono (by decide)) (by rfl) (pa_cons (pv 2) pa_nil)) (pe_one (pe_cmpR op_ltN (pv 2) (pv 0) (nomark _)))))) pa_nil))))))) (pss_one (ps_ret pe_bl)) pss_nil)
    (pss_one (ps_ret (pe_cmpR op_eq (pe_lenSetT (by rfl) m_len (by rfl) m_set (pv 1)) (pe_callB call_len_seq (by rfl) m_len (by decide +kernel) (pa_cons (pv 1) pa_nil)) (nomark _))))), ?_⟩
      refine ⟨.ref a, rfl, a, _, rfl, .inr hS, fun H1 s1 => ⟨true, rfl, iteF ?_⟩⟩
      have hL : SqT K H1 a (Vf.vs l) := .inl (.inl (s1 _ _ hS))
      refine ⟨.ref a, rfl, a, rfl, ⟨_, hL⟩, fun D hD => ?_⟩
      have keep : ∀ H', Same H1 H' → SqT K H' a (Vf.vs l) := fun H' sm => .inl (.inl (sm _ _ (s1 _ _ hS)))
      refine lc_tup (K := K) (a := a) (xs := Vf.vs l) (fun i H' => Same H1 H' ∧ H' D = some (.lst ((List.replicate i true).map V.bl))) ⟨same_new hD, upd_same⟩
        (fun i H' _ hP => keep H' hP.1) (fun i x H' hx hP => ?_) fun H' hP => ?_
      · obtain ⟨n, rfl, hn, hz, hN⟩ := turn hD i x H' hx hP
        refine ⟨rfl, yes_ ?_⟩
        refine iteT ?_
        refine ⟨.int n, rfl, n, rfl, true, bl_t (show (0 : Int) ≤ (n : Int) by omega), iteT ?_⟩
        refine ⟨.int n, rfl, .int N, rfl, n, N, rfl, rfl, _, hP.2, hz, ?_⟩
        rw [decide_eq_true hn]
        exact hN
      · obtain ⟨sm, eD⟩ := hP
        have sT := s1.trans sm
        have hL2 : SqT K H' a (Vf.vs l) := keep H' sm
        refine ⟨D, _, rfl, .inl (.inl eD), true, ?_, iteF ?_⟩
        · rw [all_true]
        · refine ⟨.ref a, rfl, a, l.map (fun i : Nat => (i : Int)), rfl, ?_, nd_int nd, ?_, .ref a, rfl, a, Vf.vs l, rfl, .inr hL2, rfl, ?_⟩
          · rw [← vs_int]
            exact hL2
          · rw [List.length_map]
            omega
          · have e : decide (V.int ((l.map (fun i : Nat => (i : Int))).length : Nat) = V.int ((Vf.vs l).length : Nat)) = true := by
              rw [List.length_map, len_vs]
              exact decide_eq_true rfl
            rw [e]
            exact q _ sT
abbrev s_is_sequence : Stmt := topS 27
abbrev N_is_sequence : List Str := ["places", "value"]
theorem sc_is_sequence : FnScope N_is_sequence ["places", "value"] (defScope s_is_sequence) := ⟨rfl, rfl, rfl, by decide +kernel, rfl, by decide +kernel, by decide +kernel⟩
theorem ok_is_sequence {f : Addr} {fd : FuncData} (F : Fun K "is_sequence" "is_sequence" s_is_sequence f fd)
    (C_are_spots : Cal P w K mg base "are_spots" 3 ["places", "value"] [] sp_are_spots)
    (m_len : mg "len" = none) :
    FnOk P w K mg base CX0 4 f fd ["places", "value"] sp_is_seq := by
  refine fn_sv F sc_is_sequence (fun _ _ => rfl) fun W i hP cdv A outer s H E hr => ⟨_, (pss_one (ps_ret (pe_and (pe_cal C_are_spots (hr.mono (by decide)) (by rfl) (pa_cons (pv 0) (pa_cons (pv 1) pa_nil))) (pe_one (pe_cmpR op_eqN (pe_callB call_len_seq (by rfl) m_len (by decide +kernel) (pa_cons (pv 1) pa_nil)) (pv 0) (nomark _)))))), ?_⟩
  obtain ⟨n, s⟩ := i
  obtain ⟨hs, n24⟩ := hP
  have hs : Seq n s := hs
  have n24 : n ≤ 24 := n24
  try dsimp only
  exact sv_ret (ev_andT (ev_call (sd_are_spots hs.nd hs.lt (by rw [hs.len]; exact n24)) (av_cons (ev_var rfl) (av_cons (ev_var rfl) av_nil))) (ev_eq (ev_op od_eqN (ev_cb cd_lenLT (av_cons (ev_var rfl) av_nil)) (ev_var rfl)) (congrArg dB (decide_eq_true hs.len))))
abbrev s_word_of : Stmt := topS 28
abbrev N_word_of : List Str := ["spots", "spot"]
theorem sc_word_of : FnScope N_word_of ["spots"] (defScope s_word_of) := ⟨rfl, rfl, rfl, by decide +kernel, rfl, by decide +kernel, by decide +kernel⟩
theorem ok_word_of {f : Addr} {fd : FuncData} (F : Fun K "word_of" "word_of" s_word_of f fd) (C_are_spots : Cal P w K mg base "are_spots" 3 ["places", "value"] [] sp_are_spots)
    {t : Tok} (g_MOST_PLACES : mg "MOST_PLACES" = some (.int 24 t)) (m_sum : mg "sum" = none) : FnOk P w K mg base CX0 4 f fd ["spots"] sp_word_of := by
  refine F.ok sc_word_of (fun vs H Q E h => ?_) (fun cdv A outer s H vs Q E hr h => ?_)
  · obtain ⟨a, l, rfl, _⟩ := h
    rfl
  · obtain ⟨a, l, rfl, hS, nd, h24, hl, q⟩ := h
    have turn : ∀ {H1 : Hp} {D : Addr}, H1 D = none → ∀ (i : Nat) (x : V) (H' : Hp), (Vf.vs l)[i]? = some x → (Same H1 H' ∧ H' D = some (.lst (((l.take i).map fun i : Nat => ((2 ^ i : Nat) : Int)).map V.int))) →
        ∃ n : Nat, x = .int (n : Nat) ∧ n < 24 ∧ (((l.take i).map fun i : Nat => ((2 ^ i : Nat) : Int)).map V.int).length < sizeLine ∧
          (Same H1 (upd H' D (.lst ((((l.take i).map fun i : Nat => ((2 ^ i : Nat) : Int)).map V.int) ++ [V.int ((2 ^ n : Nat) : Int)]))) ∧
            upd H' D (.lst ((((l.take i).map fun i : Nat => ((2 ^ i : Nat) : Int)).map V.int) ++ [V.int ((2 ^ n : Nat) : Int)])) D = some (.lst (((l.take (i + 1)).map fun i : Nat => ((2 ^ i : Nat) : Int)).map V.int))) := by
      intro H1 D hD i x H' hx ⟨sm, eD⟩
      obtain ⟨n, en, rfl⟩ := get_vs hx
      refine ⟨n, rfl, h24 n (List.mem_of_getElem? en), ?_, fun b o e => ?_, ?_⟩
      · rw [List.length_map, List.length_map, List.length_take]
        exact sl_lt (by omega)
      · rw [upd_ne (ne_of_none e hD)]
        exact sm b o e
      · rw [upd_same, List.take_add_one, en, List.map_append, List.map_append]
        rfl
    have fin : ((l.take (Vf.vs l).length).map fun i : Nat => ((2 ^ i : Nat) : Int)) = l.map fun i : Nat => ((2 ^ i : Nat) : Int) := by
      rw [len_vs, List.take_length]
    rcases hS with hS | hS
    · refine ⟨_, (pss_cons (ps_if (pt_not (pt_val (pe_cal C_are_spots (hr.mono (by decide)) (by rfl) (pa_cons (pe_glob (v := .int 24) rfl g_MOST_PLACES ⟨_, rfl⟩) (pa_cons (pv 0) pa_nil))))) (pss_one ps_never) pss_nil)
    (pss_one (ps_ret (pe_callB (cr_sum rfl) (by rfl) m_sum (by decide +kernel) (pa_cons (pe_lc (own := [("spot", 1)]) (g := gName 1) (by rfl) sc_word_of.nd (pi_list (pv 0)) (blkOk_by (own := [("spot", 1)]) (N := N_word_of) (sc := defScope s_word_of) (by decide +kernel)) (fun _ _ _ _ _ => pg_name (i := 1) sc_word_of.nd rfl (Or.inl rfl)) (fun _ _ _ _ _ => pts_nil) (fun _ _ _ _ _ => (pe_op op_pow2 pe_int (pv 1)))) pa_nil))))), ?_⟩
      refine ⟨.ref a, rfl, a, l, 24, rfl, .inl hS, nd, h24, hl, fun H1 s1 => ⟨true, rfl, iteF ?_⟩⟩
      have hL : SqL K H1 a (Vf.vs l) := .inl (.inl (s1 _ _ hS))
      refine ⟨.ref a, rfl, a, rfl, ⟨_, hL⟩, fun D hD => ?_⟩
      refine lc_list (K := K) (a := a) (xs := Vf.vs l) (fun i H' => Same H1 H' ∧ H' D = some (.lst (((l.take i).map fun i : Nat => ((2 ^ i : Nat) : Int)).map V.int))) ⟨same_new hD, upd_same⟩
        (fun i H' _ hP => hP.1.seq hL) (fun i x H' hx hP => ?_) fun H' hP => ?_
      · obtain ⟨n, rfl, hn, hz, hN⟩ := turn hD i x H' hx hP
        refine ⟨rfl, yes_ ?_⟩
        refine iteT ?_
        exact ⟨.int n, rfl, n, rfl, rfl, by omega, _, hP.2, hz, hN⟩
      · obtain ⟨sm, eD⟩ := hP
        rw [fin] at eD
        refine ⟨D, _, rfl, .inl (.inl eD), ?_⟩
        rw [sum_cast]
        exact q _ (s1.trans sm)
    · refine ⟨_, (pss_cons (ps_if (pt_not (pt_val (pe_cal C_are_spots (hr.mono (by decide)) (by rfl) (pa_cons (pe_glob (v := .int 24) rfl g_MOST_PLACES ⟨_, rfl⟩) (pa_cons (pv 0) pa_nil))))) (pss_one ps_never) pss_nil)
    (pss_one (ps_ret (pe_callB (cr_sum rfl) (by rfl) m_sum (by decide +kernel) (pa_cons (pe_lc (own := [("spot", 1)]) (g := gName 1) (by rfl) sc_word_of.nd (pi_tup (pv 0)) (blkOk_by (own := [("spot", 1)]) (N := N_word_of) (sc := defScope s_word_of) (by decide +kernel)) (fun _ _ _ _ _ => pg_name (i := 1) sc_word_of.nd rfl (Or.inl rfl)) (fun _ _ _ _ _ => pts_nil) (fun _ _ _ _ _ => (pe_op op_pow2 pe_int (pv 1)))) pa_nil))))), ?_⟩
      refine ⟨.ref a, rfl, a, l, 24, rfl, .inr hS, nd, h24, hl, fun H1 s1 => ⟨true, rfl, iteF ?_⟩⟩
      have keep : ∀ H', Same H1 H' → SqT K H' a (Vf.vs l) := fun H' sm => .inl (.inl (sm _ _ (s1 _ _ hS)))
      refine ⟨.ref a, rfl, a, rfl, ⟨_, keep H1 (Same.refl _)⟩, fun D hD => ?_⟩
      refine lc_tup (K := K) (a := a) (xs := Vf.vs l) (fun i H' => Same H1 H' ∧ H' D = some (.lst (((l.take i).map fun i : Nat => ((2 ^ i : Nat) : Int)).map V.int))) ⟨same_new hD, upd_same⟩
        (fun i H' _ hP => keep H' hP.1) (fun i x H' hx hP => ?_) fun H' hP => ?_
      · obtain ⟨n, rfl, hn, hz, hN⟩ := turn hD i x H' hx hP
        refine ⟨rfl, yes_ ?_⟩
        refine iteT ?_
        exact ⟨.int n, rfl, n, rfl, rfl, by omega, _, hP.2, hz, hN⟩
      · obtain ⟨sm, eD⟩ := hP
        rw [fin] at eD
        refine ⟨D, _, rfl, .inl (.inl eD), ?_⟩
        rw [sum_cast]
        exact q _ (s1.trans sm)
abbrev s_highest : Stmt := topS 32
abbrev N_highest : List Str := ["word"]
theorem sc_highest : FnScope N_highest ["word"] (defScope s_highest) := ⟨rfl, rfl, rfl, by decide +kernel, rfl, by decide +kernel, by decide +kernel⟩
theorem ok_highest {f : Addr} {fd : FuncData} (F : Fun K "highest" "highest" s_highest f fd) : FnOk P w K mg base CX0 1 f fd ["word"] sp_highest := by
  refine F.ok sc_highest (fun vs H Q E h => ?_) (fun cdv A outer s H vs Q E hr h => ?_)
  · obtain ⟨m, rfl, _⟩ := h
    rfl
  · obtain ⟨m, rfl, h0, h1, q⟩ := h
    have hl : m.log2 < 64 := (Nat.log2_lt h0).mpr h1
    have e : Builtin.Int.intBits (m : Int) = m.log2 + 1 := by
      unfold Builtin.Int.intBits
      rw [if_neg (by simpa using h0)]
      rfl
    refine ⟨_, (pss_one (ps_ret (pe_op op_pow2 pe_int (pe_op op_subN (pe_bits (pv 0)) pe_int)))), ?_⟩
    refine ⟨.int m, rfl, m, rfl, Builtin.Int.intBits (m : Int), 1, rfl, rfl, by omega, Builtin.Int.intBits (m : Int) - 1, rfl, rfl, by omega, ?_⟩
    rw [e, Nat.add_sub_cancel]
    exact q
abbrev s_rest_of : Stmt := topS 33
abbrev N_rest_of : List Str := ["word", "basis", "rest", "base"]
theorem sc_rest_of : FnScope N_rest_of ["word", "basis"] (defScope s_rest_of) := ⟨rfl, rfl, rfl, by decide +kernel, rfl, by decide +kernel, by decide +kernel⟩
theorem ok_rest_of {f : Addr} {fd : FuncData} (F : Fun K "rest_of" "rest_of" s_rest_of f fd) (C_highest : Cal P w K mg base "highest" 1 ["word"] [] sp_highest) : FnOk P w K mg base CX0 2 f fd ["word", "basis"] sp_rest_of := by
  refine F.ok sc_rest_of (fun vs H Q E h => ?_) (fun cdv A outer s H vs Q E hr h => ?_)
  · obtain ⟨v, b, B, rfl, _⟩ := h
    rfl
  · obtain ⟨v, b, B, rfl, eB, hB, q⟩ := h
    refine ⟨_, (pss_cons (ps_set (i := 2) sc_rest_of.nd rfl (Or.inl rfl) (pv 0))
    (pss_cons (ps_for PassesOwn.never rfl (pi_list (pv 1)) (pg_name (i := 3) sc_rest_of.nd rfl (Or.inl rfl))
      (pss_one (ps_if (pt_int (pe_op op_andN (pv 2) (pe_cal C_highest (hr.mono (by decide)) (by rfl) (pa_cons (pv 3) pa_nil))) (by intro _; rfl)) (pss_one (ps_set (i := 2) sc_rest_of.nd rfl (Or.inl rfl) (pe_op op_xorN (pv 2) (pv 3)))) pss_nil)))
    (pss_one (ps_ret (pv 2))))), ?_⟩
    refine ⟨.int v, rfl, .ref b, rfl, b, rfl, ⟨_, SqL.of eB⟩, ?_⟩
    refine for_list (K := K) (a := b) (xs := Vf.vs B) (fun i σ H' => ∃ z : Option V, σ = [some (.int v), some (.ref b), some (.int ((restOf v (B.take i) : Nat) : Int)), z] ∧ H' = H) ⟨none, rfl, rfl⟩
      (fun i σ H' _ hI => ?_) (fun i x σ H' hx hI => ?_) fun σ H' hI => ?_
    · obtain ⟨z, _, rfl⟩ := hI
      exact SqL.of eB
    · obtain ⟨z, rfl, rfl⟩ := hI
      obtain ⟨c, ec, rfl⟩ := get_vs hx
      obtain ⟨c0, c24⟩ := hB c (List.mem_of_getElem? ec)
      have key : restOf v (B.take (i + 1)) = rest1 (restOf v (B.take i)) c := by
        unfold restOf
        rw [List.take_add_one, ec, List.foldl_append]
        rfl
      refine ⟨_, rfl, .int c, rfl, c, rfl, c0, c24, restOf v (B.take i), 2 ^ c.log2, rfl, rfl, restOf v (B.take i) &&& 2 ^ c.log2, rfl, ?_⟩
      rw [and_pow]
      refine ite2 (fun hb => ?_) (fun hb => ?_)
      · refine ⟨_, rfl, .int c, rfl, restOf v (B.take i), c, rfl, rfl, some (.int c), ?_, rfl⟩
        rw [key]
        unfold rest1
        rw [if_pos hb]
        rfl
      · refine ⟨some (.int c), ?_, rfl⟩
        rw [key]
        unfold rest1
        rw [if_neg hb]
        rfl
    · obtain ⟨z, rfl, rfl⟩ := hI
      rw [len_vs, List.take_length]
      exact ⟨_, rfl, q⟩
abbrev s_put_in : Stmt := topS 34
abbrev N_put_in : List Str := ["rest", "basis", "top", "cleared", "base"]
theorem sc_put_in : FnScope N_put_in ["rest", "basis"] (defScope s_put_in) := ⟨rfl, rfl, rfl, by decide +kernel, rfl, by decide +kernel, by decide +kernel⟩
theorem ok_put_in {f : Addr} {fd : FuncData} (F : Fun K "put_in" "put_in" s_put_in f fd) (C_highest : Cal P w K mg base "highest" 1 ["word"] [] sp_highest) (m_sorted : mg "sorted" = none) :
    FnOk P w K mg base CX0 2 f fd ["rest", "basis"] sp_put_in := by
  refine F.ok sc_put_in (fun vs H Q E h => ?_) (fun cdv A outer s H vs Q E hr h => ?_)
  · obtain ⟨v, b, B, rfl, _⟩ := h
    rfl
  · obtain ⟨r, b, B, rfl, eB, r0, r64, lB, q⟩ := h
    refine ⟨_, (pss_cons (ps_set (i := 2) sc_put_in.nd rfl (Or.inr rfl) (pe_cal C_highest (hr.mono (by decide)) (by rfl) (pa_cons (pv 0) pa_nil)))
    (pss_cons (ps_setLc (i := 3) (own := [("base", 4)]) (g := gName 4) (by rfl) sc_put_in.nd rfl rfl (sw_true rfl rfl rfl (by decide +kernel)) (pi_list (pv 1)) (blkOk_by (own := [("base", 4)]) (N := N_put_in) (sc := defScope s_put_in) (by decide +kernel)) (fun _ _ _ _ _ => pg_name (i := 4) sc_put_in.nd rfl (Or.inl rfl)) (fun _ _ _ _ _ => pts_nil) (fun _ _ _ _ _ => (pe_ifExp (pt_int (pe_op op_andN (pv 4) (pv 2)) (by intro _; rfl)) (pe_op op_xorN (pv 4) (pv 0)) (pv 4))))
    (pss_one (ps_ret (pe_callBK (cr_sortedRev (b := true)) (by rfl) m_sorted (by decide +kernel) (pa_cons (pe_op op_cat (pv 3) (pe_lst (pa_cons (pv 0) pa_nil))) pa_nil) (pk_cons pe_bl pk_nil)))))), ?_⟩
    refine ⟨.int r, rfl, r, rfl, r0, r64, .ref b, rfl, b, rfl, ⟨_, SqL.of eB⟩, fun D hD => ?_⟩
    refine lc_list (K := K) (a := b) (xs := Vf.vs B) (fun i H' => Same H H' ∧ H' D = some (.lst (Vf.vs ((B.take i).map (clear1 r))))) ⟨same_new hD, upd_same⟩
      (fun i H' _ hP => hP.1.seq (SqL.of eB)) (fun i x H' hx hP => ?_) fun H' hP => ?_
    · obtain ⟨sm, eD⟩ := hP
      obtain ⟨c, ec, rfl⟩ := get_vs hx
      have key : Vf.vs ((B.take (i + 1)).map (clear1 r)) = Vf.vs ((B.take i).map (clear1 r)) ++ [V.int ((clear1 r c : Nat) : Int)] := by
        rw [List.take_add_one, ec, List.map_append, vs_append]
        rfl
      have lz : (Vf.vs ((B.take i).map (clear1 r))).length < sizeLine := by
        rw [len_vs, List.length_map, List.length_take]
        exact sl_lt (by omega)
      have fin : Same H (upd H' D (.lst (Vf.vs ((B.take i).map (clear1 r)) ++ [V.int ((clear1 r c : Nat) : Int)]))) ∧ (upd H' D (.lst (Vf.vs ((B.take i).map (clear1 r)) ++ [V.int ((clear1 r c : Nat) : Int)]))) D = some (.lst (Vf.vs ((B.take (i + 1)).map (clear1 r)))) := by
        refine ⟨fun a o e => ?_, ?_⟩
        · rw [upd_ne (ne_of_none e hD)]
          exact sm a o e
        · rw [upd_same, key]
      refine ⟨rfl, yes_ ?_⟩
      refine iteT ?_
      refine ⟨.int c, rfl, .int ((2 ^ r.log2 : Nat) : Int), rfl, c, 2 ^ r.log2, rfl, rfl, c &&& 2 ^ r.log2, rfl, ?_⟩
      rw [and_pow]
      refine ite2 (fun hb => ?_) (fun hb => ?_)
      · refine ⟨.int c, rfl, .int r, rfl, c, r, rfl, rfl, _, eD, lz, ?_⟩
        have e1 : clear1 r c = c ^^^ r := by
          unfold clear1
          rw [if_pos hb]
        rw [← e1]
        exact fin
      · refine ⟨.int c, rfl, _, eD, lz, ?_⟩
        have e1 : clear1 r c = c := by
          unfold clear1
          rw [if_neg hb]
        rw [e1] at fin
        exact fin
    · obtain ⟨sm, eD⟩ := hP
      rw [len_vs, List.take_length] at eD
      refine ⟨.ref D, rfl, .int r, rfl, Nat.succ_le_of_lt (sl_lt (by decide)), fun R1 nR1 => ?_⟩
      have s1 := same_new (o := .lst [V.int (r : Int)]) nR1
      refine ⟨D, R1, _, _, rfl, rfl, s1 _ _ eD, upd_same, ?_, fun R2 nR2 => ?_⟩
      · rw [len_vs, List.length_map]
        exact Nat.le_of_lt (sl_lt (by show B.length + 1 ≤ 100000; omega))
      · refine ⟨R2, ((B.map (clear1 r) ++ [r]).map fun i : Nat => (i : Int)), rfl, rfl, SqL.of ?_, fun ns' p pm od np => ?_⟩
        · rw [upd_same, ← vs_int, vs_append]
          rfl
        · obtain ⟨D2, rfl, p2⟩ := back_vs pm
          have s2 := sm.trans ((s1.trans (same_new (o := .lst (Vf.vs (B.map (clear1 r)) ++ [V.int (r : Int)])) nR2)).trans (same_new (o := .lst ((D2.map fun i : Nat => (i : Int)).map V.int)) np))
          refine q _ p D2 s2 ?_ ?_ p2 ?_
          · exact ((sm.trans s1).trans (same_new nR2)).free np
          · rw [upd_same, ← vs_int]
          · have o2 : (D2.map fun i : Nat => (i : Int)).Pairwise (· ≥ ·) := od
            rw [List.pairwise_map] at o2
            exact o2.imp fun h => by omega
abbrev s_plain_basis : Stmt := topS 35
abbrev N_plain_basis : List Str := ["words", "basis", "word", "rest"]
theorem sc_plain_basis : FnScope N_plain_basis ["words"] (defScope s_plain_basis) := ⟨rfl, rfl, rfl, by decide +kernel, rfl, by decide +kernel, by decide +kernel⟩
theorem ok_plain_basis {f : Addr} {fd : FuncData} (F : Fun K "plain_basis" "plain_basis" s_plain_basis f fd) (C_rest_of : Cal P w K mg base "rest_of" 2 ["word", "basis"] [] sp_rest_of) (C_put_in : Cal P w K mg base "put_in" 2 ["rest", "basis"] [] sp_put_in) :
    FnOk P w K mg base CX0 3 f fd ["words"] sp_plain_basis := by
  refine F.ok sc_plain_basis (fun vs H Q E h => ?_) (fun cdv A outer s H vs Q E hr h => ?_)
  · obtain ⟨a, ws, rfl, _⟩ := h
    rfl
  · obtain ⟨a, ws, rfl, hS, h24, lw, q⟩ := h
    have start : ∀ {b0 : Addr}, H b0 = none → PbI H a ws 0 [some (.ref a), some (.ref b0), none, none] (upd H b0 (.lst [])) := fun {b0} h0 =>
      ⟨b0, [], none, none, rfl, same_new h0, h0, upd_same, ⟨⟨List.Pairwise.nil, fun _ k => (List.not_mem_nil k).elim⟩, List.Pairwise.nil⟩, fun v => Iff.rfl, Nat.le_refl _⟩
    -- what a turn needs and gives
    have turn : ∀ {i : Nat} {c : Nat}, ws[i]? = some c → ∀ {σ : L2.St} {H' : Hp}, PbI H a ws i σ H' → ∃ (b : Addr) (B : List Nat) (z z2 : Option V), σ = [some (.ref a), some (.ref b), z, z2] ∧ H' b = some (.lst (Vf.vs B)) ∧ (∀ x ∈ B, x ≠ 0 ∧ x < 2 ^ 64) ∧ c < 2 ^ 64 ∧
        (restOf c B = 0 → PbI H a ws (i + 1) [some (.ref a), some (.ref b), some (.int (c : Int)), some (.int ((restOf c B : Nat) : Int))] H') ∧
        (restOf c B ≠ 0 → restOf c B < 2 ^ 64 ∧ B.length ≤ 1000 ∧ ∀ (H2 : Hp) (p : Addr) (D : List Nat), Same H' H2 → H' p = none → H2 p = some (.lst (Vf.vs D)) → D.Perm (B.map (clear1 (restOf c B)) ++ [restOf c B]) → D.Pairwise (· ≥ ·) →
          PbI H a ws (i + 1) [some (.ref a), some (.ref p), some (.int (c : Int)), some (.int ((restOf c B : Nat) : Int))] H2) := by
      intro i c hc σ H' hI
      obtain ⟨b, B, z, z2, rfl, sm, nb, eB, pl, sp, ln⟩ := hI
      have hc24 := h24 c (List.mem_of_getElem? hc)
      have lt : ∀ {x}, span B x → x < 2 ^ 64 := fun {x} hx => span_lt (ws := ws.take i) (fun v hv => h24 v (List.mem_of_mem_take hv)) ((sp x).mp hx)
      have il : i < ws.length := (List.getElem?_eq_some_iff.mp hc).1
      have rs := take_span hc pl.1 sp
      refine ⟨b, B, z, z2, rfl, eB, fun x hx => ⟨pl.1.2 x hx, lt (span_mem hx)⟩, hc24, fun r0 => ⟨b, B, _, _, rfl, sm, nb, eB, pl, fun v => ?_, by omega⟩, fun r0 => ⟨?_, by omega, fun H2 p D s2 np eD pm ge => ?_⟩⟩
      · rw [← rs v, r0]
        constructor
        · exact fun k => span_sub (fun x hx => span_mem (List.mem_cons_of_mem _ hx)) k
        · exact fun k => span_sub (fun x hx => (List.mem_cons.mp hx).elim (fun e => by rw [e]; exact span_zero B) span_mem) k
      · refine span_lt (ws := ws.take (i + 1)) (fun v hv => h24 v (List.mem_of_mem_take hv)) ((rs _).mp (span_mem List.mem_cons_self))
      · have pD := piv_perm pm.symm (put_piv pl.1 r0 fun x hx => rest_off pl.1 c hx)
        refine ⟨p, D, _, _, rfl, sm.trans s2, sm.free np, eD, ⟨pD, gt_of_ge pD ge⟩, fun v => ?_, ?_⟩
        · rw [span_perm pm v, put_span, rs v]
        · rw [pm.length_eq, List.length_append, List.length_map]
          show B.length + 1 ≤ i + 1
          omega
    rcases hS with hS | hS
    · refine ⟨_, (pss_cons (ps_set (i := 1) sc_plain_basis.nd rfl (Or.inl rfl) (pe_lst pa_nil))
    (pss_cons (ps_for PassesOwn.never rfl (pi_list (pv 0)) (pg_name (i := 2) sc_plain_basis.nd rfl (Or.inl rfl))
      (pss_cons (ps_set (i := 3) sc_plain_basis.nd rfl (Or.inl rfl) (pe_cal C_rest_of (hr.mono (by decide)) (by rfl) (pa_cons (pv 2) (pa_cons (pv 1) pa_nil))))
    (pss_one (ps_if (pt_cmpR op_gtN (pv 3) pe_int (nomark _)) (pss_one (ps_set (i := 1) sc_plain_basis.nd rfl (Or.inl rfl) (pe_cal C_put_in (hr.mono (by decide)) (by rfl) (pa_cons (pv 3) (pa_cons (pv 1) pa_nil))))) pss_nil))))
    (pss_one (ps_ret (pv 1))))), ?_⟩
      refine ⟨Nat.zero_le _, fun b0 h0 => ⟨.ref a, rfl, a, rfl, ⟨_, SqL.of ((same_new h0) _ _ hS)⟩, ?_⟩⟩
      refine for_list (K := K) (a := a) (xs := Vf.vs ws) (fun i σ H' => PbI H a ws i σ H') (start h0) (fun i σ H' _ hI => ?_) (fun i x σ H' hx hI => ?_) fun σ H' hI => ?_
      · obtain ⟨b, B, z, z2, _, sm, _⟩ := hI
        exact SqL.of (sm _ _ hS)
      · obtain ⟨c, hc, rfl⟩ := get_vs hx
        obtain ⟨b, B, z, z2, rfl, eB, hB, c24, k0, k1⟩ := turn hc hI
        refine ⟨.int c, rfl, .ref b, rfl, c, b, B, rfl, eB, hB, _, rfl, restOf c B, 0, rfl, rfl, _, rfl, ite2 (fun hb => ?_) (fun hb => ?_)⟩
        · have r0 : restOf c B ≠ 0 := Nat.ne_of_gt (of_decide_eq_true hb)
          obtain ⟨r24, l1000, k1⟩ := k1 r0
          exact ⟨_, rfl, .ref b, rfl, restOf c B, b, B, rfl, eB, r0, r24, l1000, fun H2 p D s2 np eD pm ge => k1 H2 p D s2 np eD pm ge⟩
        · have r0 : restOf c B = 0 := by
            have : ¬ 0 < restOf c B := fun z => hb (decide_eq_true z)
            omega
          exact k0 r0
      · obtain ⟨b, B, z, z2, rfl, sm, nb, eB, pl, sp, ln⟩ := hI
        rw [len_vs, List.take_length] at sp
        rw [len_vs] at ln
        exact ⟨.ref b, rfl, q H' b B sm nb eB pl sp ln⟩
    · refine ⟨_, (pss_cons (ps_set (i := 1) sc_plain_basis.nd rfl (Or.inl rfl) (pe_lst pa_nil))
    (pss_cons (ps_for PassesOwn.never rfl (pi_tup (pv 0)) (pg_name (i := 2) sc_plain_basis.nd rfl (Or.inl rfl))
      (pss_cons (ps_set (i := 3) sc_plain_basis.nd rfl (Or.inl rfl) (pe_cal C_rest_of (hr.mono (by decide)) (by rfl) (pa_cons (pv 2) (pa_cons (pv 1) pa_nil))))
    (pss_one (ps_if (pt_cmpR op_gtN (pv 3) pe_int (nomark _)) (pss_one (ps_set (i := 1) sc_plain_basis.nd rfl (Or.inl rfl) (pe_cal C_put_in (hr.mono (by decide)) (by rfl) (pa_cons (pv 3) (pa_cons (pv 1) pa_nil))))) pss_nil))))
    (pss_one (ps_ret (pv 1))))), ?_⟩
      refine ⟨Nat.zero_le _, fun b0 h0 => ⟨.ref a, rfl, a, rfl, ⟨_, .inl (.inl ((same_new h0) _ _ hS))⟩, ?_⟩⟩
      refine for_tup (K := K) (a := a) (xs := Vf.vs ws) (fun i σ H' => PbI H a ws i σ H') (start h0) (fun i σ H' _ hI => ?_) (fun i x σ H' hx hI => ?_) fun σ H' hI => ?_
      · obtain ⟨b, B, z, z2, _, sm, _⟩ := hI
        exact .inl (.inl (sm _ _ hS))
      · obtain ⟨c, hc, rfl⟩ := get_vs hx
        obtain ⟨b, B, z, z2, rfl, eB, hB, c24, k0, k1⟩ := turn hc hI
        refine ⟨.int c, rfl, .ref b, rfl, c, b, B, rfl, eB, hB, _, rfl, restOf c B, 0, rfl, rfl, _, rfl, ite2 (fun hb => ?_) (fun hb => ?_)⟩
        · have r0 : restOf c B ≠ 0 := Nat.ne_of_gt (of_decide_eq_true hb)
          obtain ⟨r24, l1000, k1⟩ := k1 r0
          exact ⟨_, rfl, .ref b, rfl, restOf c B, b, B, rfl, eB, r0, r24, l1000, fun H2 p D s2 np eD pm ge => k1 H2 p D s2 np eD pm ge⟩
        · have r0 : restOf c B = 0 := by
            have : ¬ 0 < restOf c B := fun z => hb (decide_eq_true z)
            omega
          exact k0 r0
      · obtain ⟨b, B, z, z2, rfl, sm, nb, eB, pl, sp, ln⟩ := hI
        rw [len_vs, List.take_length] at sp
        rw [len_vs] at ln
        exact ⟨.ref b, rfl, q H' b B sm nb eB pl sp ln⟩
abbrev s_sums_of : Stmt := topS 36
abbrev N_sums_of : List Str := ["basis", "sums", "base", "word"]
theorem sc_sums_of : FnScope N_sums_of ["basis"] (defScope s_sums_of) := ⟨rfl, rfl, rfl, by decide +kernel, rfl, by decide +kernel, by decide +kernel⟩
theorem ok_sums_of {f : Addr} {fd : FuncData} (F : Fun K "sums_of" "sums_of" s_sums_of f fd) (m_sorted : mg "sorted" = none) : FnOk P w K mg base CX0 1 f fd ["basis"] sp_sums_of := by
  refine F.ok sc_sums_of (fun vs H Q E h => ?_) (fun cdv A outer s H vs Q E hr h => ?_)
  · obtain ⟨b, B, rfl, _⟩ := h
    rfl
  · obtain ⟨b, B, rfl, eB, pB, lB, q⟩ := h
    have lens : ∀ i, (sumsOf (B.take i)).length ≤ 4096 := fun i => by
      have pB2 : Piv (B.take i) := ⟨pB.1.sublist (List.take_sublist _ _), fun c hc => pB.2 c (List.mem_of_mem_take hc)⟩
      rw [(sums_ok pB2).2.2]
      have h8 : (B.take i).length ≤ 12 := by
        rw [List.length_take]
        omega
      exact Nat.le_trans (Nat.pow_le_pow_right (by decide) h8) (by decide)
    refine ⟨_, (pss_cons (ps_set (i := 1) sc_sums_of.nd rfl (Or.inl rfl) (pe_lst (pa_cons pe_int pa_nil)))
    (pss_cons (ps_for PassesOwn.never rfl (pi_list (pv 0)) (pg_name (i := 2) sc_sums_of.nd rfl (Or.inr rfl))
      (pss_one (ps_set (i := 1) sc_sums_of.nd rfl (Or.inl rfl) (pe_op op_cat (pv 1) (pe_lc (own := [("word", 3)]) (g := gName 3) (by rfl) sc_sums_of.nd (pi_list (pv 1)) (blkOk_by (own := [("word", 3)]) (N := N_sums_of) (sc := defScope s_sums_of) (by decide +kernel)) (fun _ _ _ _ _ => pg_name (i := 3) sc_sums_of.nd rfl (Or.inl rfl)) (fun _ _ _ _ _ => pts_nil) (fun _ _ _ _ _ => (pe_op op_xorN (pv 3) (pv 2))))))))
    (pss_one (ps_ret (pe_callB cr_sortedI (by rfl) m_sorted (by decide +kernel) (pa_cons (pv 1) pa_nil)))))), ?_⟩
    refine ⟨Nat.succ_le_of_lt (sl_lt (by decide)), fun S0 nS0 => ⟨.ref b, rfl, b, rfl, ⟨_, SqL.of ((same_new nS0) _ _ eB)⟩, ?_⟩⟩
    refine for_list (K := K) (a := b) (xs := Vf.vs B) (fun i σ H' => ∃ (z z2 : Option V) (S : Addr), σ = [some (.ref b), some (.ref S), z, z2] ∧ Same H H' ∧ H S = none ∧ H' S = some (.lst (Vf.vs (sumsOf (B.take i))))) ⟨none, none, S0, rfl, same_new nS0, nS0, upd_same⟩
      (fun i σ H' _ hI => ?_) (fun i x σ H' hx hI => ?_) fun σ H' hI => ?_
    · obtain ⟨z, z2, S, _, sm, _⟩ := hI
      exact SqL.of (sm _ _ eB)
    · obtain ⟨z, z2, S, rfl, sm, nS, eS⟩ := hI
      obtain ⟨c, ec, rfl⟩ := get_vs hx
      have key : sumsOf (B.take (i + 1)) = sumsOf (B.take i) ++ (sumsOf (B.take i)).map (· ^^^ c) := by
        unfold sumsOf
        rw [List.take_add_one, ec, List.foldl_append]
        rfl
      have ln := lens i
      refine ⟨.ref S, rfl, .ref S, rfl, S, rfl, ⟨_, SqL.of eS⟩, fun D hD => ?_⟩
      refine lc_list (K := K) (a := S) (xs := Vf.vs (sumsOf (B.take i))) (fun j H2 => Same H' H2 ∧ H2 D = some (.lst (Vf.vs (((sumsOf (B.take i)).take j).map (· ^^^ c))))) ⟨same_new hD, upd_same⟩
        (fun j H2 _ hP => hP.1.seq (SqL.of eS)) (fun j x H2 hx hP => ?_) fun H2 hP => ?_
      · obtain ⟨sm2, eD⟩ := hP
        obtain ⟨u, eu, rfl⟩ := get_vs hx
        refine ⟨rfl, yes_ ?_⟩
        refine iteT ?_
        refine ⟨.int u, rfl, .int c, rfl, u, c, rfl, rfl, _, eD, ?_, fun a o e => ?_, ?_⟩
        · rw [len_vs, List.length_map, List.length_take]
          exact sl_lt (by omega)
        · rw [upd_ne (ne_of_none e hD)]
          exact sm2 a o e
        · rw [upd_same, List.take_add_one, eu, List.map_append, vs_append]
          rfl
      · obtain ⟨sm2, eD⟩ := hP
        rw [len_vs, List.take_length] at eD
        refine ⟨S, D, _, _, rfl, rfl, sm2 _ _ eS, eD, ?_, fun p np => ?_⟩
        · rw [len_vs, len_vs, List.length_map]
          exact Nat.le_of_lt (sl_lt (by omega))
        · refine ⟨_, _, p, rfl, sm.trans (sm2.trans (same_new np)), (sm.trans sm2).free np, ?_⟩
          rw [upd_same, key, vs_append]
    · obtain ⟨z, z2, S, rfl, sm, nS, eS⟩ := hI
      rw [len_vs, List.take_length] at eS
      refine ⟨.ref S, rfl, S, ((sumsOf B).map fun i : Nat => (i : Int)), rfl, SqL.of (by rw [← vs_int]; exact eS), fun ns' p pm od np => ?_⟩
      obtain ⟨L, rfl, p2⟩ := back_vs pm
      refine q _ p L (sm.trans (same_new np)) (sm.free np) (by rw [upd_same, ← vs_int]) p2 ?_
      have o2 : (L.map fun i : Nat => (i : Int)).Pairwise (· ≤ ·) := od
      rw [List.pairwise_map] at o2
      exact o2.imp fun h => by omega
abbrev s_check_words : Stmt := topS 37
abbrev N_check_words : List Str := ["places", "words", "position", "word"]
theorem sc_check_words : FnScope N_check_words ["places", "words"] (defScope s_check_words) := ⟨rfl, rfl, rfl, by decide +kernel, rfl, by decide +kernel, by decide +kernel⟩
theorem ok_check_words {f : Addr} {fd : FuncData} (F : Fun K "check_words" "check_words" s_check_words f fd) (C_is_list : Cal P w K mg base "is_list" 1 ["value"] [] sp_is_list) (C_is_word : Cal P w K mg base "is_word" 4 ["places", "value"] [] sp_is_word)
    {t : Tok} (g_MOST_WORDS : mg "MOST_WORDS" = some (.int 48 t)) (m_len : mg "len" = none) (m_enumerate : mg "enumerate" = none) : FnOk P w K mg base CX0 5 f fd ["places", "words"] sp_check_words := by
  refine F.ok sc_check_words (fun vs H Q E h => ?_) (fun cdv A outer s H vs Q E hr h => ?_)
  · obtain ⟨n, a, ws, rfl, _⟩ := h
    rfl
  · obtain ⟨n, a, ws, rfl, hS, n1, n24, hw, lw, q⟩ := h
    have l48 : ¬ 48 < (Vf.vs ws).length := by
      rw [len_vs]
      omega
    have word : ∀ {i : Nat} {x : V}, (Vf.vs ws)[i]? = some x → ∃ v : Nat, x = .int (v : Int) ∧ v < 2 ^ n := fun {i x} hx => by
      obtain ⟨v, ev, e⟩ := get_vs hx
      exact ⟨v, e, hw v (List.mem_of_getElem? ev)⟩
    rcases hS with hS | hS
    · refine ⟨_, (pss_cons (ps_if (PW.pt (pw_or (pt_not (pt_val (pe_cal C_is_list (hr.mono (by decide)) (by rfl) (pa_cons (pv 1) pa_nil)))) (pw_or1 (pt_cmpR op_gtN (pe_callB call_len_seq (by rfl) m_len (by decide +kernel) (pa_cons (pv 1) pa_nil)) (pe_glob (v := .int 48) rfl g_MOST_WORDS ⟨_, rfl⟩) (nomark _))))) (pss_one ps_never) pss_nil)
    (pss_one (ps_for PassesOwn.never rfl (pi_enum (by rfl) m_enumerate (pa_cons (pv 1) pa_nil)) (pg_tup rfl (pgs_cons (pg_name (i := 2) sc_check_words.nd rfl (Or.inl rfl)) (pgs_cons (pg_name (i := 3) sc_check_words.nd rfl (Or.inl rfl)) pgs_nil)))
      (pss_one (ps_if (pt_not (pt_val (pe_cal C_is_word (hr.mono (by decide)) (by rfl) (pa_cons (pv 0) (pa_cons (pv 3) pa_nil))))) (pss_one ps_never) pss_nil))))), ?_⟩
      refine ⟨.ref a, rfl, a, _, rfl, .inl hS, fun H1 s1 => ⟨true, rfl, iteF ?_⟩⟩
      have hL : SqL K H1 a (Vf.vs ws) := SqL.of (s1 _ _ hS)
      refine ⟨.ref a, rfl, a, _, rfl, .inl hL, (Vf.vs ws).length, 48, rfl, rfl, false, bl_f l48, iteF ?_⟩
      refine ⟨.ref a, rfl, a, _, rfl, hL, fun i m σ H2 => ∃ z2 z3 : Option V, σ = [some (.int n), some (.ref a), z2, z3] ∧ i + m = (Vf.vs ws).length ∧ Same H H2, ⟨(Vf.vs ws).length, none, none, rfl, by omega, s1⟩, fun i m σ H2 hW => ?_⟩
      obtain ⟨z2, z3, rfl, em, sm⟩ := hW
      have hL2 : SqL K H2 a (Vf.vs ws) := SqL.of (sm _ _ hS)
      by_cases hi : i < (Vf.vs ws).length
      · refine .inr ⟨⟨_, _, hL2, List.getElem?_eq_getElem hi⟩, fun σ' H' => ∃ z2 z3 : Option V, σ' = [some (.int n), some (.ref a), z2, z3] ∧ Same H H', fun σ' H' hN => ?_, fun x H' hy => ?_⟩
        · obtain ⟨y2, y3, e, sm'⟩ := hN
          exact ⟨m - 1, by omega, y2, y3, e, by omega, sm'⟩
        · obtain ⟨T, x1, rfl, nT, rfl, fx⟩ := hy
          obtain ⟨v, rfl, hv⟩ := word (fx _ hL2)
          have s2 := sm.trans (same_new (o := .tup [.int (i : Nat), .int (v : Int)]) nT)
          refine ⟨T, [.int (i : Nat), .int (v : Int)], rfl, .inl (.inl upd_same), rfl, .int (i : Nat), [.int (v : Int)], rfl, .int (v : Int), [], rfl, rfl, ?_⟩
          exact ⟨.int n, rfl, .int v, rfl, n, v, rfl, n1, n24, true, bl_t hv, iteF ⟨_, _, rfl, s2⟩⟩
      · exact .inl ⟨⟨_, hL2, by omega⟩, q H2 sm⟩
    · refine ⟨_, (pss_cons (ps_if (PW.pt (pw_or (pt_not (pt_val (pe_cal C_is_list (hr.mono (by decide)) (by rfl) (pa_cons (pv 1) pa_nil)))) (pw_or1 (pt_cmpR op_gtN (pe_callB call_len_seq (by rfl) m_len (by decide +kernel) (pa_cons (pv 1) pa_nil)) (pe_glob (v := .int 48) rfl g_MOST_WORDS ⟨_, rfl⟩) (nomark _))))) (pss_one ps_never) pss_nil)
    (pss_one (ps_for PassesOwn.never rfl (pi_enumT (by rfl) m_enumerate (pa_cons (pv 1) pa_nil)) (pg_tup rfl (pgs_cons (pg_name (i := 2) sc_check_words.nd rfl (Or.inl rfl)) (pgs_cons (pg_name (i := 3) sc_check_words.nd rfl (Or.inl rfl)) pgs_nil)))
      (pss_one (ps_if (pt_not (pt_val (pe_cal C_is_word (hr.mono (by decide)) (by rfl) (pa_cons (pv 0) (pa_cons (pv 3) pa_nil))))) (pss_one ps_never) pss_nil))))), ?_⟩
      refine ⟨.ref a, rfl, a, _, rfl, .inr hS, fun H1 s1 => ⟨true, rfl, iteF ?_⟩⟩
      have hL : SqT K H1 a (Vf.vs ws) := .inl (.inl (s1 _ _ hS))
      refine ⟨.ref a, rfl, a, _, rfl, .inr hL, (Vf.vs ws).length, 48, rfl, rfl, false, bl_f l48, iteF ?_⟩
      refine ⟨.ref a, rfl, a, _, rfl, hL, fun i m σ H2 => ∃ z2 z3 : Option V, σ = [some (.int n), some (.ref a), z2, z3] ∧ i + m = (Vf.vs ws).length ∧ Same H H2, ⟨(Vf.vs ws).length, none, none, rfl, by omega, s1⟩, fun i m σ H2 hW => ?_⟩
      obtain ⟨z2, z3, rfl, em, sm⟩ := hW
      have hL2 : SqT K H2 a (Vf.vs ws) := .inl (.inl (sm _ _ hS))
      by_cases hi : i < (Vf.vs ws).length
      · refine .inr ⟨⟨_, _, hL2, List.getElem?_eq_getElem hi⟩, fun σ' H' => ∃ z2 z3 : Option V, σ' = [some (.int n), some (.ref a), z2, z3] ∧ Same H H', fun σ' H' hN => ?_, fun x H' hy => ?_⟩
        · obtain ⟨y2, y3, e, sm'⟩ := hN
          exact ⟨m - 1, by omega, y2, y3, e, by omega, sm'⟩
        · obtain ⟨T, x1, rfl, nT, rfl, fx⟩ := hy
          obtain ⟨v, rfl, hv⟩ := word (fx _ hL2)
          have s2 := sm.trans (same_new (o := .tup [.int (i : Nat), .int (v : Int)]) nT)
          refine ⟨T, [.int (i : Nat), .int (v : Int)], rfl, .inl (.inl upd_same), rfl, .int (i : Nat), [.int (v : Int)], rfl, .int (v : Int), [], rfl, rfl, ?_⟩
          exact ⟨.int n, rfl, .int v, rfl, n, v, rfl, n1, n24, true, bl_t hv, iteF ⟨_, _, rfl, s2⟩⟩
      · exact .inl ⟨⟨_, hL2, by omega⟩, q H2 sm⟩
abbrev s_Room___init__ : Stmt := inClass (topS 38) 0
abbrev N_Room___init__ : List Str := ["self", "places", "words"]
theorem sc_Room___init__ : FnScope N_Room___init__ ["self", "places", "words"] (defScope s_Room___init__) := ⟨rfl, rfl, rfl, by decide +kernel, rfl, by decide +kernel, by decide +kernel⟩
theorem ok_init {f : Addr} {fd : FuncData} (F : Fun K "__init__" "Room.__init__" s_Room___init__ f fd) (R : RKn K C) (C_check_places : Cal P w K mg base "check_places" 3 ["places"] [] sp_check_places)
    (C_check_words : Cal P w K mg base "check_words" 5 ["places", "words"] [] sp_check_words) (C_plain_basis : Cal P w K mg base "plain_basis" 3 ["words"] [] sp_plain_basis) : FnOk P w K mg base CX0 6 f fd ["self", "places", "words"] (sp_init C) := by
  refine F.ok sc_Room___init__ (fun vs H Q E h => ?_) (fun cdv A outer s H vs Q E hr h => ?_)
  · obtain ⟨x, dx, n, a, ws, rfl, _⟩ := h
    rfl
  · obtain ⟨x, dx, n, a, ws, rfl, ex, hS, n1, n24, hw, lw, q⟩ := h
    refine ⟨_, (pss_cons (ps_expr (pe_cal C_check_places (hr.mono (by decide)) (by rfl) (pa_cons (pv 1) pa_nil)))
    (pss_cons (ps_expr (pe_cal C_check_words (hr.mono (by decide)) (by rfl) (pa_cons (pv 1) (pa_cons (pv 2) pa_nil))))
    (pss_cons (ps_fld (pv 0) (pv 1) rfl)
    (pss_one (ps_fld (pv 0) (pe_cal C_plain_basis (hr.mono (by decide)) (by rfl) (pa_cons (pv 2) pa_nil)) rfl))))), ?_⟩
    refine ⟨.int n, rfl, n, rfl, n1, n24, .int n, rfl, .ref a, rfl, n, a, ws, rfl, hS, n1, n24, hw, lw, fun H1 s1 => ?_⟩
    refine ⟨.int n, rfl, .ref x, rfl, x, C, dx, [], rfl, s1 _ _ ex, R.cl, R.nP, by decide, ?_⟩
    have nax : a ≠ x := by
      rintro rfl
      rcases hS with h | h <;> rw [h] at ex <;> cases ex
    have b1 : But x H (upd H1 x (.ins C dx (putF "_places" (.int (n : Int)) []))) := (But.of s1).upd
    have hS2 : Sq (upd H1 x (.ins C dx (putF "_places" (.int (n : Int)) []))) a (Vf.vs ws) := hS.imp (b1 _ _ nax) (b1 _ _ nax)
    refine ⟨.ref a, rfl, a, ws, rfl, hS2, fun v hv => lt64 n24 (hw v hv), by omega, fun H2 p B s2 np eB pl sp ln => ?_⟩
    refine ⟨.ref x, rfl, x, C, dx, _, rfl, s2 _ _ upd_same, R.cl, R.nB, (show 1 < 1000 by decide), ?_⟩
    have npx : p ≠ x := by
      rintro rfl
      rw [upd_same] at np
      cases np
    refine q _ B ((b1.trans (.of s2)).upd) ⟨dx, p, upd_same, by rw [upd_ne npx]; exact eB, pl, n1, n24, fun c hc => ?_, ?_⟩ sp ln
    · exact span_lt (ws := ws) hw ((sp c).mp (span_mem hc))
    · rw [upd_ne npx] at np
      exact s1.free np
abbrev s_Room_places : Stmt := inClass (topS 38) 1
abbrev N_Room_places : List Str := ["self"]
theorem sc_Room_places : FnScope N_Room_places ["self"] (defScope s_Room_places) := ⟨rfl, rfl, rfl, by decide +kernel, rfl, by decide +kernel, by decide +kernel⟩
theorem ok_places {f : Addr} {fd : FuncData} (F : Fun K "places" "Room.places" s_Room_places f fd) (R : RKn K C) : FnOk P w K mg base CX0 1 f fd ["self"] (sp_places C) := by
  refine F.ok sc_Room_places (fun vs H Q E h => ?_) (fun cdv A outer s H vs Q E hr h => ?_)
  · obtain ⟨x, n, B, rfl, _⟩ := h
    rfl
  · obtain ⟨x, n, B, rfl, ⟨dx, b, ex, eb, pl, n1, n24, hB⟩, q⟩ := h
    refine ⟨_, (pss_one (ps_ret (pe_fld (pv 0) rfl))), ?_⟩
    exact ⟨.ref x, rfl, x, C, dx, _, _, rfl, ex, R.cl, R.nP, rf_places n b, q⟩
abbrev s_Room_dimension : Stmt := inClass (topS 38) 2
abbrev N_Room_dimension : List Str := ["self"]
theorem sc_Room_dimension : FnScope N_Room_dimension ["self"] (defScope s_Room_dimension) := ⟨rfl, rfl, rfl, by decide +kernel, rfl, by decide +kernel, by decide +kernel⟩
theorem ok_dimension {f : Addr} {fd : FuncData} (F : Fun K "dimension" "Room.dimension" s_Room_dimension f fd) (R : RKn K C) (m_len : mg "len" = none) : FnOk P w K mg base CX0 1 f fd ["self"] (sp_dimension C) := by
  refine F.ok sc_Room_dimension (fun vs H Q E h => ?_) (fun cdv A outer s H vs Q E hr h => ?_)
  · obtain ⟨x, n, B, rfl, _⟩ := h
    rfl
  · obtain ⟨x, n, B, rfl, ⟨dx, b, ex, eb, pl, n1, n24, hB⟩, q⟩ := h
    refine ⟨_, (pss_one (ps_ret (pe_callB call_len_seq (by rfl) m_len (by decide +kernel) (pa_cons (pe_fld (pv 0) rfl) pa_nil)))), ?_⟩
    refine ⟨.ref x, rfl, x, C, dx, _, _, rfl, ex, R.cl, R.nB, rf_basis n b, b, _, rfl, .inl (SqL.of eb), ?_⟩
    rw [len_vs]
    exact q
abbrev s_Room_basis : Stmt := inClass (topS 38) 3
abbrev N_Room_basis : List Str := ["self"]
theorem sc_Room_basis : FnScope N_Room_basis ["self"] (defScope s_Room_basis) := ⟨rfl, rfl, rfl, by decide +kernel, rfl, by decide +kernel, by decide +kernel⟩
theorem ok_basis {f : Addr} {fd : FuncData} (F : Fun K "basis" "Room.basis" s_Room_basis f fd) (R : RKn K C) (m_list : mg "list" = none) : FnOk P w K mg base CX0 1 f fd ["self"] (sp_basis C) := by
  refine F.ok sc_Room_basis (fun vs H Q E h => ?_) (fun cdv A outer s H vs Q E hr h => ?_)
  · obtain ⟨x, n, B, rfl, _⟩ := h
    rfl
  · obtain ⟨x, n, B, rfl, ⟨dx, b, ex, eb, pl, n1, n24, hB⟩, q⟩ := h
    refine ⟨_, (pss_one (ps_ret (pe_callTy call_list_of (by rfl) m_list (by decide +kernel) (pa_cons (pe_fld (pv 0) rfl) pa_nil)))), ?_⟩
    exact ⟨.ref x, rfl, x, C, dx, _, _, rfl, ex, R.cl, R.nB, rf_basis n b, b, _, rfl, .inl (SqL.of eb), fun p np => q _ p (same_new np) np upd_same⟩
abbrev s_Room_has : Stmt := inClass (topS 38) 4
abbrev N_Room_has : List Str := ["self", "word"]
theorem sc_Room_has : FnScope N_Room_has ["self", "word"] (defScope s_Room_has) := ⟨rfl, rfl, rfl, by decide +kernel, rfl, by decide +kernel, by decide +kernel⟩
theorem ok_has {f : Addr} {fd : FuncData} (F : Fun K "has" "Room.has" s_Room_has f fd) (R : RKn K C) (C_check_word : Cal P w K mg base "check_word" 5 ["word", "places"] [] sp_check_word) (C_rest_of : Cal P w K mg base "rest_of" 2 ["word", "basis"] [] sp_rest_of) :
    FnOk P w K mg base CX0 6 f fd ["self", "word"] (sp_has C) := by
  refine F.ok sc_Room_has (fun vs H Q E h => ?_) (fun cdv A outer s H vs Q E hr h => ?_)
  · obtain ⟨x, n, B, m, rfl, _⟩ := h
    rfl
  · obtain ⟨x, n, B, m, rfl, ⟨dx, b, ex, eb, pl, n1, n24, hB⟩, hm, q⟩ := h
    refine ⟨_, (pss_cons (ps_expr (pe_cal C_check_word (hr.mono (by decide)) (by rfl) (pa_cons (pv 1) (pa_cons (pe_fld (pv 0) rfl) pa_nil))))
    (pss_one (ps_ret (pe_cmpR op_eqN (pe_cal C_rest_of (hr.mono (by decide)) (by rfl) (pa_cons (pv 1) (pa_cons (pe_fld (pv 0) rfl) pa_nil))) pe_int (nomark _))))), ?_⟩
    refine ⟨.int m, rfl, .ref x, rfl, x, C, dx, _, _, rfl, ex, R.cl, R.nP, rf_places n b, m, n, rfl, n1, n24, hm, ?_⟩
    exact ⟨.int m, rfl, .ref x, rfl, x, C, dx, _, _, rfl, ex, R.cl, R.nB, rf_basis n b, m, b, B, rfl, eb, fun c hc => ⟨pl.1.2 c hc, lt64 n24 (hB c hc)⟩, restOf m B, 0, rfl, rfl, q⟩
abbrev s_Room_words : Stmt := inClass (topS 38) 5
abbrev N_Room_words : List Str := ["self"]
theorem sc_Room_words : FnScope N_Room_words ["self"] (defScope s_Room_words) := ⟨rfl, rfl, rfl, by decide +kernel, rfl, by decide +kernel, by decide +kernel⟩
theorem ok_words {f : Addr} {fd : FuncData} (F : Fun K "words" "Room.words" s_Room_words f fd) (R : RKn K C) (C_sums_of : Cal P w K mg base "sums_of" 1 ["basis"] [] sp_sums_of) {t : Tok} (g_MOST_DIMENSION : mg "MOST_DIMENSION" = some (.int 8 t)) (m_len : mg "len" = none) :
    FnOk P w K mg base CX0 2 f fd ["self"] (sp_words C) := by
  refine F.ok sc_Room_words (fun vs H Q E h => ?_) (fun cdv A outer s H vs Q E hr h => ?_)
  · obtain ⟨x, n, B, rfl, _⟩ := h
    rfl
  · obtain ⟨x, n, B, rfl, ⟨dx, b, ex, eb, pl, n1, n24, hB⟩, lB, q⟩ := h
    refine ⟨_, (pss_cons (ps_if (pt_cmpR op_gtN (pe_callB call_len_seq (by rfl) m_len (by decide +kernel) (pa_cons (pe_fld (pv 0) rfl) pa_nil)) (pe_glob (v := .int 8) rfl g_MOST_DIMENSION ⟨_, rfl⟩) (nomark _)) (pss_one ps_never) pss_nil)
    (pss_one (ps_ret (pe_cal C_sums_of (hr.mono (by decide)) (by rfl) (pa_cons (pe_fld (pv 0) rfl) pa_nil))))), ?_⟩
    have l8 : ¬ 8 < (Vf.vs B).length := by
      rw [len_vs]
      omega
    refine ⟨.ref x, rfl, x, C, dx, _, _, rfl, ex, R.cl, R.nB, rf_basis n b, b, _, rfl, .inl (SqL.of eb), (Vf.vs B).length, 8, rfl, rfl, false, bl_f l8, iteF ?_⟩
    exact ⟨.ref x, rfl, x, C, dx, _, _, rfl, ex, R.cl, R.nB, rf_basis n b, b, B, rfl, eb, pl.1, by omega, q⟩
abbrev s_Room___eq__ : Stmt := inClass (topS 38) 6
abbrev N_Room___eq__ : List Str := ["self", "other"]
theorem sc_Room___eq__ : FnScope N_Room___eq__ ["self", "other"] (defScope s_Room___eq__) := ⟨rfl, rfl, rfl, by decide +kernel, rfl, by decide +kernel, by decide +kernel⟩
theorem ok_eq {f : Addr} {fd : FuncData} (F : Fun K "__eq__" "Room.__eq__" s_Room___eq__ f fd) (R : RKn K C) (g_Room : mg "Room" = some (.ref C)) (m_isinstance : mg "isinstance" = none) : FnOk P w K mg base CX0 1 f fd ["self", "other"] (sp_eq K C) := by
  refine F.ok sc_Room___eq__ (fun vs H Q E h => ?_) (fun cdv A outer s H vs Q E hr h => ?_)
  · obtain ⟨x, n, B, y, rfl, _⟩ := h
    rfl
  · obtain ⟨x, n, B, y, rfl, ⟨dx, b, ex, eb, pl, n1, n24, hB⟩, hy⟩ := h
    refine ⟨_, (pss_one (ps_ret (pe_and (pe_callB call_isi (by rfl) m_isinstance (by decide +kernel) (pa_cons (pv 1) (pa_cons (pe_glob (v := .ref C) rfl g_Room rfl) pa_nil))) (pe_and (pe_cmpR op_eqN (pe_fld (pv 0) rfl) (pe_fld (pv 1) rfl) (nomark _)) (pe_one (pe_cmpR (op_eqD hr.units) (pe_fld (pv 0) rfl) (pe_fld (pv 1) rfl) (nomark _))))))), ?_⟩
    rcases hy with ⟨z, m, D, rfl, ⟨dz, d, ez, ed, pd, _⟩, q⟩ | ⟨t, ty, ko, q⟩
    · refine ⟨.ref z, rfl, .ref z, .ref C, .ref C, .ref C, true, rfl, .own C, .base (.ins ez R.cl R.ca R.cn R.ct R.cm), if_pos (beq_self_eq_true _), true, rfl, iteT ?_⟩
      refine ⟨.ref x, rfl, x, C, dx, _, _, rfl, ex, R.cl, R.nP, rf_places n b, .ref z, rfl, z, C, dz, _, _, rfl, ez, R.cl, R.nP, rf_places m d, n, m, rfl, rfl, decide (n = m), rfl, ?_⟩
      refine ite2 (fun e => ?_) (fun e => ?_)
      · have e' : n = m := of_decide_eq_true e
        refine ⟨.ref x, rfl, x, C, dx, _, _, rfl, ex, R.cl, R.nB, rf_basis n b, .ref z, rfl, z, C, dz, _, _, rfl, ez, R.cl, R.nB, rf_basis m d, eqD_vs (SqL.of eb) (SqL.of ed) ?_⟩
        have : decide (n = m ∧ B = D) = decide (B = D) := decide_eq_decide.mpr ⟨fun k => k.2, fun k => ⟨e', k⟩⟩
        rw [this] at q
        exact q
      · have : decide (n = m ∧ B = D) = false := decide_eq_false fun k => e (decide_eq_true k.1)
        rw [this] at q
        exact q
    · exact ⟨y, rfl, y, .ref C, t, .ref C, false, rfl, .own C, ty, ko, false, rfl, iteF q⟩
abbrev s_Room___repr__ : Stmt := inClass (topS 38) 7
abbrev N_Room___repr__ : List Str := ["self"]
theorem sc_Room___repr__ : FnScope N_Room___repr__ ["self"] (defScope s_Room___repr__) := ⟨rfl, rfl, rfl, by decide +kernel, rfl, by decide +kernel, by decide +kernel⟩
theorem ok_repr {f : Addr} {fd : FuncData} (F : Fun K "__repr__" "Room.__repr__" s_Room___repr__ f fd) (R : RKn K C) : GgOk P w K mg base 1 f fd ["self"] (sp_repr C) := by
  refine gg_ok F sc_Room___repr__ (fun g vs H Q E h => ?_) (fun g cdv A outer s H vs Q E hg hr h => ?_)
  · obtain ⟨x, dx, b, n, B, rfl, _⟩ := h
    rfl
  · obtain ⟨x, dx, b, n, B, rfl, ex, eb, n1, n24, hB, lB, hc, q⟩ := h
    have sm : ∀ y ∈ Vf.vs B, small y = true := small_vs fun c hc => lt24 n24 (hB c hc)
    have l1 := txt_len sm
    rw [len_vs] at l1
    have l2 : ((toString (n : Int) : Str)).length ≤ 30 := by
      have e := int_text_length_le (a := (n : Int)) (k := 24) (by decide) (by
        show n.log2 < 24
        exact (Nat.log2_lt (by omega)).mpr (Nat.lt_of_le_of_lt n24 (by decide)))
      show (Str.ofString (toString (n : Int))).length ≤ 30
      rw [PySem.ofString_length]
      omega
    have e3 : sizeLine = 16777216 := sizeLine_eq
    have k1 : (Str.empty).length = 0 := rfl
    have k2 : (("Room(" : Str)).length = 5 := rfl
    have k3 : ((", " : Str)).length = 2 := rfl
    have k4 : ((")" : Str)).length = 1 := rfl
    refine ⟨_, (pss_one (ps_ret (pe_joined (PJ.cons pe_str (PJ.cons (pe_fmt (pe_fld (pv 0) rfl)) (PJ.cons pe_str (PJ.cons (pe_fmtG hg hr.units (pe_fld (pv 0) rfl)) (PJ.cons pe_str PJ.nil)))))))), ?_⟩
    refine ⟨"Room(", rfl, by rw [strLen_append]; omega, ?_⟩
    refine ⟨.ref x, rfl, x, C, dx, _, _, rfl, ex, R.cl, R.nP, rf_places n b, .inr ⟨n, rfl, ?_, toString (n : Int), rfl, by rw [strLen_append, strLen_append]; omega, ?_⟩⟩
    · show n.log2 < 1920
      exact Nat.lt_of_lt_of_le ((Nat.log2_lt (by omega)).mpr (Nat.lt_of_le_of_lt n24 (show 24 < 2 ^ 24 by decide))) (by decide)
    refine ⟨", ", rfl, by rw [strLen_append, strLen_append, strLen_append]; omega, ?_⟩
    refine ⟨.ref x, rfl, x, C, dx, _, _, rfl, ex, R.cl, R.nB, rf_basis n b, ⟨⟨b, _, rfl, SqL.of eb, sm, hc, by omega, ?_⟩⟩⟩
    refine ⟨txt (Vf.vs B), rfl, by rw [strLen_append, strLen_append, strLen_append, strLen_append]; omega, ?_⟩
    exact ⟨")", rfl, by rw [strLen_append, strLen_append, strLen_append, strLen_append, strLen_append]; omega, q⟩
abbrev s_check_room : Stmt := topS 39
abbrev N_check_room : List Str := ["room"]
theorem sc_check_room : FnScope N_check_room ["room"] (defScope s_check_room) := ⟨rfl, rfl, rfl, by decide +kernel, rfl, by decide +kernel, by decide +kernel⟩
theorem ok_check_room {f : Addr} {fd : FuncData} (F : Fun K "check_room" "check_room" s_check_room f fd)
    (R : RKn K C)
    (g_Room : mg "Room" = some (.ref C))
    (m_isinstance : mg "isinstance" = none) :
    FnOk P w K mg base CX0 1 f fd ["room"] (sp_check_room C) := by
  refine fn_nv F sc_check_room (fun _ _ => rfl) fun W i hP cdv A outer s H E hr => ⟨_, (pss_one (ps_if (pt_not (pt_val (pe_callB call_isi (by rfl) m_isinstance (by decide +kernel) (pa_cons (pv 0) (pa_cons (pe_glob (v := .ref C) rfl g_Room rfl) pa_nil))))) (pss_one ps_never) pss_nil)), ?_⟩
  obtain ⟨n, B⟩ := i
  dsimp only
  exact ⟨_, nv_ifF (tv_nf (tv_t (tv_B (ev_cb (cd_isRoom R) (av_cons (ev_var rfl) (av_cons ev_c av_nil)))) rfl))⟩
abbrev s_check_two : Stmt := topS 40
abbrev N_check_two : List Str := ["room", "other"]
theorem sc_check_two : FnScope N_check_two ["room", "other"] (defScope s_check_two) := ⟨rfl, rfl, rfl, by decide +kernel, rfl, by decide +kernel, by decide +kernel⟩
theorem ok_check_two {f : Addr} {fd : FuncData} (F : Fun K "check_two" "check_two" s_check_two f fd)
    (C_check_room : Cal P w K mg base "check_room" 1 ["room"] [] (sp_check_room C))
    (P_places : PrpC P w K mg base C "places" 1 (sp_places C)) :
    FnOk P w K mg base CX0 3 f fd ["room", "other"] (sp_check_two C) := by
  refine fn_nv F sc_check_two (fun _ _ => rfl) fun W i hP cdv A outer s H E hr => ⟨_, (pss_cons (ps_expr (pe_cal C_check_room (hr.mono (by decide)) (by rfl) (pa_cons (pv 0) pa_nil)))
    (pss_cons (ps_expr (pe_cal C_check_room (hr.mono (by decide)) (by rfl) (pa_cons (pv 1) pa_nil)))
    (pss_one (ps_if (pt_cmpR op_neN (pe_propC P_places (hr.mono (by decide)) (pv 0) rfl) (pe_propC P_places (hr.mono (by decide)) (pv 1) rfl) (nomark _)) (pss_one ps_never) pss_nil)))), ?_⟩
  obtain ⟨n, A, B⟩ := i
  dsimp only
  exact ⟨_, nv_seq (nv_drop (ev_call sd_check_room (av_cons (ev_var rfl) av_nil))) (nv_seq (nv_drop (ev_call sd_check_room (av_cons (ev_var rfl) av_nil)))
    (nv_ifF (tv_f (tv_test (ev_op od_neN (ev_prop sd_places (ev_var rfl)) (ev_prop sd_places (ev_var rfl)))) (by simp))))⟩
abbrev s_even_word : Stmt := topS 42
abbrev N_even_word : List Str := ["unit", "basis", "word", "base"]
theorem sc_even_word : FnScope N_even_word ["unit", "basis"] (defScope s_even_word) := ⟨rfl, rfl, rfl, by decide +kernel, rfl, by decide +kernel, by decide +kernel⟩
theorem ok_even_word {f : Addr} {fd : FuncData} (F : Fun K "even_word" "even_word" s_even_word f fd)
    (C_highest : Cal P w K mg base "highest" 1 ["word"] [] sp_highest) :
    FnOk P w K mg base CX0 2 f fd ["unit", "basis"] sp_even_word := by
  refine fn_sv F sc_even_word (fun _ _ => rfl) fun W i hP cdv A outer s H E hr => ⟨_, (pss_cons (ps_set (i := 2) sc_even_word.nd rfl (Or.inl rfl) (pv 0))
    (pss_cons (ps_for PassesOwn.never rfl (pi_list (pv 1)) (pg_name (i := 3) sc_even_word.nd rfl (Or.inl rfl))
      (pss_one (ps_if (pt_int (pe_op op_andN (pv 3) (pv 0)) (by intro _; rfl)) (pss_one (ps_set (i := 2) sc_even_word.nd rfl (Or.inl rfl) (pe_op op_xorN (pv 2) (pe_cal C_highest (hr.mono (by decide)) (by rfl) (pa_cons (pv 3) pa_nil))))) pss_nil)))
    (pss_one (ps_ret (pv 2))))), ?_⟩
  obtain ⟨i, B⟩ := i
  obtain ⟨h, pl, lt⟩ := hP
  have h : i < 24 := h
  have pl : Plain B := pl
  have lt : ∀ b ∈ B, b < 2 ^ 24 := lt
  try dsimp only
  refine sv_seq (nv_set (ev_var rfl)) ?_
  refine sv_seq (nv_of_nvc (nvc_forV (cs := []) (xs := vs B) (fun k => (envOf [dN (2 ^ i), dVs B] 2).set 2 (some (dN (fW (B.take k) (2 ^ i))))) (fun _ => []) rfl rfl (fun σ H h => ?_) rfl (fun _ => rfl) fun k x hx => ?_) rfl) (sv_ret (ev_eq (ev_var rfl) (by rw [len_vs, List.take_length])))
  · have e : fW (B.take 0) (2 ^ i) = 2 ^ i := Nat.xor_zero _
    try dsimp only
    rw [e]
    exact h
  · obtain ⟨b, hb, rfl⟩ := get_vs hx
    have mb := List.mem_of_getElem? hb
    have b0 := pl.1.2 b mb
    have b64 : b < 2 ^ 64 := Nat.lt_of_lt_of_le (lt b mb) (by decide)
    have st : fW (B.take (k + 1)) (2 ^ i) = fW (B.take k) (2 ^ i) ^^^ pw (b.testBit i) (2 ^ b.log2) := by
      unfold fW
      rw [List.take_add_one, hb, show (some b).toList = [b] from rfl, gW_snoc, par_pow h, Nat.xor_assoc]
    refine nvc_end (nv_if (tv_int (ev_op od_andN (ev_var rfl) (ev_var rfl))) (fun t_ => ?_) (fun t_ => ?_))
    · rw [and_pow] at t_
      rw [t_] at st
      exact nv_sub (nv_set (ev_op od_xorN (ev_var rfl) (ev_call (sd_highest b0 b64) (av_cons (ev_var rfl) av_nil)))) rfl ⟨congrArg (fun z => some (dN z)) st.symm, rfl, rfl, trivial⟩
    · rw [and_pow] at t_
      rw [t_] at st
      exact nv_sub nv_next rfl ⟨congrArg (fun z => some (dN z)) (st.trans (Nat.xor_zero _)).symm, rfl, rfl, trivial⟩
abbrev s_contrary : Stmt := topS 43
abbrev N_contrary : List Str := ["room", "basis", "place"]
theorem sc_contrary : FnScope N_contrary ["room"] (defScope s_contrary) := ⟨rfl, rfl, rfl, by decide +kernel, rfl, by decide +kernel, by decide +kernel⟩
theorem ok_contrary {f : Addr} {fd : FuncData} (F : Fun K "contrary" "contrary" s_contrary f fd)
    (C_check_room : Cal P w K mg base "check_room" 1 ["room"] [] (sp_check_room C))
    (C_even_word : Cal P w K mg base "even_word" 2 ["unit", "basis"] [] sp_even_word)
    (MK_Room : MakC P w K mg base C "Room" 6 ["self", "places", "words"] (sp_init C))
    (M_basis : MthC P w K mg base C "basis" 1 ["self"] (sp_basis C))
    (P_places : PrpC P w K mg base C "places" 1 (sp_places C))
    (m_range : mg "range" = none)
    (n_basis : ∀ n b, (rf n b).lookup ("basis" : Str) = none) :
    FnOk P w K mg base CX0 8 f fd ["room"] (sp_contrary C) := by
  refine fn_sv F sc_contrary (fun _ _ => rfl) fun W i hP cdv A outer s H E hr => ⟨_, (pss_cons (ps_expr (pe_cal C_check_room (hr.mono (by decide)) (by rfl) (pa_cons (pv 0) pa_nil)))
    (pss_cons (ps_set (i := 1) sc_contrary.nd rfl (Or.inr rfl) (pe_meth0C M_basis (hr.mono (by decide)) (pv 0)))
    (pss_one (ps_ret (pe_mkC MK_Room (hr.mono (by decide)) (by rfl) (pa_cons (pe_propC P_places (hr.mono (by decide)) (pv 0) rfl) (pa_cons (pe_lc (own := [("place", 2)]) (g := gName 2) (by rfl) sc_contrary.nd (pi_range1 (by rfl) m_range (pa_cons (pe_propC P_places (hr.mono (by decide)) (pv 0) rfl) pa_nil)) (blkOk_by (own := [("place", 2)]) (N := N_contrary) (sc := defScope s_contrary) (by decide +kernel)) (fun _ _ _ _ _ => pg_name (i := 2) sc_contrary.nd rfl (Or.inl rfl)) (fun _ _ _ _ _ => pts_nil) (fun _ _ _ _ _ => (pe_cal C_even_word (hr.mono (by decide)) (by rfl) (pa_cons (pe_op op_pow2 pe_int (pv 2)) (pa_cons (pv 1) pa_nil))))) pa_nil))))))), ?_⟩
  obtain ⟨n, B⟩ := i
  try dsimp only
  refine sv_roomF 0 rfl fun fB => ?_
  have lB := plain_len24 fB
  have n24 := fB.n24
  refine sv_seq (nv_drop (ev_call sd_check_room (av_cons (ev_var rfl) av_nil))) ?_
  refine sv_seq (nv_set (ev_meth n_basis sd_basis (ev_var rfl) av_nil)) ?_
  exact sv_ret (ev_make (ws := conB n B) fB.n1 n24 (conB_lt fB.pl fB.lt) (by unfold conB; rw [List.length_map, List.length_range]; omega) (av_cons (ev_prop sd_places (ev_var rfl)) (av_cons (ev_lcRM (g := fun i => fW B (2 ^ i)) (av_cons (ev_prop sd_places (ev_var rfl)) av_nil) (by omega) fun place hplace => (ev_call (sd_even_word (by omega) fB.pl fun b hb => lt24 n24 (fB.lt b hb)) (av_cons (ev_op (od_pow2 (by omega)) (ev_cn 1) (ev_var rfl)) (av_cons (ev_var rfl) av_nil)))) av_nil)))
abbrev s_is_power_of_2 : Stmt := topS 45
abbrev N_is_power_of_2 : List Str := ["number"]
theorem sc_is_power_of_2 : FnScope N_is_power_of_2 ["number"] (defScope s_is_power_of_2) := ⟨rfl, rfl, rfl, by decide +kernel, rfl, by decide +kernel, by decide +kernel⟩
theorem ok_is_power_of_2 {f : Addr} {fd : FuncData} (F : Fun K "is_power_of_2" "is_power_of_2" s_is_power_of_2 f fd) :
    FnOk P w K mg base CX0 1 f fd ["number"] sp_pow2 := by
  refine fn_sv F sc_is_power_of_2 (fun _ _ => rfl) fun W i hP cdv A outer s H E hr => ⟨_, (pss_one (ps_ret (pe_cmpR op_eqN (pe_op op_andN (pv 0) (pe_op op_subN (pv 0) pe_int)) pe_int (nomark _)))), ?_⟩
  have h : i ≤ 24 := hP
  try dsimp only
  exact sv_ret (ev_t (ev_op od_eqN (ev_op od_andN (ev_var rfl) (ev_op (od_subN (Nat.two_pow_pos i)) (ev_var rfl) (ev_cn 1))) (ev_cn 0)) (d_t (pow2_and i)))
abbrev s_is_row : Stmt := topS 46
abbrev N_is_row : List Str := ["value", "number", "total"]
theorem sc_is_row : FnScope N_is_row ["value"] (defScope s_is_row) := ⟨rfl, rfl, rfl, by decide +kernel, rfl, by decide +kernel, by decide +kernel⟩
theorem ok_is_row {f : Addr} {fd : FuncData} {t_MOST_PLACES : Tok} (F : Fun K "is_row" "is_row" s_is_row f fd)
    (C_is_count : Cal P w K mg base "is_count" 2 ["value"] [] sp_is_count)
    (C_is_list : Cal P w K mg base "is_list" 1 ["value"] [] sp_is_list)
    (C_is_power_of_2 : Cal P w K mg base "is_power_of_2" 1 ["number"] [] sp_pow2)
    (g_MOST_PLACES : mg "MOST_PLACES" = some (.int 24 t_MOST_PLACES))
    (m_all : mg "all" = none)
    (m_len : mg "len" = none)
    (m_sum : mg "sum" = none) :
    FnOk P w K mg base CX0 3 f fd ["value"] sp_is_row := by
  refine fn_sv F sc_is_row (fun _ _ => rfl) fun W i hP cdv A outer s H E hr => ⟨_, (pss_cons (ps_if (PW.pt (pw_or (pt_not (pt_val (pe_cal C_is_list (hr.mono (by decide)) (by rfl) (pa_cons (pv 0) pa_nil)))) (pw_or1 (pt_not (pt_chain op_leN op_leN pe_int (pe_callB call_len_seq (by rfl) m_len (by decide +kernel) (pa_cons (pv 0) pa_nil)) (pe_op op_addN (pe_glob (v := .int 24) rfl g_MOST_PLACES ⟨_, rfl⟩) pe_int)))))) (pss_one (ps_ret pe_bl)) pss_nil)
    (pss_cons (ps_if (PW.pt (pw_or (pt_not (pt_val (pe_callB (cr_all rfl) (by rfl) m_all (by decide +kernel) (pa_cons (pe_lc (own := [("number", 1)]) (g := gName 1) (by rfl) sc_is_row.nd (pi_list (pv 0)) (blkOk_by (own := [("number", 1)]) (N := N_is_row) (sc := defScope s_is_row) (by decide +kernel)) (fun _ _ _ _ _ => pg_name (i := 1) sc_is_row.nd rfl (Or.inl rfl)) (fun _ _ _ _ _ => pts_nil) (fun _ _ _ _ _ => (pe_cal C_is_count (hr.mono (by decide)) (by rfl) (pa_cons (pv 1) pa_nil)))) pa_nil)))) (pw_or1 (pt_cmpR op_neN (pe_ix ix_list (pv 0) pe_int (fun _ _ => rfl)) pe_int (nomark _))))) (pss_one (ps_ret pe_bl)) pss_nil)
    (pss_cons (ps_set (i := 2) sc_is_row.nd rfl (Or.inl rfl) (pe_callB (cr_sum rfl) (by rfl) m_sum (by decide +kernel) (pa_cons (pv 0) pa_nil)))
    (pss_one (ps_ret (pe_and (pe_cal C_is_power_of_2 (hr.mono (by decide)) (by rfl) (pa_cons (pv 2) pa_nil)) (pe_one (pe_cmpR op_leN (pv 2) (pe_op op_pow2 pe_int (pe_op op_subN (pe_callB call_len_seq (by rfl) m_len (by decide +kernel) (pa_cons (pv 0) pa_nil)) pe_int)) (nomark _))))))))), ?_⟩
  have h : RowP i := hP
  obtain ⟨l2, l25, one, k, sm, hk⟩ := h
  have g0 : i.getD 0 0 = 1 := by rw [List.getD_eq_getElem?_getD, one]; rfl
  have pk : 2 ^ k ≤ 2 ^ (i.length - 1) := pw_le (by omega)
  try dsimp only
  refine sv_seq (nv_ifF (tv_orF (tv_nf (tv_B (ev_call sd_is_listL (av_cons (ev_var rfl) av_nil)))) (tv_nf (tv_t (tv_test (ev_chainT (ev_cn 2) (ev_cb cd_lenN (av_cons (ev_var rfl) av_nil)) (od_tt od_leN (d_t l2)) (ev_op od_addN (ev_cn 24) (ev_cn 1)) od_leN)) (d_t l25))))) ?_
  refine sv_seq (nv_ifF (tv_orF (tv_nf (tv_t (tv_B (ev_cb cd_all (av_cons (ev_lcB (g := fun _ => true) (ev_var rfl) (by omega) fun number hnumber => (ev_call sd_is_countN (av_cons (ev_var rfl) av_nil))) av_nil))) (by simp))) (tv_f (tv_test (ev_op od_neN (ev_op (od_ixN (by omega)) (ev_var rfl) (ev_cn 0)) (ev_cn 1))) (nd_t g0)))) ?_
  refine sv_seq (nv_set (d := dN (2 ^ k)) (ev_eqD (ev_cb cd_sum (av_cons (ev_var rfl) av_nil)) (by rw [sm]))) ?_
  exact sv_ret (ev_andT (ev_call (sd_pow2 (by omega)) (av_cons (ev_var rfl) av_nil)) (ev_t (ev_op od_leN (ev_var rfl) (ev_op (od_pow2 (by omega)) (ev_cn 1) (ev_op (od_subN (by omega)) (ev_cb cd_lenN (av_cons (ev_var rfl) av_nil)) (ev_cn 1)))) (d_t pk)))
abbrev s_check_row : Stmt := topS 47
abbrev N_check_row : List Str := ["row"]
theorem sc_check_row : FnScope N_check_row ["row"] (defScope s_check_row) := ⟨rfl, rfl, rfl, by decide +kernel, rfl, by decide +kernel, by decide +kernel⟩
theorem ok_check_row {f : Addr} {fd : FuncData} (F : Fun K "check_row" "check_row" s_check_row f fd)
    (C_is_row : Cal P w K mg base "is_row" 3 ["value"] [] sp_is_row) :
    FnOk P w K mg base CX0 4 f fd ["row"] sp_check_row := by
  refine fn_nv F sc_check_row (fun _ _ => rfl) fun W i hP cdv A outer s H E hr => ⟨_, (pss_one (ps_if (pt_not (pt_val (pe_cal C_is_row (hr.mono (by decide)) (by rfl) (pa_cons (pv 0) pa_nil)))) (pss_one ps_never) pss_nil)), ?_⟩
  have h : RowP i := hP
  try dsimp only
  exact ⟨_, nv_ifF (tv_nf (tv_B (ev_call (sd_is_row h) (av_cons (ev_var rfl) av_nil))))⟩
abbrev s_entries : Stmt := topS 48
abbrev N_entries : List Str := ["places", "second", "numbers", "factor", "sign", "by_x", "by_y"]
theorem sc_entries : FnScope N_entries ["places", "second"] (defScope s_entries) := ⟨rfl, rfl, rfl, by decide +kernel, rfl, by decide +kernel, by decide +kernel⟩
theorem ok_entries {f : Addr} {fd : FuncData} (F : Fun K "entries" "entries" s_entries f fd)
    (m_range : mg "range" = none)
    (m_zip : mg "zip" = none) :
    FnOk P w K mg base CX0 1 f fd ["places", "second"] sp_entries := by
  refine fn_sv F sc_entries (fun _ _ => rfl) fun W i hP cdv A outer s H E hr => ⟨_, (pss_cons (ps_set (i := 2) sc_entries.nd rfl (Or.inl rfl) (pe_lst (pa_cons pe_int pa_nil)))
    (pss_cons (ps_for PassesOwn.never rfl (pi_range1 (by rfl) m_range (pa_cons (pv 0) pa_nil)) (pg_name (i := 3) sc_entries.nd rfl (Or.inl rfl))
      (pss_cons (ps_set (i := 4) sc_entries.nd rfl (Or.inr rfl) (pe_ifExp (pt_cmpR op_ltN (pv 3) (pv 1) (nomark _)) (pe_un un_neg pe_int) pe_int))
    (pss_one (ps_setLc (i := 2) (own := [("by_x", 5), ("by_y", 6)]) (g := gTup K 2 (gCons (gName 5) (gCons (gName 6) gNil))) (by rfl) sc_entries.nd rfl rfl (sw_true rfl rfl rfl (by decide +kernel)) (pi_zip (by rfl) m_zip (pa_cons (pe_op op_cat (pv 2) (pe_lst (pa_cons pe_int pa_nil))) (pa_cons (pe_op op_cat (pe_lst (pa_cons pe_int pa_nil)) (pv 2)) pa_nil))) (blkOk_by (own := [("by_x", 5), ("by_y", 6)]) (N := N_entries) (sc := defScope s_entries) (by decide +kernel)) (fun _ _ _ _ _ => (pg_tup rfl (pgs_cons (pg_name (i := 5) sc_entries.nd rfl (Or.inl rfl)) (pgs_cons (pg_name (i := 6) sc_entries.nd rfl (Or.inl rfl)) pgs_nil)))) (fun _ _ _ _ _ => pts_nil) (fun _ _ _ _ _ => (pe_op op_add (pv 5) (pe_op op_mul (pv 4) (pv 6))))))))
    (pss_one (ps_ret (pv 2))))), ?_⟩
  obtain ⟨n, i⟩ := i
  obtain ⟨n24, h⟩ := hP
  have n24 : n ≤ 24 := n24
  have h : i ≤ n := h
  try dsimp only
  refine sv_seq (nv_set (ev_lstI [1] (av_cons (ev_cn 1) av_nil))) ?_
  refine sv_seq (nv_of_nvc (nvc_forR (cs := []) (n := n) (fun k => (envOf [dN n, dN i] 5).set 2 (some (dIs (polL (sgs (2 ^ i - 1) k))))) (fun _ => []) (av_cons (ev_var rfl) av_nil) (fun σ H h => h) rfl (by omega) (av_cons (ev_var rfl) av_nil) (fun _ _ => rfl) fun k hk => ?_) rfl) ?_
  · refine nvc_end ?_
    refine nv_seq (nv_set (d := dI (if k < i then -1 else 1)) (ev_if (tv_test (ev_op od_ltN (ev_var rfl) (ev_var rfl))) (fun t_ => ?_) fun t_ => ?_)) ?_
    · rw [if_pos (of_decide_eq_true t_)]
      exact ev_neg (ev_cn 1)
    · rw [if_neg (of_decide_eq_false t_)]
      exact ev_cn 1
    have sc := sgn_cases (k < i)
    have st := ent_step (i := i) (k := k)
    have ln := polS_len (v := 2 ^ i - 1) (k := k)
    generalize (if k < i then (-1 : Int) else 1) = e at sc st ⊢
    generalize polL (sgs (2 ^ i - 1) k) = l at st ln ⊢
    refine nv_sub (nv_set (ev_lcZ (g := fun x y => x + e * y) (l := l ++ [0]) (l2 := [0] ++ l) (av_cons (ev_op (od_catI (by simp; omega)) (ev_var rfl) (ev_lstI [0] (av_cons (ev_cn 0) av_nil))) (av_cons (ev_op (od_catI (by simp; omega)) (ev_lstI [0] (av_cons (ev_cn 0) av_nil)) (ev_var rfl)) av_nil)) (by simp) (by simp; omega) (by decide) fun x y hx hy => (ev_op od_addI (ev_var rfl) (ev_op (od_mulI (cmul_l sc)) (ev_var rfl) (ev_var rfl))))) rfl ?_
    exact ⟨congrArg (fun z => some (dIs z)) st, rfl, rfl, trivial⟩
  · refine sv_ret (ev_eqD (ev_var rfl) ?_)
    rw [ent_of n24 h]
abbrev s_changed_sums : Stmt := topS 49
abbrev N_changed_sums : List Str := ["row", "places", "sums", "second", "number", "told", "part"]
theorem sc_changed_sums : FnScope N_changed_sums ["row"] (defScope s_changed_sums) := ⟨rfl, rfl, rfl, by decide +kernel, rfl, by decide +kernel, by decide +kernel⟩
theorem ok_changed_sums {f : Addr} {fd : FuncData} (F : Fun K "changed_sums" "changed_sums" s_changed_sums f fd)
    (C_entries : Cal P w K mg base "entries" 1 ["places", "second"] [] sp_entries)
    (m_enumerate : mg "enumerate" = none)
    (m_len : mg "len" = none)
    (m_zip : mg "zip" = none) :
    FnOk P w K mg base CX0 2 f fd ["row"] sp_changed_sums := by
  refine fn_sv F sc_changed_sums (fun _ _ => rfl) fun W i hP cdv A outer s H E hr => ⟨_, (pss_cons (ps_set (i := 1) sc_changed_sums.nd rfl (Or.inl rfl) (pe_op op_subN (pe_callB call_len_seq (by rfl) m_len (by decide +kernel) (pa_cons (pv 0) pa_nil)) pe_int))
    (pss_cons (ps_set (i := 2) sc_changed_sums.nd rfl (Or.inl rfl) (pe_op op_rep (pe_lst (pa_cons pe_int pa_nil)) (pe_callB call_len_seq (by rfl) m_len (by decide +kernel) (pa_cons (pv 0) pa_nil))))
    (pss_cons (ps_for PassesOwn.never rfl (pi_enum (by rfl) m_enumerate (pa_cons (pv 0) pa_nil)) (pg_tup rfl (pgs_cons (pg_name (i := 3) sc_changed_sums.nd rfl (Or.inl rfl)) (pgs_cons (pg_name (i := 4) sc_changed_sums.nd rfl (Or.inr rfl)) pgs_nil)))
      (pss_one (ps_setLc (i := 2) (own := [("told", 5), ("part", 6)]) (g := gTup K 2 (gCons (gName 5) (gCons (gName 6) gNil))) (by rfl) sc_changed_sums.nd rfl rfl (sw_true rfl rfl rfl (by decide +kernel)) (pi_zip (by rfl) m_zip (pa_cons (pv 2) (pa_cons (pe_cal C_entries (hr.mono (by decide)) (by rfl) (pa_cons (pv 1) (pa_cons (pv 3) pa_nil))) pa_nil))) (blkOk_by (own := [("told", 5), ("part", 6)]) (N := N_changed_sums) (sc := defScope s_changed_sums) (by decide +kernel)) (fun _ _ _ _ _ => (pg_tup rfl (pgs_cons (pg_name (i := 5) sc_changed_sums.nd rfl (Or.inl rfl)) (pgs_cons (pg_name (i := 6) sc_changed_sums.nd rfl (Or.inl rfl)) pgs_nil)))) (fun _ _ _ _ _ => pts_nil) (fun _ _ _ _ _ => (pe_op op_add (pv 5) (pe_op op_mul (pv 4) (pv 6)))))))
    (pss_one (ps_ret (pv 2)))))), ?_⟩
  obtain ⟨r, d⟩ := i
  have h : ChgP (r, d) := hP
  have l2 : 2 ≤ r.length := h.row.l2
  have l25 : r.length ≤ 25 := h.row.l25
  try dsimp only
  refine sv_seq (nv_set (ev_op (od_subN (by omega)) (ev_cb cd_lenN (av_cons (ev_var rfl) av_nil)) (ev_cn 1))) ?_
  refine sv_seq (nv_set (d := dIs (chK r 0)) (ev_eqD (ev_fl (fl_rep (n := r.length) (y := V.int 0) (ev_lstI [0] (av_cons (ev_cn 0) av_nil)) (ev_cb cd_lenN (av_cons (ev_var rfl) av_nil)) (by omega))) (chK_start r))) ?_
  refine sv_seq (nv_enum (l := r) (fun k => ((envOf [dVs r] 6).set 1 (some (dN (r.length - 1)))).set 2 (some (dIs (chK r k)))) (av_cons (ev_var rfl) av_nil) (fun _ _ h => h) fun k x hk => ?_) ?_
  · have kl : k < r.length := (List.getElem?_eq_some_iff.mp hk).1
    have gx : r.getD k 0 = x := by rw [List.getD_eq_getElem?_getD, hk]; rfl
    have st := chK_step (r := r) (k := k)
    rw [gx] at st
    have lc := chK_len r k
    have le := entL_len (r.length - 1) k
    refine nv_sub (nv_set (ev_lcZ (g := fun a b => a + (x : Int) * b) (l := chK r k) (l2 := entL (r.length - 1) k) (av_cons (ev_var rfl) (av_cons (ev_call (sd_entries (by omega) (by omega)) (av_cons (ev_var rfl) (av_cons (ev_var rfl) av_nil))) av_nil)) (by omega) (by omega) (by decide) fun a b ha hb => (ev_op od_addI (ev_var rfl) (ev_op (od_mulI (cmul_mem (n := r.length - 1) (i := k) (by omega) (by omega) hb)) (ev_var rfl) (ev_var rfl))))) rfl ?_
    exact ⟨congrArg (fun z => some (dIs z)) st, rfl, rfl, trivial⟩
  · exact sv_ret (ev_eqD (ev_var rfl) (congrArg dLst (chK_end h)))
abbrev s_changed : Stmt := topS 50
abbrev N_changed : List Str := ["row", "total", "sums", "position", "number"]
theorem sc_changed : FnScope N_changed ["row"] (defScope s_changed) := ⟨rfl, rfl, rfl, by decide +kernel, rfl, by decide +kernel, by decide +kernel⟩
theorem ok_changed {f : Addr} {fd : FuncData} (F : Fun K "changed" "changed" s_changed f fd)
    (C_changed_sums : Cal P w K mg base "changed_sums" 2 ["row"] [] sp_changed_sums)
    (C_check_row : Cal P w K mg base "check_row" 4 ["row"] [] sp_check_row)
    (m_enumerate : mg "enumerate" = none)
    (m_sum : mg "sum" = none) :
    FnOk P w K mg base CX0 5 f fd ["row"] sp_changed := by
  refine fn_svf F sc_changed (fun _ _ => rfl) fun W i hP cdv A outer s H E hr => ⟨_, (pss_cons (ps_expr (pe_cal C_check_row (hr.mono (by decide)) (by rfl) (pa_cons (pv 0) pa_nil)))
    (pss_cons (ps_set (i := 1) sc_changed.nd rfl (Or.inr rfl) (pe_callB (cr_sum rfl) (by rfl) m_sum (by decide +kernel) (pa_cons (pv 0) pa_nil)))
    (pss_cons (ps_set (i := 2) sc_changed.nd rfl (Or.inl rfl) (pe_cal C_changed_sums (hr.mono (by decide)) (by rfl) (pa_cons (pv 0) pa_nil)))
    (pss_cons (ps_for PassesOwn.never rfl (pi_enum (by rfl) m_enumerate (pa_cons (pv 2) pa_nil)) (pg_tup rfl (pgs_cons (pg_name (i := 3) sc_changed.nd rfl (Or.inl rfl)) (pgs_cons (pg_name (i := 4) sc_changed.nd rfl (Or.inl rfl)) pgs_nil)))
      (pss_one (ps_if (PW.pt (pw_or (pt_cmpR op_ltN (pv 4) pe_int (nomark _)) (pw_or1 (pt_cmpR op_neN (pe_op op_modNN (pv 4) (pv 1)) pe_int (nomark _))))) (pss_one ps_never) pss_nil)))
    (pss_one (ps_ret (pe_lc (own := [("number", 4)]) (g := gName 4) (by rfl) sc_changed.nd (pi_list (pv 2)) (blkOk_by (own := [("number", 4)]) (N := N_changed) (sc := defScope s_changed) (by decide +kernel)) (fun _ _ _ _ _ => pg_name (i := 4) sc_changed.nd rfl (Or.inl rfl)) (fun _ _ _ _ _ => pts_nil) (fun _ _ _ _ _ => (pe_op op_fdivNN (pv 4) (pv 1)))))))))), ?_⟩
  obtain ⟨r, d⟩ := i
  have h : ChgP (r, d) := hP
  have l25 : r.length ≤ 25 := h.row.l25
  have ld : d.length = r.length := h.len
  obtain ⟨s0, s1⟩ := h.row.sum0
  try dsimp only
  refine svf_seqN (nv_drop (ev_call (sd_check_row h.row) (av_cons (ev_var rfl) av_nil))) ?_
  refine svf_seqN (nv_set (ev_cb cd_sum (av_cons (ev_var rfl) av_nil))) ?_
  refine svf_seqN (nv_set (ev_call (sd_changed_sums h) (av_cons (ev_var rfl) av_nil))) ?_
  generalize r.sum = T at s0 s1 ⊢
  refine svf_seqN (nv_enum (l := d.map (T * ·)) (fun _ => ((envOf [dVs r] 4).set 1 (some (dN T))).set 2 (some (dVs (d.map (T * ·))))) (av_cons (ev_var rfl) av_nil) (fun _ _ h => h) fun k x hk => ?_) ?_
  · rw [List.getElem?_map] at hk
    obtain ⟨y, _, rfl⟩ := Option.map_eq_some_iff.mp hk
    exact nv_sub (nv_ifF (tv_orF (tv_f (tv_test (ev_op od_ltN (ev_var rfl) (ev_cn 0))) (decide_eq_false (by omega))) (tv_f (tv_test (ev_op od_neN (ev_op (od_modN s0) (ev_var rfl) (ev_var rfl)) (ev_cn 0))) (nd_t (Nat.mul_mod_right T y))))) rfl ⟨rfl, rfl, rfl, trivial⟩
  · refine svf_ret (fl_eq (fl_lcM (g := fun x => x / T) (ev_var rfl) (by rw [List.length_map]; omega) fun number hnumber => (ev_op (od_fdivN (by omega) (by omega)) (ev_var rfl) (ev_var rfl))) ?_)
    rw [List.map_map]
    refine congrArg vs ((List.map_congr_left fun x _ => ?_).trans (List.map_id d))
    exact Nat.mul_div_cancel_left x s0
abbrev s_counted_weights : Stmt := topS 52
abbrev N_counted_weights : List Str := ["places", "words", "numbers", "word"]
theorem sc_counted_weights : FnScope N_counted_weights ["places", "words"] (defScope s_counted_weights) := ⟨rfl, rfl, rfl, by decide +kernel, rfl, by decide +kernel, by decide +kernel⟩
theorem ok_counted_weights {f : Addr} {fd : FuncData} (F : Fun K "counted_weights" "counted_weights" s_counted_weights f fd)
    (C_weight : Cal P w K mg base "weight" 6 ["word"] [] sp_weight) :
    FnOk P w K mg base CX0 7 f fd ["places", "words"] sp_counted_weights := by
  refine fn_svf F sc_counted_weights (fun _ _ => rfl) fun W i hP cdv A outer s H E hr => ⟨_, (pss_cons (ps_set (i := 2) sc_counted_weights.nd rfl (Or.inl rfl) (pe_op op_rep (pe_lst (pa_cons pe_int pa_nil)) (pe_op op_addN (pv 0) pe_int)))
    (pss_cons (ps_for PassesOwn.never rfl (pi_list (pv 1)) (pg_name (i := 3) sc_counted_weights.nd rfl (Or.inl rfl))
      (pss_one (ps_augS (pv 2) (pe_cal C_weight (hr.mono (by decide)) (by rfl) (pa_cons (pv 3) pa_nil)) get_listN pe_int ip_add set_list)))
    (pss_one (ps_ret (pv 2))))), ?_⟩
  obtain ⟨n, L⟩ := i
  obtain ⟨n24, lt⟩ := hP
  have n24 : n ≤ 24 := n24
  have lt : ∀ v ∈ L, v < 2 ^ n := lt
  try dsimp only
  refine svf_cell (fl_rep (n := n + 1) (y := V.int 0) (ev_lstI [0] (av_cons (ev_cn 0) av_nil)) (ev_op od_addN (ev_var rfl) (ev_cn 1)) (by omega)) ?_
  refine svf_seq (nvc_cs (cs2 := [(2, vs (rowP pc n L))]) (nvc_forV (j := 1) (xs := vs L) (fun _ => envOf [dN n, dVs L] 2) (fun k => [(2, vs (rowP pc n (L.take k)))]) rfl rfl (fun σ H h => h.sub rfl ⟨rfl, rfl, trivial⟩) ?_ (fun _ => rfl) fun k x hx => ?_) ?_) svf_retC
  · rw [List.take_zero, rowP_nil, ← vs_rep]
    rfl
  · obtain ⟨w, hw, rfl⟩ := get_vs hx
    have wl : w < 2 ^ n := lt w (List.mem_of_getElem? hw)
    have pw : pc w ≤ n := pc_le_n n24 wl
    have ek : L.take (k + 1) = L.take k ++ [w] := by rw [List.take_add_one, hw]; rfl
    have st := rowP_step (P := pc) (n := n) (w := w) (L := L.take k) pw
    have at_ := rowP_at (P := pc) (n := n) (L := L.take k) pw
    rw [← ek] at st
    generalize ((L.take k).filter fun v => decide (pc v = pc w)).length = c at st at_
    refine nvc_sub' (nvc_cs (nvc_aug (a := (c : Int)) (b := 1) rfl (ev_call (sd_weight (lt24 n24 wl)) (av_cons (ev_var rfl) av_nil)) (vs_getR at_) (ev_cn 1)) ?_) rfl ⟨rfl, rfl, trivial⟩
    show [(2, (vs _).set (pc w) (V.int ((c + 1 : Nat) : Int)))] = [(2, vs _)]
    rw [vs_set, st]
  · show [(2, vs (rowP pc n (L.take (vs L).length)))] = _
    rw [len_vs, List.take_length]
abbrev s_counted : Stmt := topS 53
abbrev N_counted : List Str := ["room"]
theorem sc_counted : FnScope N_counted ["room"] (defScope s_counted) := ⟨rfl, rfl, rfl, by decide +kernel, rfl, by decide +kernel, by decide +kernel⟩
theorem ok_counted {f : Addr} {fd : FuncData} (F : Fun K "counted" "counted" s_counted f fd)
    (C_counted_weights : Cal P w K mg base "counted_weights" 7 ["places", "words"] [] sp_counted_weights)
    (C_sums_of : Cal P w K mg base "sums_of" 1 ["basis"] [] sp_sums_of)
    (M_basis : MthC P w K mg base C "basis" 1 ["self"] (sp_basis C))
    (P_places : PrpC P w K mg base C "places" 1 (sp_places C))
    (n_basis : ∀ n b, (rf n b).lookup ("basis" : Str) = none) :
    FnOk P w K mg base CX0 8 f fd ["room"] (sp_counted C) := by
  refine fn_svf F sc_counted (fun _ _ => rfl) fun W i hP cdv A outer s H E hr => ⟨_, (pss_one (ps_ret (pe_cal C_counted_weights (hr.mono (by decide)) (by rfl) (pa_cons (pe_propC P_places (hr.mono (by decide)) (pv 0) rfl) (pa_cons (pe_cal C_sums_of (hr.mono (by decide)) (by rfl) (pa_cons (pe_meth0C M_basis (hr.mono (by decide)) (pv 0)) pa_nil)) pa_nil))))), ?_⟩
  obtain ⟨n, B⟩ := i
  have lB : B.length ≤ 12 := hP
  try dsimp only
  refine svf_roomF 0 rfl fun fB => ?_
  have n24 := fB.n24
  have lt := words_lt fB.pl fB.lt
  exact svf_ret (fl_counted_weights n24 lt (av_cons (ev_prop sd_places (ev_var rfl)) (av_cons (ev_fl (fl_sums fB.pl.1 lB (av_cons (ev_meth n_basis sd_basis (ev_var rfl) av_nil) av_nil))) av_nil)))
abbrev s_row : Stmt := topS 54
abbrev N_row : List Str := ["room"]
theorem sc_row : FnScope N_row ["room"] (defScope s_row) := ⟨rfl, rfl, rfl, by decide +kernel, rfl, by decide +kernel, by decide +kernel⟩
theorem ok_row {f : Addr} {fd : FuncData} (F : Fun K "row" "row" s_row f fd)
    (C_changed : Cal P w K mg base "changed" 5 ["row"] [] sp_changed)
    (C_check_room : Cal P w K mg base "check_room" 1 ["room"] [] (sp_check_room C))
    (C_contrary : Cal P w K mg base "contrary" 8 ["room"] [] (sp_contrary C))
    (C_counted : Cal P w K mg base "counted" 8 ["room"] [] (sp_counted C))
    (P_dimension : PrpC P w K mg base C "dimension" 1 (sp_dimension C))
    (P_places : PrpC P w K mg base C "places" 1 (sp_places C)) :
    FnOk P w K mg base CX0 9 f fd ["room"] (sp_row C) := by
  refine fn_svf F sc_row (fun _ _ => rfl) fun W i hP cdv A outer s H E hr => ⟨_, (pss_cons (ps_expr (pe_cal C_check_room (hr.mono (by decide)) (by rfl) (pa_cons (pv 0) pa_nil)))
    (pss_cons (ps_if (pt_cmpR op_gtN (pe_op op_mulN pe_int (pe_propC P_dimension (hr.mono (by decide)) (pv 0) rfl)) (pe_propC P_places (hr.mono (by decide)) (pv 0) rfl) (nomark _)) (pss_one (ps_ret (pe_cal C_changed (hr.mono (by decide)) (by rfl) (pa_cons (pe_cal C_counted (hr.mono (by decide)) (by rfl) (pa_cons (pe_cal C_contrary (hr.mono (by decide)) (by rfl) (pa_cons (pv 0) pa_nil)) pa_nil)) pa_nil)))) pss_nil)
    (pss_one (ps_ret (pe_cal C_counted (hr.mono (by decide)) (by rfl) (pa_cons (pv 0) pa_nil)))))), ?_⟩
  obtain ⟨n, B⟩ := i
  try dsimp only
  refine svf_roomF 0 rfl fun fB => ?_
  have n24 := fB.n24
  have dm := con_dim fB.pl n24 fB.lt
  refine svf_seqN (nv_drop (ev_call sd_check_room (av_cons (ev_var rfl) av_nil))) ?_
  refine svf_ifR (tv_test (ev_op od_gtN (ev_op (od_mulN (by omega)) (ev_cn 2) (ev_prop sd_dimension (ev_var rfl))) (ev_prop sd_places (ev_var rfl)))) (fun t_ => ?_) (fun t_ => ?_)
  · have t_ := of_decide_eq_true t_
    exact svf_ret (fl_call (i := (rowB n (bas (conB n B)), rowB n B)) (ys := fun i => vs i.2) (rowB_chg2 fB) (av_cons (ev_call (sd_counted (by omega)) (av_cons (ev_call sd_contrary (av_cons (ev_var rfl) av_nil)) av_nil)) av_nil))
  · have t_ := of_decide_eq_false t_
    exact svf_ret (fl_call (i := (n, B)) (ys := fun i => vs (rowB i.1 i.2)) (show B.length ≤ 12 by omega) (av_cons (ev_var rfl) av_nil))
abbrev s_lower_room : Stmt := topS 56
abbrev N_lower_room : List Str := ["places", "doubled", "word"]
theorem sc_lower_room : FnScope N_lower_room ["places", "doubled"] (defScope s_lower_room) := ⟨rfl, rfl, rfl, by decide +kernel, rfl, by decide +kernel, by decide +kernel⟩
theorem ok_lower_room {f : Addr} {fd : FuncData} (F : Fun K "lower_room" "lower_room" s_lower_room f fd)
    (C_plain_basis : Cal P w K mg base "plain_basis" 3 ["words"] [] sp_plain_basis)
    (MK_Room : MakC P w K mg base C "Room" 6 ["self", "places", "words"] (sp_init C)) :
    FnOk P w K mg base CX0 8 f fd ["places", "doubled"] (sp_lower_room C) := by
  refine fn_sv F sc_lower_room (fun _ _ => rfl) fun W i hP cdv A outer s H E hr => ⟨_, (pss_one (ps_ret (pe_mkC MK_Room (hr.mono (by decide)) (by rfl) (pa_cons (pv 0) (pa_cons (pe_lc (own := [("word", 2)]) (g := gName 2) (by rfl) sc_lower_room.nd (pi_list (pe_cal C_plain_basis (hr.mono (by decide)) (by rfl) (pa_cons (pv 1) pa_nil))) (blkOk_by (own := [("word", 2)]) (N := N_lower_room) (sc := defScope s_lower_room) (by decide +kernel)) (fun _ _ _ _ _ => pg_name (i := 2) sc_lower_room.nd rfl (Or.inl rfl)) (fun _ _ _ _ _ => (pts_one (pt_cmpR op_ltN (pv 2) (pe_op op_pow2 pe_int (pv 0)) (nomark _)))) (fun _ _ _ _ _ => (pv 2))) pa_nil))))), ?_⟩
  obtain ⟨n, ws⟩ := i
  dsimp only
  obtain ⟨n1, n24, lt, ln⟩ := hP
  have n1 : 1 ≤ n := n1
  have n24 : n ≤ 24 := n24
  have lt : ∀ v ∈ ws, v < 2 ^ 64 := lt
  have ln : ws.length ≤ 1000 := ln
  have ln' : (bas ws).length ≤ 1000 := Nat.le_trans (plain_len (bas_plain ws) (bas_lt lt)) (by decide)
  refine sv_ret (ev_eq (ev_make n1 n24 lowB_lt ?_ (av_cons (ev_var rfl) (av_cons (ev_lcF (ev_call (sd_plain_basis lt ln) (av_cons (ev_var rfl) av_nil)) (by omega) (fun _ => rfl) fun word hword => (tv_test (ev_op od_ltN (ev_var rfl) (ev_op (od_pow2 (by omega)) (ev_cn 1) (ev_var rfl))))) av_nil))) ?_)
  · exact Nat.le_trans (plain_len (lowB_plain n ws) lowB_lt) (by omega)
  · exact congrArg (dRoom C n) (bas_lowB n ws)
abbrev s_sum_room : Stmt := topS 57
abbrev N_sum_room : List Str := ["room", "other"]
theorem sc_sum_room : FnScope N_sum_room ["room", "other"] (defScope s_sum_room) := ⟨rfl, rfl, rfl, by decide +kernel, rfl, by decide +kernel, by decide +kernel⟩
theorem ok_sum_room {f : Addr} {fd : FuncData} (F : Fun K "sum_room" "sum_room" s_sum_room f fd)
    (C_check_two : Cal P w K mg base "check_two" 3 ["room", "other"] [] (sp_check_two C))
    (MK_Room : MakC P w K mg base C "Room" 6 ["self", "places", "words"] (sp_init C))
    (M_basis : MthC P w K mg base C "basis" 1 ["self"] (sp_basis C))
    (P_places : PrpC P w K mg base C "places" 1 (sp_places C))
    (n_basis : ∀ n b, (rf n b).lookup ("basis" : Str) = none) :
    FnOk P w K mg base CX0 8 f fd ["room", "other"] (sp_sum_room C) := by
  refine fn_sv F sc_sum_room (fun _ _ => rfl) fun W i hP cdv A outer s H E hr => ⟨_, (pss_cons (ps_expr (pe_cal C_check_two (hr.mono (by decide)) (by rfl) (pa_cons (pv 0) (pa_cons (pv 1) pa_nil))))
    (pss_one (ps_ret (pe_mkC MK_Room (hr.mono (by decide)) (by rfl) (pa_cons (pe_propC P_places (hr.mono (by decide)) (pv 0) rfl) (pa_cons (pe_op op_cat (pe_meth0C M_basis (hr.mono (by decide)) (pv 0)) (pe_meth0C M_basis (hr.mono (by decide)) (pv 1))) pa_nil)))))), ?_⟩
  obtain ⟨n, A, B⟩ := i
  dsimp only
  refine sv_roomF 0 rfl fun fA => sv_roomF 1 rfl fun fB => ?_
  have lA := plain_len24 fA
  have lB := plain_len24 fB
  refine sv_seq (nv_drop (ev_call sd_check_two (av_cons (ev_var rfl) (av_cons (ev_var rfl) av_nil)))) ?_
  refine sv_ret (ev_make fA.n1 fA.n24 (fun v hv => (List.mem_append.mp hv).elim (fA.lt v) (fB.lt v)) ?_ (av_cons (ev_prop sd_places (ev_var rfl)) (av_cons (ev_op (od_cat (by omega)) (ev_meth n_basis sd_basis (ev_var rfl) av_nil) (ev_meth n_basis sd_basis (ev_var rfl) av_nil)) av_nil)))
  rw [List.length_append]
  omega
abbrev s_common_room : Stmt := topS 58
abbrev N_common_room : List Str := ["room", "other", "doubled", "word"]
theorem sc_common_room : FnScope N_common_room ["room", "other"] (defScope s_common_room) := ⟨rfl, rfl, rfl, by decide +kernel, rfl, by decide +kernel, by decide +kernel⟩
theorem ok_common_room {f : Addr} {fd : FuncData} (F : Fun K "common_room" "common_room" s_common_room f fd)
    (C_check_two : Cal P w K mg base "check_two" 3 ["room", "other"] [] (sp_check_two C))
    (C_lower_room : Cal P w K mg base "lower_room" 8 ["places", "doubled"] [] (sp_lower_room C))
    (M_basis : MthC P w K mg base C "basis" 1 ["self"] (sp_basis C))
    (P_places : PrpC P w K mg base C "places" 1 (sp_places C))
    (n_basis : ∀ n b, (rf n b).lookup ("basis" : Str) = none) :
    FnOk P w K mg base CX0 9 f fd ["room", "other"] (sp_common_room C) := by
  refine fn_sv F sc_common_room (fun _ _ => rfl) fun W i hP cdv A outer s H E hr => ⟨_, (pss_cons (ps_expr (pe_cal C_check_two (hr.mono (by decide)) (by rfl) (pa_cons (pv 0) (pa_cons (pv 1) pa_nil))))
    (pss_cons (ps_setLc (i := 2) (own := [("word", 3)]) (g := gName 3) (by rfl) sc_common_room.nd rfl rfl (sw_true rfl rfl rfl (by decide +kernel)) (pi_list (pe_meth0C M_basis (hr.mono (by decide)) (pv 0))) (blkOk_by (own := [("word", 3)]) (N := N_common_room) (sc := defScope s_common_room) (by decide +kernel)) (fun _ _ _ _ _ => pg_name (i := 3) sc_common_room.nd rfl (Or.inl rfl)) (fun _ _ _ _ _ => pts_nil) (fun _ _ _ _ _ => (pe_op op_orN (pe_op op_shlNN (pv 3) (pe_propC P_places (hr.mono (by decide)) (pv 0) rfl)) (pv 3))))
    (pss_one (ps_ret (pe_cal C_lower_room (hr.mono (by decide)) (by rfl) (pa_cons (pe_propC P_places (hr.mono (by decide)) (pv 0) rfl) (pa_cons (pe_op op_cat (pv 2) (pe_lc (own := [("word", 3)]) (g := gName 3) (by rfl) sc_common_room.nd (pi_list (pe_meth0C M_basis (hr.mono (by decide)) (pv 1))) (blkOk_by (own := [("word", 3)]) (N := N_common_room) (sc := defScope s_common_room) (by decide +kernel)) (fun _ _ _ _ _ => pg_name (i := 3) sc_common_room.nd rfl (Or.inl rfl)) (fun _ _ _ _ _ => pts_nil) (fun _ _ _ _ _ => (pe_op op_shlNN (pv 3) (pe_propC P_places (hr.mono (by decide)) (pv 0) rfl))))) pa_nil))))))), ?_⟩
  obtain ⟨n, A, B⟩ := i
  dsimp only
  refine sv_roomF 0 rfl fun fA => sv_roomF 1 rfl fun fB => ?_
  have lA := plain_len24 fA
  have lB := plain_len24 fB
  have n24 := fA.n24
  have n1 := fA.n1
  have a64 : ∀ w ∈ A, w < 2 ^ 64 := fun w hw => lt64 n24 (fA.lt w hw)
  have b64 : ∀ w ∈ B, w < 2 ^ 64 := fun w hw => lt64 n24 (fB.lt w hw)
  refine sv_seq (nv_drop (ev_call sd_check_two (av_cons (ev_var rfl) (av_cons (ev_var rfl) av_nil)))) ?_
  refine sv_seq (nv_set (ev_lcM (g := fun w => (w <<< n) ||| w) (ev_meth n_basis sd_basis (ev_var rfl) av_nil) (by omega) fun word hword => (ev_op od_orN (ev_op (od_shlN (a64 _ hword) (by omega)) (ev_var rfl) (ev_prop sd_places (ev_var rfl))) (ev_var rfl)))) ?_
  refine sv_ret (ev_call (sd_lower_room (ws := comB n A B) n1 n24 (comB_lt n24 fA.lt fB.lt) (by rw [comB_len]; omega)) (av_cons (ev_prop sd_places (ev_var rfl)) (av_cons (ev_op (od_cat (by rw [List.length_map, List.length_map]; omega)) (ev_var rfl) (ev_lcM (g := fun w => w <<< n) (ev_meth n_basis sd_basis (ev_var rfl) av_nil) (by omega) fun word hword => (ev_op (od_shlN (b64 _ hword) (by omega)) (ev_var rfl) (ev_prop sd_places (ev_var rfl))))) av_nil)))
abbrev s_beside : Stmt := topS 59
abbrev N_beside : List Str := ["room", "other", "places", "word"]
theorem sc_beside : FnScope N_beside ["room", "other"] (defScope s_beside) := ⟨rfl, rfl, rfl, by decide +kernel, rfl, by decide +kernel, by decide +kernel⟩
theorem ok_beside {f : Addr} {fd : FuncData} {t_MOST_PLACES : Tok} (F : Fun K "beside" "beside" s_beside f fd)
    (C_check_room : Cal P w K mg base "check_room" 1 ["room"] [] (sp_check_room C))
    (MK_Room : MakC P w K mg base C "Room" 6 ["self", "places", "words"] (sp_init C))
    (M_basis : MthC P w K mg base C "basis" 1 ["self"] (sp_basis C))
    (P_places : PrpC P w K mg base C "places" 1 (sp_places C))
    (g_MOST_PLACES : mg "MOST_PLACES" = some (.int 24 t_MOST_PLACES))
    (n_basis : ∀ n b, (rf n b).lookup ("basis" : Str) = none) :
    FnOk P w K mg base CX0 8 f fd ["room", "other"] (sp_beside C) := by
  refine fn_sv F sc_beside (fun _ _ => rfl) fun W i hP cdv A outer s H E hr => ⟨_, (pss_cons (ps_expr (pe_cal C_check_room (hr.mono (by decide)) (by rfl) (pa_cons (pv 0) pa_nil)))
    (pss_cons (ps_expr (pe_cal C_check_room (hr.mono (by decide)) (by rfl) (pa_cons (pv 1) pa_nil)))
    (pss_cons (ps_set (i := 2) sc_beside.nd rfl (Or.inl rfl) (pe_op op_addN (pe_propC P_places (hr.mono (by decide)) (pv 0) rfl) (pe_propC P_places (hr.mono (by decide)) (pv 1) rfl)))
    (pss_cons (ps_if (pt_cmpR op_gtN (pv 2) (pe_glob (v := .int 24) rfl g_MOST_PLACES ⟨_, rfl⟩) (nomark _)) (pss_one ps_never) pss_nil)
    (pss_one (ps_ret (pe_mkC MK_Room (hr.mono (by decide)) (by rfl) (pa_cons (pv 2) (pa_cons (pe_op op_cat (pe_meth0C M_basis (hr.mono (by decide)) (pv 0)) (pe_lc (own := [("word", 3)]) (g := gName 3) (by rfl) sc_beside.nd (pi_list (pe_meth0C M_basis (hr.mono (by decide)) (pv 1))) (blkOk_by (own := [("word", 3)]) (N := N_beside) (sc := defScope s_beside) (by decide +kernel)) (fun _ _ _ _ _ => pg_name (i := 3) sc_beside.nd rfl (Or.inl rfl)) (fun _ _ _ _ _ => pts_nil) (fun _ _ _ _ _ => (pe_op op_shlNN (pv 3) (pe_propC P_places (hr.mono (by decide)) (pv 0) rfl))))) pa_nil))))))))), ?_⟩
  obtain ⟨n, A, m, B⟩ := i
  have h : n + m ≤ 24 := hP
  dsimp only
  refine sv_roomF 0 rfl fun fA => sv_roomF 1 rfl fun fB => ?_
  have lA := plain_len24 fA
  have lB := plain_len24 fB
  have n1 := fA.n1
  have n24 := fA.n24
  refine sv_seq (nv_drop (ev_call sd_check_room (av_cons (ev_var rfl) av_nil))) ?_
  refine sv_seq (nv_drop (ev_call sd_check_room (av_cons (ev_var rfl) av_nil))) ?_
  refine sv_seq (nv_set (ev_op od_addN (ev_prop sd_places (ev_var rfl)) (ev_prop sd_places (ev_var rfl)))) ?_
  refine sv_seq (nv_ifF (tv_f (tv_test (ev_op od_gtN (ev_var rfl) (ev_cn 24))) (decide_eq_false (by omega)))) ?_
  exact sv_ret (ev_make (ws := besB n A B) (by omega) h (bes_lt fA.lt fB.lt) (by rw [besB_len]; omega) (av_cons (ev_var rfl) (av_cons (ev_op (od_cat (by rw [List.length_map]; omega)) (ev_meth n_basis sd_basis (ev_var rfl) av_nil) (ev_lcM (g := fun w => w <<< n) (ev_meth n_basis sd_basis (ev_var rfl) av_nil) (by omega) fun word hword => (ev_op (od_shlN (lt64 fB.n24 (fB.lt _ hword)) (by omega)) (ev_var rfl) (ev_prop sd_places (ev_var rfl))))) av_nil)))
abbrev s_led : Stmt := topS 60
abbrev N_led : List Str := ["word", "sequence", "place"]
theorem sc_led : FnScope N_led ["word", "sequence"] (defScope s_led) := ⟨rfl, rfl, rfl, by decide +kernel, rfl, by decide +kernel, by decide +kernel⟩
theorem ok_led {f : Addr} {fd : FuncData} (F : Fun K "led" "led" s_led f fd)
    (C_places_of : Cal P w K mg base "places_of" 6 ["word"] [] sp_places_of)
    (C_word_of : Cal P w K mg base "word_of" 4 ["spots"] [] sp_word_of) :
    FnOk P w K mg base CX0 7 f fd ["word", "sequence"] sp_led := by
  refine fn_sv F sc_led (fun _ _ => rfl) fun W i hP cdv A outer s H E hr => ⟨_, (pss_one (ps_ret (pe_cal C_word_of (hr.mono (by decide)) (by rfl) (pa_cons (pe_lc (own := [("place", 2)]) (g := gName 2) (by rfl) sc_led.nd (pi_list (pe_cal C_places_of (hr.mono (by decide)) (by rfl) (pa_cons (pv 0) pa_nil))) (blkOk_by (own := [("place", 2)]) (N := N_led) (sc := defScope s_led) (by decide +kernel)) (fun _ _ _ _ _ => pg_name (i := 2) sc_led.nd rfl (Or.inl rfl)) (fun _ _ _ _ _ => pts_nil) (fun _ _ _ _ _ => (pe_ix (ix_seqS K) (pv 1) (pv 2) (fun _ _ => rfl)))) pa_nil)))), ?_⟩
  obtain ⟨w, s⟩ := i
  obtain ⟨nd, lt, hw, l24⟩ := hP
  have nd : s.Nodup := nd
  have lt : ∀ x ∈ s, x < 24 := lt
  have hw : w < 2 ^ s.length := hw
  have l24 : s.length ≤ 24 := l24
  dsimp only
  have w24 : w < 2 ^ 24 := lt24 l24 hw
  have e : (spots w).map (fun i => s.getD i 0) = ledL s w := spots_led rfl l24 hw
  have mem : ∀ i ∈ spots w, i < s.length := fun i hi => by
    have := ((spots_mem w i).mp hi).2
    refine Nat.lt_of_not_le fun k => ?_
    rw [bit_hi hw k] at this
    cases this
  refine sv_ret (ev_eq (ev_call (sd_word_of (l := (spots w).map fun i => s.getD i 0) ?_ ?_ ?_) (av_cons (lt_of_L (ev_lcM (g := fun i => s.getD i 0) (ev_call (sd_places_of w24) (av_cons (ev_var rfl) av_nil)) (by rw [spots_len]; have := pc_le w; omega) fun place hplace => (ev_op (od_ixLT (mem _ hplace)) (ev_var rfl) (ev_var rfl)))) av_nil)) ?_)
  · rw [e]
    exact ledL_nd nd w
  · intro i hi
    obtain ⟨j, hj, rfl⟩ := List.mem_map.mp hi
    have := mem j hj
    rw [getD_el this]
    exact lt _ (List.getElem_mem this)
  · rw [List.length_map, spots_len]
    exact pc_le w
  · rw [e]
    rfl
abbrev s_exchanged : Stmt := topS 61
abbrev N_exchanged : List Str := ["room", "sequence", "base"]
theorem sc_exchanged : FnScope N_exchanged ["room", "sequence"] (defScope s_exchanged) := ⟨rfl, rfl, rfl, by decide +kernel, rfl, by decide +kernel, by decide +kernel⟩
theorem ok_exchanged {f : Addr} {fd : FuncData} (F : Fun K "exchanged" "exchanged" s_exchanged f fd)
    (C_check_room : Cal P w K mg base "check_room" 1 ["room"] [] (sp_check_room C))
    (C_is_sequence : Cal P w K mg base "is_sequence" 4 ["places", "value"] [] sp_is_seq)
    (C_led : Cal P w K mg base "led" 7 ["word", "sequence"] [] sp_led)
    (MK_Room : MakC P w K mg base C "Room" 6 ["self", "places", "words"] (sp_init C))
    (M_basis : MthC P w K mg base C "basis" 1 ["self"] (sp_basis C))
    (P_places : PrpC P w K mg base C "places" 1 (sp_places C))
    (n_basis : ∀ n b, (rf n b).lookup ("basis" : Str) = none) :
    FnOk P w K mg base CX0 8 f fd ["room", "sequence"] (sp_exchanged C) := by
  refine fn_sv F sc_exchanged (fun _ _ => rfl) fun W i hP cdv A outer s H E hr => ⟨_, (pss_cons (ps_expr (pe_cal C_check_room (hr.mono (by decide)) (by rfl) (pa_cons (pv 0) pa_nil)))
    (pss_cons (ps_if (pt_not (pt_val (pe_cal C_is_sequence (hr.mono (by decide)) (by rfl) (pa_cons (pe_propC P_places (hr.mono (by decide)) (pv 0) rfl) (pa_cons (pv 1) pa_nil))))) (pss_one ps_never) pss_nil)
    (pss_one (ps_ret (pe_mkC MK_Room (hr.mono (by decide)) (by rfl) (pa_cons (pe_propC P_places (hr.mono (by decide)) (pv 0) rfl) (pa_cons (pe_lc (own := [("base", 2)]) (g := gName 2) (by rfl) sc_exchanged.nd (pi_list (pe_meth0C M_basis (hr.mono (by decide)) (pv 0))) (blkOk_by (own := [("base", 2)]) (N := N_exchanged) (sc := defScope s_exchanged) (by decide +kernel)) (fun _ _ _ _ _ => pg_name (i := 2) sc_exchanged.nd rfl (Or.inl rfl)) (fun _ _ _ _ _ => pts_nil) (fun _ _ _ _ _ => (pe_cal C_led (hr.mono (by decide)) (by rfl) (pa_cons (pv 2) (pa_cons (pv 1) pa_nil))))) pa_nil))))))), ?_⟩
  obtain ⟨n, B, s⟩ := i
  have hs : Seq n s := hP
  dsimp only
  refine sv_roomF 0 rfl fun fB => ?_
  have lB := plain_len24 fB
  have n24 := fB.n24
  refine sv_seq (nv_drop (ev_call sd_check_room (av_cons (ev_var rfl) av_nil))) ?_
  refine sv_seq (nv_ifF (tv_nf (tv_B (ev_call (sd_is_seq hs n24) (av_cons (ev_prop sd_places (ev_var rfl)) (av_cons (ev_var rfl) av_nil)))))) ?_
  exact sv_ret (ev_make (ws := exB B s) fB.n1 n24 (exB_lt hs) (by unfold exB; rw [List.length_map]; omega) (av_cons (ev_prop sd_places (ev_var rfl)) (av_cons (ev_lcM (g := ledN s) (ev_meth n_basis sd_basis (ev_var rfl) av_nil) (by omega) fun base hbase => (ev_call (sd_led hs n24 (fB.lt _ hbase)) (av_cons (ev_var rfl) (av_cons (ev_var rfl) av_nil)))) av_nil)))
end
end K39

set_option Elab.async false
set_option linter.all false
set_option maxRecDepth 100000
set_option maxHeartbeats 4000000
set_option pp.maxSteps 300
namespace K39
open PySem PySem.Spec PyProof.Rows L2 Vf
section
variable {P : Program} {w : World} {K : PySem.W.Frag} {mg : Str → Option Value} {base : Heap} {C : Addr}
abbrev s_law_pot : Stmt := topS 63
abbrev N_law_pot : List Str := ["_law_script", "_law_k", "_law_cell"]
theorem sc_law_pot : FnScope N_law_pot ["_law_script", "_law_k"] (defScope s_law_pot) := ⟨rfl, rfl, rfl, by decide +kernel, rfl, by decide +kernel, by decide +kernel⟩
theorem ok_law_pot {f : Addr} {fd : FuncData} (F : Fun K "_law_pot" "_law_pot" s_law_pot f fd) (m_len : mg "len" = none) (m_abs : mg "abs" = none) (m_max : mg "max" = none) (m_int : mg "int" = none) :
    FnOk P w K mg base CX0 1 f fd ["_law_script", "_law_k"] (sp_pot K) := by
  refine F.ok sc_law_pot (fun vs H Q E h => ?_) (fun cdv A outer s H vs Q E hr h => ?_)
  · obtain ⟨a, ns, k, rfl, _⟩ := h
    rfl
  · obtain ⟨a, ns, k, rfl, hS, hk, q⟩ := h
    refine ⟨_, (pss_cons (ps_set (i := 2) sc_law_pot.nd rfl (Or.inl rfl) (pe_ifExp (pt_cmpR op_ltN (pv 1) (pe_callB call_len_seq (by rfl) m_len (by decide +kernel) (pa_cons (pv 0) pa_nil)) (nomark _)) (pe_callB call_abs (by rfl) m_abs (by decide +kernel) (pa_cons (pe_ix ix_list (pv 0) (pv 1) (fun _ _ => rfl)) pa_nil)) (pe_op op_addN (pe_op op_mulN pe_int (pv 1)) pe_int)))
    (pss_one (ps_ret (pe_lst (pa_cons (pe_callB (call_max2 rfl) (by rfl) m_max (by decide +kernel) (pa_cons pe_int (pa_cons (pe_op op_sub (pv 2) (pe_op op_pow pe_int pe_int)) pa_nil))) (pa_cons (pe_op op_addN (pe_op op_modNN (pe_callTy call_intN (by rfl) m_int (by decide +kernel) (pa_cons (pe_op op_addN (pe_op op_addN (pe_op op_mulN (pe_op op_modNN (pe_callTy call_intN (by rfl) m_int (by decide +kernel) (pa_cons (pv 2) pa_nil)) pe_int) pe_int) (pe_op op_mulN pe_int (pv 1))) pe_int) pa_nil)) pe_int) pe_int) pa_nil)))))), ?_⟩
    refine ⟨.int k, rfl, .ref a, rfl, a, _, rfl, .inl hS, k, ns.length, rfl, ?_, _, rfl, ite2 (fun hb => ?_) (fun hb => ?_)⟩
    · rw [List.length_map]
    · have hl : k < ns.length := of_decide_eq_true hb
      refine ⟨.ref a, rfl, .int k, rfl, a, _, k, .int (ns[k]), rfl, rfl, hS, atI_nat (j := k) (by rw [List.getElem?_map, List.getElem?_eq_getElem hl]; rfl), ns[k], rfl, ?_⟩
      have e : V.int (if ns[k] < 0 then -ns[k] else ns[k]) = V.int ((ns[k].natAbs : Nat) : Int) := by
        congr 1
        split <;> omega
      rw [e]
      refine ⟨.int ((((ns[k].natAbs) : Nat)) : Int), rfl, 10, 18, rfl, rfl, ⟨by decide, by decide, by decide⟩, ((((ns[k].natAbs) : Nat)) : Int), _, rfl, rfl, 0, _, rfl, ?_⟩
      refine ⟨.int ((((ns[k].natAbs) : Nat)) : Int), rfl, (ns[k].natAbs), rfl, (ns[k].natAbs), 2147483549, rfl, rfl, by decide, (ns[k].natAbs) % 2147483549, 40253, rfl, rfl, ?_, .int k, rfl, 1511, k, rfl, rfl, by decide, _, _, rfl, rfl, _, 101, rfl, rfl, _, rfl, _, 2147483563, rfl, rfl, by decide, _, 1, rfl, rfl, (by show 2 ≤ sizeLine; decide), fun p hp => q _ p (same_new hp) hp (pot_new ?_)⟩
      · have := Nat.mod_lt (ns[k].natAbs) (show 0 < 2147483549 by decide)
        omega
      · have := Nat.mod_lt ((ns[k].natAbs) % 2147483549 * 40253 + 1511 * k + 101) (show 0 < 2147483563 by decide)
        omega
    · refine ⟨.int k, rfl, 401, k, rfl, rfl, by decide, 401 * k, 109, rfl, rfl, ?_⟩
      refine ⟨.int ((((401 * k + 109) : Nat)) : Int), rfl, 10, 18, rfl, rfl, ⟨by decide, by decide, by decide⟩, ((((401 * k + 109) : Nat)) : Int), _, rfl, rfl, 0, _, rfl, ?_⟩
      refine ⟨.int ((((401 * k + 109) : Nat)) : Int), rfl, (401 * k + 109), rfl, (401 * k + 109), 2147483549, rfl, rfl, by decide, (401 * k + 109) % 2147483549, 40253, rfl, rfl, ?_, .int k, rfl, 1511, k, rfl, rfl, by decide, _, _, rfl, rfl, _, 101, rfl, rfl, _, rfl, _, 2147483563, rfl, rfl, by decide, _, 1, rfl, rfl, (by show 2 ≤ sizeLine; decide), fun p hp => q _ p (same_new hp) hp (pot_new ?_)⟩
      · have := Nat.mod_lt (401 * k + 109) (show 0 < 2147483549 by decide)
        omega
      · have := Nat.mod_lt ((401 * k + 109) % 2147483549 * 40253 + 1511 * k + 101) (show 0 < 2147483563 by decide)
        omega
abbrev s_law_draw : Stmt := topS 64
abbrev N_law_draw : List Str := ["_law_pot_here", "_law_size", "_law_digit"]
theorem sc_law_draw : FnScope N_law_draw ["_law_pot_here", "_law_size"] (defScope s_law_draw) := ⟨rfl, rfl, rfl, by decide +kernel, rfl, by decide +kernel, by decide +kernel⟩
theorem ok_law_draw {f : Addr} {fd : FuncData} (F : Fun K "_law_draw" "_law_draw" s_law_draw f fd) (m_divmod : mg "divmod" = none) (m_int : mg "int" = none) :
    FnOk P w K mg base CX0 1 f fd ["_law_pot_here", "_law_size"] sp_draw := by
  refine F.ok sc_law_draw (fun vs H Q E h => ?_) (fun cdv A outer s H vs Q E hr h => ?_)
  · obtain ⟨a, n, rfl, _⟩ := h
    rfl
  · obtain ⟨p, n, rfl, hP, h1, h2, q⟩ := h
    obtain ⟨x, y, eP, ly⟩ := hP
    have hL : SqL K H p [.int (x : Int), .int (y : Int)] := .inl (.inl eP)
    refine ⟨_, (pss_cons (ps_if (pt_cmpR op_gtN (pe_ix ix_list (pv 0) pe_int (fun _ _ => rfl)) pe_int (nomark _)) (pss_cons (ps_asg (pe_callB call_divmodN (by rfl) m_divmod (by decide +kernel) (pa_cons (pe_ix ix_list (pv 0) pe_int (fun _ _ => rfl)) (pa_cons (pv 1) pa_nil))) (pg_tup rfl (pgs_cons (pg_sub (pv 0) pe_int set_list) (pgs_cons (pg_name (i := 2) sc_law_draw.nd rfl (Or.inl rfl)) pgs_nil))))
    (pss_one (ps_ret (pv 2)))) pss_nil)
    (pss_cons (ps_asg (pe_op op_modNN (pe_callTy call_intN (by rfl) m_int (by decide +kernel) (pa_cons (pe_op op_addN (pe_op op_mulN (pe_ix ix_list (pv 0) pe_int (fun _ _ => rfl)) pe_int) pe_int) pa_nil)) pe_int) (pg_sub (pv 0) pe_int set_list))
    (pss_one (ps_ret (pe_op op_modNN (pe_callTy call_intN (by rfl) m_int (by decide +kernel) (pa_cons (pe_op op_fdivNN (pe_op op_modNN (pe_callTy call_intN (by rfl) m_int (by decide +kernel) (pa_cons (pe_op op_mulN (pe_ix ix_list (pv 0) pe_int (fun _ _ => rfl)) (pe_ix ix_list (pv 0) pe_int (fun _ _ => rfl))) pa_nil)) pe_int) pe_int) pa_nil)) (pv 1)))))), ?_⟩
    refine ⟨.ref p, rfl, p, _, 0, .int x, rfl, rfl, hL, atI_nat (j := 0) rfl, x, 0, rfl, rfl, _, rfl, ite2 (fun hb => ?_) (fun hb => ?_)⟩
    · refine ⟨.ref p, rfl, p, _, 0, .int x, rfl, rfl, hL, atI_nat (j := 0) rfl, .int n, rfl, x, n, rfl, h1, h2, fun t ht => ?_⟩
      have np : p ≠ t := ne_of_none eP ht
      refine ⟨t, _, rfl, .inl (.inl upd_same), rfl, _, _, rfl, .ref p, rfl, p, [.int x, .int y], 0, 0, rfl, rfl, ?_, rfl, _, _, rfl, rfl, ?_⟩
      · rw [upd_ne np]
        exact eP
      · refine ⟨.int ((x % n : Nat) : Int), rfl, q _ (x % n) (fun b o nb e => ?_) ⟨x / n, y, upd_same, ly⟩ (Nat.mod_lt _ h1)⟩
        rw [upd_ne nb, upd_ne (ne_of_none e ht)]
        exact e
    · have l1 := Nat.mod_lt (y * 39373 + 409) (show 0 < 2147483587 by decide)
      refine ⟨.ref p, rfl, p, _, 1, .int y, rfl, rfl, hL, atI_nat (j := 1) rfl, y, 39373, rfl, rfl, by omega, _, 409, rfl, rfl, _, rfl, _, 2147483587, rfl, rfl, by decide,
        .ref p, rfl, p, [.int x, .int y], 1, 1, rfl, rfl, eP, rfl, ?_⟩
      have e2 : (upd H p (.lst ([V.int x, V.int y].set 1 (V.int (((y * 39373 + 409) % 2147483587 : Nat) : Int))))) p = some (.lst [.int (x : Int), .int (((y * 39373 + 409) % 2147483587 : Nat) : Int)]) := upd_same
      have hL2 := SqL.of (K := K) e2
      refine ⟨.ref p, rfl, p, _, 1, _, rfl, rfl, hL2, atI_nat (j := 1) rfl, .ref p, rfl, p, _, 1, _, rfl, rfl, hL2, atI_nat (j := 1) rfl, _, _, rfl, rfl, by omega, _, rfl, _, 2147483563, rfl, rfl, by decide,
        _, 23, rfl, rfl, ⟨by decide, by decide⟩, _, rfl, .int n, rfl, _, n, rfl, rfl, h1, ?_⟩
      exact q _ _ (fun b o nb e => by rw [upd_ne nb]; exact e) ⟨x, _, e2, by omega⟩ (Nat.mod_lt _ h1)
abbrev s_law_weight : Stmt := topS 65
abbrev N_law_weight : List Str := ["_law_word", "_law_found"]
theorem sc_law_weight : FnScope N_law_weight ["_law_word"] (defScope s_law_weight) := ⟨rfl, rfl, rfl, by decide +kernel, rfl, by decide +kernel, by decide +kernel⟩
theorem ok_law_weight {f : Addr} {fd : FuncData} (F : Fun K "_law_weight" "_law_weight" s_law_weight f fd) :
    FnOk P w K mg base CX0 1 f fd ["_law_word"] sp_lweight := by
  refine F.ok sc_law_weight (fun vs H Q E h => ?_) (fun cdv A outer s H vs Q E hr h => ?_)
  · obtain ⟨m, rfl, _⟩ := h
    rfl
  · obtain ⟨m, rfl, h1, q⟩ := h
    refine ⟨_, (pss_cons (ps_set (i := 1) sc_law_weight.nd rfl (Or.inl rfl) pe_int)
    (pss_cons (ps_while PassesOwn.never (pt_cmpR op_gtN (pv 0) pe_int (nomark _)) (pss_one (ps_par (i := 1) (j := 0) (by rfl) sc_law_weight.nd rfl rfl (by decide) rfl rfl (pa_cons (pe_op op_addN (pv 1) (pe_op op_andN (pv 0) pe_int)) (pa_cons (pe_op op_shrNN (pv 0) pe_int) pa_nil)) (by rfl))))
    (pss_one (ps_ret (pv 1))))), ?_⟩
    refine while_by (fun σ H' => ∃ f l : Nat, σ = [some (.int (l : Int)), some (.int (f : Int))] ∧ f + pc l = pc m ∧ l < 2 ^ 24 ∧ H' = H)
      (fun σ _ => match σ with | [some (.int l), _] => l.toNat | _ => 0) ⟨0, m, rfl, by omega, h1, rfl⟩ ?_
      (fun σ H Q Q' f ⟨v, e, i, j, e1, e2, k, e3, q⟩ => ⟨v, e, i, j, e1, e2, k, e3, f _ _ q⟩)
    rintro σ H1 ⟨f, l, rfl, e, l1, rfl⟩
    refine ⟨.int (l : Int), rfl, l, 0, rfl, rfl, _, rfl, ite2 (fun hb => ?_) (fun hb => ?_)⟩
    · have l0 : 0 < l := of_decide_eq_true hb
      have e2 := pc_half l1
      refine ⟨.int (f : Int), rfl, .int (l : Int), rfl, l, 1, rfl, rfl, f, l &&& 1, rfl, rfl, .int (l : Int), rfl, l, 1, rfl, rfl, _, _, rfl, ⟨f + (l &&& 1), l / 2 ^ 1, rfl, ?_, ?_, rfl⟩, ?_⟩
      · rw [Nat.and_one_is_mod, Nat.pow_one]
        omega
      · rw [Nat.pow_one]
        omega
      · show ((l / 2 ^ 1 : Nat) : Int).toNat < ((l : Nat) : Int).toNat
        rw [Nat.pow_one]
        omega
    · have l0 : l = 0 := by
        have : ¬ 0 < l := fun z => hb (decide_eq_true z)
        omega
      subst l0
      rw [pc_zero, Nat.add_zero] at e
      refine ⟨.int (f : Int), rfl, ?_⟩
      rw [e]
      exact q _ (Same.refl _)
abbrev s_law_sequence : Stmt := topS 67
abbrev N_law_sequence : List Str := ["_law_pot_here", "_law_places", "_law_left", "_law_found"]
theorem sc_law_sequence : FnScope N_law_sequence ["_law_pot_here", "_law_places"] (defScope s_law_sequence) := ⟨rfl, rfl, rfl, by decide +kernel, rfl, by decide +kernel, by decide +kernel⟩
theorem ok_law_sequence {f : Addr} {fd : FuncData} (F : Fun K "_law_sequence" "_law_sequence" s_law_sequence f fd)
    (C_law_draw : Cal P w K mg base "_law_draw" 1 ["_law_pot_here", "_law_size"] [] sp_draw)
    (m_len : mg "len" = none)
    (m_list : mg "list" = none)
    (m_range : mg "range" = none) :
    FnOk P w K mg base CX0 2 f fd ["_law_pot_here", "_law_places"] sp_lseq := by
  refine fn_sv F sc_law_sequence (fun _ _ => rfl) fun W i hP cdv A outer s H E hr => ⟨_, (pss_cons (ps_par (i := 2) (j := 3) (by rfl) sc_law_sequence.nd rfl rfl (by decide) rfl rfl (pa_cons (pe_listRg rfl (by rfl) m_list (prg_1 (by rfl) m_range (pv 1))) (pa_cons (pe_lst pa_nil) pa_nil)) (by rfl))
    (pss_cons (ps_while PassesOwn.never (pt_cmpR (op_neD hr.units) (pv 2) (pe_lst pa_nil) (nomark _)) (pss_one (ps_expr (pe_bm PySem.F.plainAttrs_list PySem.F.slot_list_append PySem.F.type_list_append mt_append (pv 3) (pa_cons (pe_bm PySem.F.plainAttrs_list PySem.F.slot_list_pop PySem.F.type_list_pop mt_popAt (pv 2) (pa_cons (pe_cal C_law_draw (hr.mono (by decide)) (by rfl) (pa_cons (pv 0) (pa_cons (pe_callB call_len_seq (by rfl) m_len (by decide +kernel) (pa_cons (pv 2) pa_nil)) pa_nil))) pa_nil)) pa_nil)))))
    (pss_one (ps_ret (pv 3))))), ?_⟩
  obtain ⟨p, n⟩ := i
  obtain ⟨hp, n24⟩ := hP
  have hp : IsPot W p := hp
  have n24 : n ≤ 24 := n24
  try dsimp only
  refine sv_parCC (fl_listRg (by omega) (ev_var rfl)) fl_nil ?_
  refine svx_while (fun c => ∃ f l : List Nat, c = [(3, vs f), (2, vs l)] ∧ (f ++ l).Perm (List.range n)) (fun c => match c with | [_, x] => x.2.length | _ => 0) (fun c => match c with | [_, x] => !decide (x.2.length = 0) | _ => false) [] rfl ⟨[], List.range n, rfl, .refl _⟩ (fun c ⟨f, l, e, pm⟩ => ?_) (fun c ⟨f, l, e, pm⟩ hb => ?_) (fun c ⟨f, l, e, pm⟩ hb => ?_)
  · subst e
    refine tv_eq ?_ (tv_test (ev_op od_neL (ev_var (d := dVs l) rfl) (ev_lstN [] av_nil)))
    show (!decide (l = [])) = !decide ((vs l).length = 0)
    rw [len_vs]
    congr 1
    exact decide_eq_decide.mpr List.length_eq_zero_iff.symm
  · subst e
    have hb : (!decide ((vs l).length = 0)) = true := hb
    rw [len_vs] at hb
    have l0 : 0 < l.length := by
      have : ¬ l.length = 0 := by simpa using hb
      omega
    have lf := pm.length_eq
    rw [List.length_append, List.length_range] at lf
    refine nvx_imp (nvx_appendPop (i := 3) (j := 2) rfl rfl (by
      rw [len_vs]
      exact ev_call (sd_draw hp l0 (by omega)) (av_cons (ev_var rfl) (av_cons (ev_cb cd_lenN (av_cons (ev_var rfl) av_nil)) av_nil))) (by rw [len_vs]; omega) (by rw [len_vs]; omega)) fun c ⟨k, y, hk, hy, ec⟩ => ?_
    rw [len_vs] at hk
    obtain ⟨x, hx, rfl⟩ := get_vs hy
    refine ⟨⟨f ++ [x], l.eraseIdx k, ec.trans ?_, ?_⟩, ?_⟩
    · show [(3, vs f ++ [_]), (2, (vs l).eraseIdx k)] = _
      rw [vs_snoc, vs_erase]
    · have ex : x = l[k] := by
        rw [List.getElem?_eq_getElem hk] at hx
        exact (Option.some.inj hx).symm
      subst ex
      rw [List.append_assoc]
      exact ((erase_perm l k hk).append_left f).trans pm
    · subst ec
      show ((vs l).eraseIdx k).length < (vs l).length
      rw [List.length_eraseIdx_of_lt (by rw [len_vs]; exact hk), len_vs]
      omega
  · subst e
    have hb : (!decide ((vs l).length = 0)) = false := hb
    rw [len_vs] at hb
    have l0 : l = [] := by
      have : l.length = 0 := by simpa using hb
      exact List.length_eq_zero_iff.mp this
    subst l0
    rw [List.append_nil] at pm
    exact svc_retX rfl f (Seq.of pm) rfl
end
end K39

set_option Elab.async false
set_option linter.all false
set_option maxRecDepth 100000
set_option maxHeartbeats 4000000
set_option pp.maxSteps 300
namespace K39
open PySem PySem.Spec PyProof.Rows L2 Vf
section
variable {P : Program} {w : World} {K : PySem.W.Frag} {mg : Str → Option Value} {base : Heap} {C : Addr}
abbrev s_law_words : Stmt := topS 66
abbrev N_law_words : List Str := ["_law_pot_here", "_law_places", "_law_many", "_law_found", "_law_turn", "_law_word"]
theorem sc_law_words : FnScope N_law_words ["_law_pot_here", "_law_places", "_law_many"] (defScope s_law_words) := ⟨rfl, rfl, rfl, by decide +kernel, rfl, by decide +kernel, by decide +kernel⟩
theorem ok_law_words {f : Addr} {fd : FuncData} (F : Fun K "_law_words" "_law_words" s_law_words f fd)
    (C_law_draw : Cal P w K mg base "_law_draw" 1 ["_law_pot_here", "_law_size"] [] sp_draw)
    (C_law_weight : Cal P w K mg base "_law_weight" 1 ["_law_word"] [] sp_lweight)
    (m_range : mg "range" = none) :
    FnOk P w K mg base CX0 2 f fd ["_law_pot_here", "_law_places", "_law_many"] sp_lwordsE := by
  refine fn_sv F sc_law_words (fun _ _ => rfl) fun W i hP cdv A outer s H E hr => ⟨_, (pss_cons (ps_set (i := 3) sc_law_words.nd rfl (Or.inl rfl) (pe_lst pa_nil))
    (pss_cons (ps_for PassesOwn.never rfl (pi_range1 (by rfl) m_range (pa_cons (pv 2) pa_nil)) (pg_name (i := 4) sc_law_words.nd rfl (Or.inl rfl))
      (pss_cons (ps_set (i := 5) sc_law_words.nd rfl (Or.inl rfl) (pe_cal C_law_draw (hr.mono (by decide)) (by rfl) (pa_cons (pv 0) (pa_cons (pe_op op_pow2 pe_int (pv 1)) pa_nil))))
    (pss_cons (ps_set (i := 5) sc_law_words.nd rfl (Or.inl rfl) (pe_ifExp (PW.pt (pw_and (pt_cmpR op_eqN (pe_cal C_law_draw (hr.mono (by decide)) (by rfl) (pa_cons (pv 0) (pa_cons pe_int pa_nil))) pe_int (nomark _)) (pw_and1 (pt_cmpR op_eqN (pe_op op_andN (pe_cal C_law_weight (hr.mono (by decide)) (by rfl) (pa_cons (pv 5) pa_nil)) pe_int) pe_int (nomark _))))) (pe_op op_xorN (pv 5) pe_int) (pv 5)))
    (pss_one (ps_expr (pe_bm PySem.F.plainAttrs_list PySem.F.slot_list_append PySem.F.type_list_append mt_append (pv 3) (pa_cons (pv 5) pa_nil)))))))
    (pss_one (ps_ret (pv 3))))), ?_⟩
  obtain ⟨p, n, m⟩ := i
  obtain ⟨hp, n1, n24, m100⟩ := hP
  have hp : IsPot W p := hp
  have n1 : 1 ≤ n := n1
  have n24 : n ≤ 24 := n24
  have m100 : m ≤ 100 := m100
  have pw := Nat.two_pow_pos n
  have o2 : 1 < 2 ^ n := Nat.lt_of_lt_of_le (by decide) (pw_le n1)
  try dsimp only
  refine sv_cell fl_nil ?_
  refine svx_forR (Pn := fun _ : Unit => True) (f := fun _ => m) (fun k c => ∃ l : List Nat, c = [(3, vs l)] ∧ l.length = k ∧ ∀ v ∈ l, v < 2 ^ n) [] (ax_consL (ev_ex (ev_var rfl)) av_nil) (fun _ _ => by omega) ⟨[], rfl, rfl, fun _ k => (List.not_mem_nil k).elim⟩ rfl (fun k c ⟨l, e, _⟩ => by rw [e]; rfl) (fun x k c _ hk ⟨l, e, ll, sl⟩ => ?_) (fun x c _ ⟨l, e, ll, sl⟩ => ?_)
  · subst e
    refine nvx_wk [4, 5] (nvx_seqC (nvc_set (d := dEx (fun v : Nat => v < 2 ^ n) dN) (ev_call (sd_draw hp pw (pw_lt n24)) (av_cons (ev_var rfl) (av_cons (ev_op (od_pow2 (by omega)) (ev_cn 1) (ev_var rfl)) av_nil))) pu_Ex) (nvx_seqC (nvc_set (d := dEx (fun v : Nat => v < 2 ^ n) dN) (ev_ifX (tx_and (tx_test (ev_opL (fun _ _ => od_eqN) (ev_call (sd_draw hp (by omega) (by omega)) (av_cons (ev_var rfl) (av_cons (ev_cn 2) av_nil))) (ev_cn 0))) (tx_test (ev_opL (fun _ _ => od_eqN) (ev_opL (fun _ _ => od_andN) (ev_callX (fun v (hv : v < 2 ^ n) => sd_lweight (lt24 n24 hv)) (ax_consL (ev_var rfl) av_nil)) (ev_cn 1)) (ev_cn 1)))) (ev_exw (ev_opL (fun _ _ => od_xorN) (ev_var rfl) (ev_cn 1)) (fun w => w ^^^ 1) fun w hw => ⟨Nat.xor_lt_two_pow hw o2, rfl⟩) (ev_var rfl)) pu_Ex) (nvx_imp (nvx_append (R := fun v : Nat => v < 2 ^ n) (f := fun v => .int (v : Int)) rfl (ev_var rfl) (by rw [len_vs]; omega)) fun c ⟨w, hw, ec⟩ => ⟨l ++ [w], ec.trans (by rw [← vs_snoc]; rfl), by rw [List.length_append, ll]; rfl, fun x hx => ?_⟩))) rfl
    rcases List.mem_append.mp hx with h | h
    · exact sl x h
    · rw [List.mem_singleton.mp h]
      exact hw
  · subst e
    exact svc_retX rfl l ⟨ll, sl⟩ rfl
abbrev s_law_times : Stmt := topS 68
abbrev N_law_times : List Str := ["_law_one", "_law_other", "_law_found", "_law_at", "_law_near", "_law_to", "_law_far"]
theorem sc_law_times : FnScope N_law_times ["_law_one", "_law_other"] (defScope s_law_times) := ⟨rfl, rfl, rfl, by decide +kernel, rfl, by decide +kernel, by decide +kernel⟩
theorem ok_law_times {f : Addr} {fd : FuncData} (F : Fun K "_law_times" "_law_times" s_law_times f fd)
    (m_enumerate : mg "enumerate" = none)
    (m_len : mg "len" = none) :
    FnOk P w K mg base CX0 1 f fd ["_law_one", "_law_other"] sp_ltimesN := by
  refine fn_sv F sc_law_times (fun _ _ => rfl) fun W i hP cdv A outer s H E hr => ⟨_, (pss_cons (ps_set (i := 2) sc_law_times.nd rfl (Or.inl rfl) (pe_op op_rep (pe_lst (pa_cons pe_int pa_nil)) (pe_op op_subN (pe_op op_addN (pe_callB call_len_seq (by rfl) m_len (by decide +kernel) (pa_cons (pv 0) pa_nil)) (pe_callB call_len_seq (by rfl) m_len (by decide +kernel) (pa_cons (pv 1) pa_nil))) pe_int)))
    (pss_cons (ps_for PassesOwn.never rfl (pi_enum (by rfl) m_enumerate (pa_cons (pv 0) pa_nil)) (pg_tup rfl (pgs_cons (pg_name (i := 3) sc_law_times.nd rfl (Or.inl rfl)) (pgs_cons (pg_name (i := 4) sc_law_times.nd rfl (Or.inl rfl)) pgs_nil)))
      (pss_one (ps_for PassesOwn.never rfl (pi_enum (by rfl) m_enumerate (pa_cons (pv 1) pa_nil)) (pg_tup rfl (pgs_cons (pg_name (i := 5) sc_law_times.nd rfl (Or.inl rfl)) (pgs_cons (pg_name (i := 6) sc_law_times.nd rfl (Or.inl rfl)) pgs_nil)))
      (pss_one (ps_asg (pe_op op_add (pe_ix ix_list (pv 2) (pe_op op_addN (pv 3) (pv 5)) (fun _ _ => rfl)) (pe_op op_mulN (pv 4) (pv 6))) (pg_sub (pv 2) (pe_op op_add (pv 3) (pv 5)) set_list))))))
    (pss_one (ps_ret (pv 2))))), ?_⟩
  obtain ⟨A, B⟩ := i
  obtain ⟨a1, a25, b1, b25, sm⟩ := hP
  have a1 : 1 ≤ A.length := a1
  have a25 : A.length ≤ 25 := a25
  have b1 : 1 ≤ B.length := b1
  have b25 : B.length ≤ 25 := b25
  have sm : ∀ v ∈ A, v ≤ 4294967296 := sm
  try dsimp only
  refine sv_cell (fl_rep (n := A.length + B.length - 1) (y := V.int 0) (ev_lstI [0] (av_cons (ev_cn 0) av_nil)) (ev_op (od_subN (by omega)) (ev_op od_addN (ev_cb cd_lenN (av_cons (ev_var rfl) av_nil)) (ev_cb cd_lenN (av_cons (ev_var rfl) av_nil))) (ev_cn 1)) (by omega)) ?_
  refine svc_seq (nvc_enumV (m := 0) (xs := vs A) (fun _ => (envOf [dVs A, dVs B] 5)) (fun k => [(2, vs (tkL A B k 0))]) rfl rfl (fun σ H h => h.sub rfl ⟨rfl, rfl, trivial⟩) ?_ (fun _ => rfl) (fun _ => rfl) fun k x hx => ?_) ?_
  · rw [tkL_zero, ← vs_rep]
    rfl
  · obtain ⟨w, hw, rfl⟩ := get_vs hx
    have kl : k < A.length := (List.getElem?_eq_some_iff.mp hw).1
    have w32 : w ≤ 4294967296 := sm w (List.mem_of_getElem? hw)
    have gw : A.getD k 0 = w := by rw [List.getD_eq_getElem?_getD, hw]; rfl
    refine nvc_sub' (nvc_cs (nvc_enumV (m := 1) (xs := vs B) (fun _ => ((envOf [dVs A, dVs B] 5).set 3 (some (dN k))).set 4 (some (dN w))) (fun t => [(2, vs (tkL A B k t))]) rfl rfl (fun σ H h => h) rfl (fun _ => rfl) (fun _ => rfl) fun t y hy => ?_) ?_) rfl ⟨rfl, rfl, trivial⟩
    · obtain ⟨y, gy1, rfl⟩ := get_vs hy
      have tl : t < B.length := (List.getElem?_eq_some_iff.mp gy1).1
      have gy : B.getD t 0 = y := by rw [List.getD_eq_getElem?_getD, gy1]; rfl
      have st := tkL_step kl tl
      rw [gw, gy] at st
      have at_ := tkL_at (A := A) (B := B) (k := k) (j := t) (t := k + t) (by omega)
      have ln := tkL_len (A := A) (B := B) (k := k) (j := t)
      generalize tkv A B k t (k + t) = c at st at_
      generalize tkL A B k t = R at st at_ ln ⊢
      refine nvc_sub' (nvc_cs (nvc_sub (xs := vs R) (y := V.int ((c : Int) + ((w * y : Nat) : Int))) (k := k + t) rfl (ev_op od_addI (ev_op (od_ixG (vs_getR at_)) (ev_var rfl) (ev_op od_addN (ev_var rfl) (ev_var rfl))) (ev_op (od_mulN w32) (ev_var rfl) (ev_var rfl))) (ev_eqD (ev_op (od_addI (a := (k : Int)) (b := ((t : Nat) : Int))) (ev_var rfl) (ev_var rfl)) rfl) (by rw [len_vs]; omega)) ?_) rfl ⟨rfl, rfl, rfl, rfl, trivial⟩
      show [(2, (vs R).set (k + t) (V.int ((c + w * y : Nat) : Int)))] = [(2, vs _)]
      rw [vs_set, st]
    · show [(2, vs (tkL A B k (vs B).length))] = [(2, vs (tkL A B (k + 1) 0))]
      rw [len_vs, tkL_row]
  · refine svc_ret rfl ?_
    show (dVs (cvL A B)).ok = (dLst (vs (tkL A B (vs A).length 0))).ok
    rw [len_vs, tkL_end]
abbrev s_law_right : Stmt := topS 69
abbrev N_law_right : List Str := ["_law_pot_here", "_law_places", "_law_many", "_law_near", "_law_far", "_law_last", "_law_one", "_law_two", "_law_three", "_law_both", "_law_whole", "_law_with_all", "_law_common", "_law_total", "_law_at"]
theorem sc_law_right : FnScope N_law_right ["_law_pot_here"] (defScope s_law_right) := ⟨rfl, rfl, rfl, by decide +kernel, rfl, by decide +kernel, by decide +kernel⟩
theorem ok_law_right {f : Addr} {fd : FuncData} (F : Fun K "_law_right" "_law_right" s_law_right f fd)
    (C_beside : Cal P w K mg base "beside" 8 ["room", "other"] [] (sp_beside C))
    (C_changed : Cal P w K mg base "changed" 5 ["row"] [] sp_changed)
    (C_common_room : Cal P w K mg base "common_room" 9 ["room", "other"] [] (sp_common_room C))
    (C_contrary : Cal P w K mg base "contrary" 8 ["room"] [] (sp_contrary C))
    (C_exchanged : Cal P w K mg base "exchanged" 8 ["room", "sequence"] [] (sp_exchanged C))
    (C_law_draw : Cal P w K mg base "_law_draw" 1 ["_law_pot_here", "_law_size"] [] sp_draw)
    (C_law_sequence : Cal P w K mg base "_law_sequence" 2 ["_law_pot_here", "_law_places"] [] sp_lseq)
    (C_law_times : Cal P w K mg base "_law_times" 1 ["_law_one", "_law_other"] [] sp_ltimesN)
    (C_law_words : Cal P w K mg base "_law_words" 2 ["_law_pot_here", "_law_places", "_law_many"] [] sp_lwordsE)
    (C_row : Cal P w K mg base "row" 9 ["room"] [] (sp_row C))
    (C_sum_room : Cal P w K mg base "sum_room" 8 ["room", "other"] [] (sp_sum_room C))
    (K_row_room : CalK P w K mg base "row" 9 ["room"] ["room"] kw1 (sp_row C))
    (MK_Room : MakC P w K mg base C "Room" 6 ["self", "places", "words"] (sp_init C))
    (M_has : MthC P w K mg base C "has" 6 ["self", "word"] (sp_has C))
    (m_max : mg "max" = none)
    (m_min : mg "min" = none)
    (m_range : mg "range" = none)
    (m_sum : mg "sum" = none)
    (n_has : ∀ n b, (rf n b).lookup ("has" : Str) = none) :
    GnOk P w K mg base 10 f fd ["_law_pot_here"] sp_right := by
  refine gn_sv F sc_law_right (fun _ _ => rfl) fun W i hP cdv A outer s H E hg hr => ⟨_, (pss_cons (ps_par (i := 1) (j := 2) (by rfl) sc_law_right.nd rfl rfl (by decide) rfl rfl (pa_cons (pe_op op_addN pe_int (pe_cal C_law_draw (hr.mono (by decide)) (by rfl) (pa_cons (pv 0) (pa_cons pe_int pa_nil)))) (pa_cons (pe_op op_addN pe_int (pe_cal C_law_draw (hr.mono (by decide)) (by rfl) (pa_cons (pv 0) (pa_cons pe_int pa_nil)))) pa_nil)) (by rfl))
    (pss_cons (ps_set (i := 3) sc_law_right.nd rfl (Or.inl rfl) (pe_mkC MK_Room (hr.mono (by decide)) (by rfl) (pa_cons (pv 1) (pa_cons (pe_cal C_law_words (hr.mono (by decide)) (by rfl) (pa_cons (pv 0) (pa_cons (pv 1) (pa_cons (pe_cal C_law_draw (hr.mono (by decide)) (by rfl) (pa_cons (pv 0) (pa_cons pe_int pa_nil))) pa_nil)))) pa_nil))))
    (pss_cons (ps_par (i := 4) (j := 5) (by rfl) sc_law_right.nd rfl rfl (by decide) rfl rfl (pa_cons (pe_mkC MK_Room (hr.mono (by decide)) (by rfl) (pa_cons (pv 2) (pa_cons (pe_cal C_law_words (hr.mono (by decide)) (by rfl) (pa_cons (pv 0) (pa_cons (pv 2) (pa_cons (pe_cal C_law_draw (hr.mono (by decide)) (by rfl) (pa_cons (pv 0) (pa_cons pe_int pa_nil))) pa_nil)))) pa_nil))) (pa_cons (pe_mkC MK_Room (hr.mono (by decide)) (by rfl) (pa_cons (pv 1) (pa_cons (pe_cal C_law_words (hr.mono (by decide)) (by rfl) (pa_cons (pv 0) (pa_cons (pv 1) (pa_cons (pe_cal C_law_draw (hr.mono (by decide)) (by rfl) (pa_cons (pv 0) (pa_cons pe_int pa_nil))) pa_nil)))) pa_nil))) pa_nil)) (by rfl))
    (pss_cons (ps_par3 (i := 6) (j := 7) (l := 8) (by rfl) sc_law_right.nd rfl rfl rfl (by decide) (by decide) (by decide) rfl rfl rfl (pa_cons (pe_cal C_row (hr.mono (by decide)) (by rfl) (pa_cons (pv 3) pa_nil)) (pa_cons (pe_cal C_row (hr.mono (by decide)) (by rfl) (pa_cons (pv 4) pa_nil)) (pa_cons (pe_cal C_row (hr.mono (by decide)) (by rfl) (pa_cons (pv 5) pa_nil)) pa_nil))) (by rfl))
    (pss_cons (ps_set (i := 9) sc_law_right.nd rfl (Or.inl rfl) (pe_cal C_law_times (hr.mono (by decide)) (by rfl) (pa_cons (pv 6) (pa_cons (pv 7) pa_nil))))
    (pss_cons (ps_if (PW.pt (pw_or (pt_cmpR (op_neD hr.units) (pe_cal C_row (hr.mono (by decide)) (by rfl) (pa_cons (pe_cal C_beside (hr.mono (by decide)) (by rfl) (pa_cons (pv 3) (pa_cons (pv 4) pa_nil))) pa_nil)) (pv 9) (nomark _)) (pw_or (pt_cmpR (op_neD hr.units) (pe_calKw K_row_room (hr.mono (by decide)) (by rfl) (pk_cons (pe_cal C_beside (hr.mono (by decide)) (by rfl) (pa_cons (pv 4) (pa_cons (pv 3) pa_nil))) pk_nil)) (pv 9) (nomark _)) (pw_or1 (pt_cmpR (op_neD hr.units) (pe_cal C_changed (hr.mono (by decide)) (by rfl) (pa_cons (pv 9) pa_nil)) (pe_cal C_law_times (hr.mono (by decide)) (by rfl) (pa_cons (pe_cal C_changed (hr.mono (by decide)) (by rfl) (pa_cons (pv 6) pa_nil)) (pa_cons (pe_cal C_changed (hr.mono (by decide)) (by rfl) (pa_cons (pv 7) pa_nil)) pa_nil))) (nomark _)))))) (pss_one (ps_ret pe_bl)) pss_nil)
    (pss_cons (ps_if (pt_cmpR (op_neD hr.units) (pe_cal C_row (hr.mono (by decide)) (by rfl) (pa_cons (pe_cal C_exchanged (hr.mono (by decide)) (by rfl) (pa_cons (pv 3) (pa_cons (pe_cal C_law_sequence (hr.mono (by decide)) (by rfl) (pa_cons (pv 0) (pa_cons (pv 1) pa_nil))) pa_nil))) pa_nil)) (pv 6) (nomark _)) (pss_one (ps_ret pe_bl)) pss_nil)
    (pss_cons (ps_set (i := 10) sc_law_right.nd rfl (Or.inl rfl) (pe_op op_subN (pe_op op_pow2 pe_int (pv 1)) pe_int))
    (pss_cons (ps_set (i := 11) sc_law_right.nd rfl (Or.inl rfl) (pe_cal C_row (hr.mono (by decide)) (by rfl) (pa_cons (pe_cal C_sum_room (hr.mono (by decide)) (by rfl) (pa_cons (pv 3) (pa_cons (pe_mkC MK_Room (hr.mono (by decide)) (by rfl) (pa_cons (pv 1) (pa_cons (pe_lst (pa_cons (pv 10) pa_nil)) pa_nil))) pa_nil))) pa_nil)))
    (pss_cons (ps_if (PW.pt (pw_or (pt_cmpR (op_neD hr.units) (pv 11) (pe_revL (pv 11)) (nomark _)) (pw_or1 (PW.pt (pw_and (pt_val (pe_methC M_has (hr.mono (by decide)) (pv 3) (pa_cons (pv 10) pa_nil))) (pw_and1 (pt_cmpR (op_neD hr.units) (pv 6) (pe_revL (pv 6)) (nomark _)))))))) (pss_one (ps_ret pe_bl)) pss_nil)
    (pss_cons (ps_if (pt_cmpR op_ne (pe_cmpR op_eqN (pe_callB (cr_sum rfl) (by rfl) m_sum (by decide +kernel) (pa_cons (pe_stepL (pv 6) (by decide)) pa_nil)) pe_int (nomark _)) (pe_methC M_has (hr.mono (by decide)) (pe_cal C_contrary (hr.mono (by decide)) (by rfl) (pa_cons (pv 3) pa_nil)) (pa_cons (pv 10) pa_nil)) (nomark _)) (pss_one (ps_ret pe_bl)) pss_nil)
    (pss_cons (ps_par (i := 12) (j := 13) (by rfl) sc_law_right.nd rfl rfl (by decide) rfl rfl (pa_cons (pe_cal C_row (hr.mono (by decide)) (by rfl) (pa_cons (pe_cal C_common_room (hr.mono (by decide)) (by rfl) (pa_cons (pv 3) (pa_cons (pv 5) pa_nil))) pa_nil)) (pa_cons (pe_cal C_row (hr.mono (by decide)) (by rfl) (pa_cons (pe_cal C_sum_room (hr.mono (by decide)) (by rfl) (pa_cons (pv 3) (pa_cons (pv 5) pa_nil))) pa_nil)) pa_nil)) (by rfl))
    (pss_cons (ps_for PassesOwn.never rfl (pi_range1 (by rfl) m_range (pa_cons (pe_op op_addN (pv 1) pe_int) pa_nil)) (pg_name (i := 14) sc_law_right.nd rfl (Or.inl rfl))
      (pss_one (ps_if (PW.pt (pw_or (pt_cmpR op_gtN (pe_ix ix_list (pv 12) (pv 14) (fun _ _ => rfl)) (pe_callB (call_min2 rfl) (by rfl) m_min (by decide +kernel) (pa_cons (pe_ix ix_list (pv 6) (pv 14) (fun _ _ => rfl)) (pa_cons (pe_ix ix_list (pv 8) (pv 14) (fun _ _ => rfl)) pa_nil))) (nomark _)) (pw_or1 (pt_cmpR op_ltN (pe_ix ix_list (pv 13) (pv 14) (fun _ _ => rfl)) (pe_callB (call_max2 rfl) (by rfl) m_max (by decide +kernel) (pa_cons (pe_ix ix_list (pv 6) (pv 14) (fun _ _ => rfl)) (pa_cons (pe_ix ix_list (pv 8) (pv 14) (fun _ _ => rfl)) pa_nil))) (nomark _))))) (pss_one (ps_ret pe_bl)) pss_nil)))
    (pss_one (ps_ret (pe_cmpR op_eqN (pe_op op_mulN (pe_callB (cr_sum rfl) (by rfl) m_sum (by decide +kernel) (pa_cons (pv 12) pa_nil)) (pe_callB (cr_sum rfl) (by rfl) m_sum (by decide +kernel) (pa_cons (pv 13) pa_nil))) (pe_op op_mulN (pe_callB (cr_sum rfl) (by rfl) m_sum (by decide +kernel) (pa_cons (pv 6) pa_nil)) (pe_callB (cr_sum rfl) (by rfl) m_sum (by decide +kernel) (pa_cons (pv 8) pa_nil))) (nomark _))))))))))))))))), ?_⟩
  have hp := hP
  refine sv_parx (ax_consX (ev_opR (fun _ _ => od_addN) (ev_cn 1) (ev_call (sd_draw hp (by omega) (by omega)) (av_cons (ev_var rfl) (av_cons (ev_cn 8) av_nil)))) (ax_consL (ev_opR (fun _ _ => od_addN) (ev_cn 1) (ev_call (sd_draw hp (by omega) (by omega)) (av_cons (ev_var rfl) (av_cons (ev_cn 8) av_nil)))) av_nil)) fun ⟨d1, d2⟩ ⟨h1, h2⟩ => ?_
  have h1 : d1 < 8 := h1
  have h2 : d2 < 8 := h2
  generalize hn : 1 + d1 = n
  generalize hm : 1 + d2 = m
  have n1 : 1 ≤ n := by omega
  have n24 : n ≤ 24 := by omega
  have m1 : 1 ≤ m := by omega
  have m24 : m ≤ 24 := by omega
  have k24 : n + m ≤ 24 := by omega
  refine sv_setx (ev_makeX (fun (z : Nat × List Nat) (hz : z.1 < 5 ∧ z.2.length = z.1 ∧ ∀ v ∈ z.2, v < 2 ^ n) => ⟨n1, n24, hz.2.2, by have := hz.1; have := hz.2.1; omega⟩) (ax_consR (ev_var rfl) (ax_consL (ev_flat (ev_callX (fun x (hx : x < 5) => (sd_lwordsE hp n1 n24 (by omega))) (ax_consR (ev_var rfl) (ax_consR (ev_var rfl) (ax_consL (ev_call (sd_draw hp (by omega) (by omega)) (av_cons (ev_var rfl) (av_cons (ev_cn 5) av_nil))) av_nil))))) av_nil))) fun ⟨k1, l1⟩ z1 => ?_
  refine sv_parx (ax_consX (ev_makeX (fun (z : Nat × List Nat) (hz : z.1 < 4 ∧ z.2.length = z.1 ∧ ∀ v ∈ z.2, v < 2 ^ m) => ⟨m1, m24, hz.2.2, by have := hz.1; have := hz.2.1; omega⟩) (ax_consR (ev_var rfl) (ax_consL (ev_flat (ev_callX (fun x (hx : x < 4) => (sd_lwordsE hp m1 m24 (by omega))) (ax_consR (ev_var rfl) (ax_consR (ev_var rfl) (ax_consL (ev_call (sd_draw hp (by omega) (by omega)) (av_cons (ev_var rfl) (av_cons (ev_cn 4) av_nil))) av_nil))))) av_nil))) (ax_consL (ev_makeX (fun (z : Nat × List Nat) (hz : z.1 < 4 ∧ z.2.length = z.1 ∧ ∀ v ∈ z.2, v < 2 ^ n) => ⟨n1, n24, hz.2.2, by have := hz.1; have := hz.2.1; omega⟩) (ax_consR (ev_var rfl) (ax_consL (ev_flat (ev_callX (fun x (hx : x < 4) => (sd_lwordsE hp n1 n24 (by omega))) (ax_consR (ev_var rfl) (ax_consR (ev_var rfl) (ax_consL (ev_call (sd_draw hp (by omega) (by omega)) (av_cons (ev_var rfl) (av_cons (ev_cn 4) av_nil))) av_nil))))) av_nil))) av_nil)) fun ⟨⟨k2, l2⟩, ⟨k3, l3⟩⟩ z2 => ?_
  refine sv_roomF 3 rfl fun fA => ?_
  refine sv_roomF 4 rfl fun fB => ?_
  refine sv_roomF 5 rfl fun fD => ?_
  clear z1 z2
  have fA : RoomF n (bas l1) := fA
  have fB : RoomF m (bas l2) := fB
  have fD : RoomF n (bas l3) := fD
  try dsimp only
  generalize bas l1 = A at fA ⊢
  generalize bas l2 = B at fB ⊢
  generalize bas l3 = D at fD ⊢
  have la := rowB_len n A
  have pn := Nat.two_pow_pos n
  refine sv_seq (nv_par3 (av_cons (ev_call sd_row (av_cons (ev_var rfl) av_nil)) (av_cons (ev_call sd_row (av_cons (ev_var rfl) av_nil)) (av_cons (ev_call sd_row (av_cons (ev_var rfl) av_nil)) av_nil)))) ?_
  refine sv_seq (nv_set (ev_call (sd_ltimesN (row_Tn fA fB)) (av_cons (ev_var rfl) (av_cons (ev_var rfl) av_nil)))) ?_
  refine sv_seq (nv_ifF (tv_orF (tv_f (tv_test (ev_op od_neL (ev_call sd_row (av_cons (ev_call (sd_beside k24) (av_cons (ev_var rfl) (av_cons (ev_var rfl) av_nil))) av_nil)) (ev_var rfl))) (nd_t (row_bes fA fB k24))) (tv_orF (tv_f (tv_test (ev_op od_neL (ev_kw1 sd_row (av_cons (ev_call (sd_beside (by omega)) (av_cons (ev_var rfl) (av_cons (ev_var rfl) av_nil))) av_nil)) (ev_var rfl))) (nd_t ((row_bes fB fA (by omega)).trans (cvL_comm _ _)))) (tv_f (tv_test (ev_op od_neL (ev_call (sd_changed (chg_bes fA fB k24)) (av_cons (ev_var rfl) av_nil)) (ev_call (sd_ltimesN (row_Tn (con_F fA) (con_F fB))) (av_cons (ev_call (sd_changed (rowB_chg fA (con_F fA))) (av_cons (ev_var rfl) av_nil)) (av_cons (ev_call (sd_changed (rowB_chg fB (con_F fB))) (av_cons (ev_var rfl) av_nil)) av_nil))))) (nd_t rfl))))) ?_
  refine sv_seq (nv_ifF (tv_testX (ev_opL (P := fun s => Seq n s) (f := fun s => dVs (rowB n (bas (exB A s)))) (fun _ _ => od_neL) (ev_callX (fun _ _ => sd_row) (ax_consL (ev_callX (fun s (hs : Seq n s) => (sd_exchanged hs)) (ax_consR (ev_var rfl) (ax_consL (lt_of_LX (ev_call (sd_lseq hp n24) (av_cons (ev_var rfl) (av_cons (ev_var rfl) av_nil)))) av_nil))) av_nil)) (ev_var rfl)) fun s hs => nd_t (row_ex hs fA))) ?_
  refine sv_seq (nv_set (ev_op (od_subN pn) (ev_op (od_pow2 (by omega)) (ev_cn 1) (ev_var rfl)) (ev_cn 1))) ?_
  refine sv_seq (nv_set (ev_call sd_row (av_cons (ev_call sd_sum_room (av_cons (ev_var rfl) (av_cons (ev_make (ws := [2 ^ n - 1]) n1 n24 (fun v hv => by rw [List.mem_singleton.mp hv]; omega) (by simp) (av_cons (ev_var rfl) (av_cons (ev_lstN [_] (av_cons (ev_var rfl) av_nil)) av_nil))) av_nil))) av_nil))) ?_
  have fS : RoomF n (bas (A ++ bas [2 ^ n - 1])) := sum_F fA ⟨bas_plain _, n1, n24, bas_lt fun v hv => by rw [List.mem_singleton.mp hv]; omega⟩
  refine sv_seq (nv_ifF (tv_orF (tv_f (tv_test (ev_op od_neL (ev_var rfl) (ev_revL (ev_var rfl)))) (nd_t (row_sym fS (all_span A _)).symm)) (tv_f (tv_and (tv_B (ev_meth n_has (sd_has (show 2 ^ n - 1 < 2 ^ n by omega)) (ev_var rfl) (av_cons (ev_var rfl) av_nil))) fun _ => (tv_test (ev_op od_neL (ev_var rfl) (ev_revL (ev_var rfl))))) ?_))) ?_
  · by_cases h : restOf (2 ^ n - 1) A = 0
    · rw [row_sym fA ((rest_zero fA.pl.1 _).mp h)]
      simp
    · rw [decide_eq_false h]
      rfl
  refine sv_seq (nv_ifF (tv_f (tv_test (ev_op od_neB (ev_op od_eqN (ev_cb cd_sum (av_cons (ev_odds (ev_var rfl) (by omega)) av_nil)) (ev_cn 0)) (ev_meth n_has (sd_has (show 2 ^ n - 1 < 2 ^ n by omega)) (ev_call sd_contrary (av_cons (ev_var rfl) av_nil)) (av_cons (ev_var rfl) av_nil)))) (nd_t (decide_eq_decide.mpr (odds_con fA))))) ?_
  refine sv_seq (nv_par (av_cons (ev_call sd_row (av_cons (ev_call sd_common_room (av_cons (ev_var rfl) (av_cons (ev_var rfl) av_nil))) av_nil)) (av_cons (ev_call sd_row (av_cons (ev_call sd_sum_room (av_cons (ev_var rfl) (av_cons (ev_var rfl) av_nil))) av_nil)) av_nil))) ?_
  have fC : RoomF n (lowB n (comB n A D)) := ⟨lowB_plain _ _, n1, n24, fun c hc => of_decide_eq_true (List.mem_filter.mp hc).2⟩
  have fT : RoomF n (bas (A ++ D)) := sum_F fA fD
  have inC := fun v => (comB_span (B := D) fA.lt v).mp
  have inA : ∀ v, span A v → span (bas (A ++ D)) v := fun v h => (bas_span _ _).mpr fun S hS k => h S hS fun x hx => k x (List.mem_append_left _ hx)
  have inD : ∀ v, span D v → span (bas (A ++ D)) v := fun v h => (bas_span _ _).mpr fun S hS k => h S hS fun x hx => k x (List.mem_append_right _ hx)
  have sC := rowB_sum fC
  have sT := rowB_sum fT
  have sA := rowB_sum fA
  have sD := rowB_sum fD
  have dm := sum_common2 fA.pl fD.pl fA.lt fD.lt
  have c1 := row_le fC fA fun v h => (inC v h).1
  have c2 := row_le fC fD fun v h => (inC v h).2
  have c3 := row_le fA fT inA
  have c4 := row_le fD fT inD
  have lc := rowB_len n (lowB n (comB n A D))
  have lt := rowB_len n (bas (A ++ D))
  have ld := rowB_len n D
  have b1 := (rowB_P fC).sum0.2
  have b2 := (rowB_P fA).sum0.2
  refine sv_seq (nv_forR [14] (av_cons (ev_op od_addN (ev_var rfl) (ev_cn 1)) av_nil) (by omega) rfl (fun x hx => ?_)) ?_
  · have e1 := c1 x
    have e2 := c2 x
    have e3 := c3 x
    have e4 := c4 x
    exact nv_sub (nv_ifF (tv_orF (tv_f (tv_test (ev_op od_gtN (ev_op (od_ixN (by omega)) (ev_var rfl) (ev_var rfl)) (ev_cb cd_min (av_cons (ev_op (od_ixN (by omega)) (ev_var rfl) (ev_var rfl)) (av_cons (ev_op (od_ixN (by omega)) (ev_var rfl) (ev_var rfl)) av_nil))))) (decide_eq_false (by omega))) (tv_f (tv_test (ev_op od_ltN (ev_op (od_ixN (by omega)) (ev_var rfl) (ev_var rfl)) (ev_cb cd_max (av_cons (ev_op (od_ixN (by omega)) (ev_var rfl) (ev_var rfl)) (av_cons (ev_op (od_ixN (by omega)) (ev_var rfl) (ev_var rfl)) av_nil))))) (decide_eq_false (by omega))))) rfl ⟨rfl, rfl, rfl, rfl, rfl, rfl, rfl, rfl, rfl, rfl, rfl, rfl, rfl, rfl, trivial⟩
  · refine sv_ret (ev_t (ev_op od_eqN (ev_op (od_mulN (by omega)) (ev_cb cd_sum (av_cons (ev_var rfl) av_nil)) (ev_cb cd_sum (av_cons (ev_var rfl) av_nil))) (ev_op (od_mulN (by omega)) (ev_cb cd_sum (av_cons (ev_var rfl) av_nil)) (ev_cb cd_sum (av_cons (ev_var rfl) av_nil)))) (d_t ?_))
    rw [sC, sT, sA, sD, ← Nat.pow_add, ← Nat.pow_add, Nat.add_comm, dm]
end
end K39

set_option Elab.async false
set_option linter.all false
set_option maxRecDepth 100000
set_option maxHeartbeats 4000000
set_option pp.maxSteps 300
namespace K39
open PySem PySem.Spec PyProof.Rows L2 Vf
section
variable {P : Program} {w : World} {K : PySem.W.Frag} {mg : Str → Option Value} {base : Heap} {C : Addr}
abbrev s_law : Stmt := topS 70
abbrev N_law : List Str := ["_law_script", "_law_k"]
theorem sc_law : FnScope N_law ["_law_script"] (defScope s_law) := ⟨rfl, rfl, rfl, by decide +kernel, rfl, by decide +kernel, by decide +kernel⟩
theorem ok_law {f : Addr} {fd : FuncData} (F : Fun K "law" "law" s_law f fd)
    (C_law_pot : Cal P w K mg base "_law_pot" 1 ["_law_script", "_law_k"] [] (sp_pot K))
    (C_law_right : CalG P w K mg base "_law_right" 10 ["_law_pot_here"] sp_right)
    (m_len : mg "len" = none)
    (m_max : mg "max" = none)
    (m_min : mg "min" = none)
    (m_range : mg "range" = none) :
    GnOk P w K mg base 11 f fd ["_law_script"] (sp_law K) := by
  refine gn_ok F sc_law (fun vs H Q E h => ?_) (fun cdv A outer s H vs Q E hg hr h => ?_)
  · obtain ⟨a, ns, rfl, _⟩ := h
    rfl
  · obtain ⟨a, ns, rfl, hS, q⟩ := h
    refine ⟨_, (pss_cons (ps_for PassesOwn.never rfl (pi_range1 (by rfl) m_range (pa_cons (pe_callB (call_max2 rfl) (by rfl) m_max (by decide +kernel) (pa_cons pe_int (pa_cons (pe_callB (call_min2 rfl) (by rfl) m_min (by decide +kernel) (pa_cons pe_int (pa_cons (pe_callB call_len_seq (by rfl) m_len (by decide +kernel) (pa_cons (pv 0) pa_nil)) pa_nil))) pa_nil))) pa_nil)) (pg_name (i := 1) sc_law.nd rfl (Or.inl rfl))
      (pss_one (ps_if (pt_not (pt_val (pe_calG C_law_right hg (hr.mono (by decide)) (by rfl) (pa_cons (pe_cal C_law_pot (hr.mono (by decide)) (by rfl) (pa_cons (pv 0) (pa_cons (pv 1) pa_nil))) pa_nil)))) (pss_one (ps_ret pe_bl)) pss_nil)))
    (pss_one (ps_ret pe_bl))), ?_⟩
    obtain ⟨J, hJ, j1, j2⟩ : ∃ J : Int, (if (if (((ns.map V.int).length : Nat) : Int) < 2 then (((ns.map V.int).length : Nat) : Int) else 2) > 1 then (if (((ns.map V.int).length : Nat) : Int) < 2 then (((ns.map V.int).length : Nat) : Int) else 2) else 1) = J ∧ 1 ≤ J ∧ J ≤ 2 :=
      ⟨_, rfl, by split <;> (try split) <;> omega, by split <;> (try split) <;> omega⟩
    refine ⟨.ref a, rfl, a, _, rfl, .inl hS, 2, _, rfl, 1, _, rfl, J, by rw [hJ], by omega, by omega, ?_⟩
    refine for_range (lo := 0) (n := J.toNat) (fun i σ H' => (∃ z, σ = [some (.ref a), z]) ∧ Same H H') ⟨⟨_, rfl⟩, fun _ _ h => h⟩ (fun i σ H' hi hP => ?_) fun σ H' hP => ?_
    · obtain ⟨⟨z, rfl⟩, sm⟩ := hP
      refine ⟨.ref a, rfl, .int (0 + (i : Int)), rfl, a, ns, i, by rw [Int.zero_add]; rfl, sm.seq hS, by omega, fun H1 p s1 np hP => ?_⟩
      refine ⟨potW p, p, potW_is p, hP, ⟨rfl, trivial⟩, fun v H2 l2 ov => ?_⟩
      obtain ⟨b2, _⟩ := l2
      rw [show v = V.bl true from ov]
      refine ⟨true, rfl, (if_neg (by decide)).mpr ⟨⟨_, rfl⟩, fun b o e => ?_⟩⟩
      have e1 := sm b o e
      exact b2 b o (ne_of_none e1 np) (s1 _ _ e1)
    · exact q _
end
theorem all_mk {l : PySem.W.OpenLaw} {w : World} {K : PySem.W.Frag} {h : Heap} {mg : Str → Option Value} {fa T C f1 f2 f3 f4 f5 f6 f7 f8 f9 f10 f11 f12 f13 f14 f15 f16 f17 f18 f19 f20 f21 f22 f23 f24 f25 f26 f27 f28 f29 f30 f31 f32 f33 f34 f35 f36 f37 f38 f39 f40 f41 f42 f43 f44 f45 fm1 fm2 fm3 fm4 fm5 fm6 fm7 fm8 prm2 prm3 : Addr} (X : K.In h) (G : h.Ns mainGlobals mg) (hfa : mg "law" = some (.ref fa))
    {od1 an1 od2 an2 od3 an3 od4 an4 od5 an5 od6 an6 od7 an7 od8 an8 od9 an9 od10 an10 od11 an11 od12 an12 od13 an13 od14 an14 od15 an15 od16 an16 od17 an17 od18 an18 od19 an19 od20 an20 od21 an21 od22 an22 od23 an23 od24 an24 od25 an25 od26 an26 od27 an27 od28 an28 od29 an29 od30 an30 od31 an31 od32 an32 od33 an33 od34 an34 od35 an35 od36 an36 od37 an37 od38 an38 od39 an39 od40 an40 od41 an41 od42 an42 od43 an43 od44 an44 od45 an45 odm1 anm1 odm2 anm2 odm3 anm3 odm4 anm4 odm5 anm5 odm6 anm6 odm7 anm7 odm8 anm8 dT : Option Addr} {sl1 sl2 sl3 sl4 sl5 sl6 sl7 sl8 sl9 sl10 sl11 sl12 sl13 sl14 sl15 sl16 sl17 sl18 sl19 sl20 sl21 sl22 sl23 sl24 sl25 sl26 sl27 sl28 sl29 sl30 sl31 sl32 sl33 sl34 sl35 sl36 sl37 sl38 sl39 sl40 sl41 sl42 sl43 sl44 sl45 slm1 slm2 slm3 slm4 slm5 slm6 slm7 slm8 sT : Array (Option Value)} {oc1 kV1 dc1 pm1 cd1 ct1 oc2 kV2 dc2 pm2 cd2 ct2 oc3 kV3 dc3 pm3 cd3 ct3 oc4 kV4 dc4 pm4 cd4 ct4 oc5 kV5 dc5 pm5 cd5 ct5 oc6 kV6 dc6 pm6 cd6 ct6 oc7 kV7 dc7 pm7 cd7 ct7 oc8 kV8 dc8 pm8 cd8 ct8 oc9 kV9 dc9 pm9 cd9 ct9 oc10 kV10 dc10 pm10 cd10 ct10 oc11 kV11 dc11 pm11 cd11 ct11 oc12 kV12 dc12 pm12 cd12 ct12 oc13 kV13 dc13 pm13 cd13 ct13 oc14 kV14 dc14 pm14 cd14 ct14 oc15 kV15 dc15 pm15 cd15 ct15 oc16 kV16 dc16 pm16 cd16 ct16 oc17 kV17 dc17 pm17 cd17 ct17 oc18 kV18 dc18 pm18 cd18 ct18 oc19 kV19 dc19 pm19 cd19 ct19 oc20 kV20 dc20 pm20 cd20 ct20 oc21 kV21 dc21 pm21 cd21 ct21 oc22 kV22 dc22 pm22 cd22 ct22 oc23 kV23 dc23 pm23 cd23 ct23 oc24 kV24 dc24 pm24 cd24 ct24 oc25 kV25 dc25 pm25 cd25 ct25 oc26 kV26 dc26 pm26 cd26 ct26 oc27 kV27 dc27 pm27 cd27 ct27 oc28 kV28 dc28 pm28 cd28 ct28 oc29 kV29 dc29 pm29 cd29 ct29 oc30 kV30 dc30 pm30 cd30 ct30 oc31 kV31 dc31 pm31 cd31 ct31 oc32 kV32 dc32 pm32 cd32 ct32 oc33 kV33 dc33 pm33 cd33 ct33 oc34 kV34 dc34 pm34 cd34 ct34 oc35 kV35 dc35 pm35 cd35 ct35 oc36 kV36 dc36 pm36 cd36 ct36 oc37 kV37 dc37 pm37 cd37 ct37 oc38 kV38 dc38 pm38 cd38 ct38 oc39 kV39 dc39 pm39 cd39 ct39 oc40 kV40 dc40 pm40 cd40 ct40 oc41 kV41 dc41 pm41 cd41 ct41 oc42 kV42 dc42 pm42 cd42 ct42 oc43 kV43 dc43 pm43 cd43 ct43 oc44 kV44 dc44 pm44 cd44 ct44 oc45 kV45 dc45 pm45 cd45 ct45 ocm1 kVm1 dcm1 pmm1 cdm1 ctm1 ocm2 kVm2 dcm2 pmm2 cdm2 ctm2 ocm3 kVm3 dcm3 pmm3 cdm3 ctm3 ocm4 kVm4 dcm4 pmm4 cdm4 ctm4 ocm5 kVm5 dcm5 pmm5 cdm5 ctm5 ocm6 kVm6 dcm6 pmm6 cdm6 ctm6 ocm7 kVm7 dcm7 pmm7 cdm7 ctm7 ocm8 kVm8 dcm8 pmm8 cdm8 ctm8 oT : Value} {nT : Nat} {tT : Tok} {t_MOST_DIMENSION t_MOST_PLACES t_MOST_WORDS : Tok} {rem2 rem3 : List Value}
    (aC : PySem.W.nsIn K mainGlobals "Room" = some (some (.ref C)))
    (a1 : PySem.W.nsIn K mainGlobals "is_integer" = some (some (.ref f1)))
    (l1 : K.lookup f1 = some ⟨oc1, od1, .func (PySem.W.fnOf "is_integer" "is_integer" (defArgs s_is_integer) (defBody s_is_integer) (defScope s_is_integer) .none kV1 dc1 pm1 an1 cd1 ct1), sl1⟩)
    (c1 : PySem.W.codeIn K cd1 "is_integer" = true)
    (k1 : PySem.W.keepIn K (.ref f1) = true)
    (a2 : PySem.W.nsIn K mainGlobals "is_count" = some (some (.ref f2)))
    (l2 : K.lookup f2 = some ⟨oc2, od2, .func (PySem.W.fnOf "is_count" "is_count" (defArgs s_is_count) (defBody s_is_count) (defScope s_is_count) .none kV2 dc2 pm2 an2 cd2 ct2), sl2⟩)
    (c2 : PySem.W.codeIn K cd2 "is_count" = true)
    (k2 : PySem.W.keepIn K (.ref f2) = true)
    (a3 : PySem.W.nsIn K mainGlobals "is_list" = some (some (.ref f3)))
    (l3 : K.lookup f3 = some ⟨oc3, od3, .func (PySem.W.fnOf "is_list" "is_list" (defArgs s_is_list) (defBody s_is_list) (defScope s_is_list) .none kV3 dc3 pm3 an3 cd3 ct3), sl3⟩)
    (c3 : PySem.W.codeIn K cd3 "is_list" = true)
    (k3 : PySem.W.keepIn K (.ref f3) = true)
    (a4 : PySem.W.nsIn K mainGlobals "is_places" = some (some (.ref f4)))
    (l4 : K.lookup f4 = some ⟨oc4, od4, .func (PySem.W.fnOf "is_places" "is_places" (defArgs s_is_places) (defBody s_is_places) (defScope s_is_places) .none kV4 dc4 pm4 an4 cd4 ct4), sl4⟩)
    (c4 : PySem.W.codeIn K cd4 "is_places" = true)
    (k4 : PySem.W.keepIn K (.ref f4) = true)
    (a5 : PySem.W.nsIn K mainGlobals "check_places" = some (some (.ref f5)))
    (l5 : K.lookup f5 = some ⟨oc5, od5, .func (PySem.W.fnOf "check_places" "check_places" (defArgs s_check_places) (defBody s_check_places) (defScope s_check_places) .none kV5 dc5 pm5 an5 cd5 ct5), sl5⟩)
    (c5 : PySem.W.codeIn K cd5 "check_places" = true)
    (k5 : PySem.W.keepIn K (.ref f5) = true)
    (a6 : PySem.W.nsIn K mainGlobals "is_word" = some (some (.ref f6)))
    (l6 : K.lookup f6 = some ⟨oc6, od6, .func (PySem.W.fnOf "is_word" "is_word" (defArgs s_is_word) (defBody s_is_word) (defScope s_is_word) .none kV6 dc6 pm6 an6 cd6 ct6), sl6⟩)
    (c6 : PySem.W.codeIn K cd6 "is_word" = true)
    (k6 : PySem.W.keepIn K (.ref f6) = true)
    (a7 : PySem.W.nsIn K mainGlobals "check_word" = some (some (.ref f7)))
    (l7 : K.lookup f7 = some ⟨oc7, od7, .func (PySem.W.fnOf "check_word" "check_word" (defArgs s_check_word) (defBody s_check_word) (defScope s_check_word) (.ref T) kV7 dc7 pm7 an7 cd7 ct7), sl7⟩)
    (c7 : PySem.W.codeIn K cd7 "check_word" = true)
    (k7 : PySem.W.keepIn K (.ref f7) = true)
    (a8 : PySem.W.nsIn K mainGlobals "weight" = some (some (.ref f8)))
    (l8 : K.lookup f8 = some ⟨oc8, od8, .func (PySem.W.fnOf "weight" "weight" (defArgs s_weight) (defBody s_weight) (defScope s_weight) .none kV8 dc8 pm8 an8 cd8 ct8), sl8⟩)
    (c8 : PySem.W.codeIn K cd8 "weight" = true)
    (k8 : PySem.W.keepIn K (.ref f8) = true)
    (a9 : PySem.W.nsIn K mainGlobals "places_of" = some (some (.ref f9)))
    (l9 : K.lookup f9 = some ⟨oc9, od9, .func (PySem.W.fnOf "places_of" "places_of" (defArgs s_places_of) (defBody s_places_of) (defScope s_places_of) .none kV9 dc9 pm9 an9 cd9 ct9), sl9⟩)
    (c9 : PySem.W.codeIn K cd9 "places_of" = true)
    (k9 : PySem.W.keepIn K (.ref f9) = true)
    (a10 : PySem.W.nsIn K mainGlobals "are_spots" = some (some (.ref f10)))
    (l10 : K.lookup f10 = some ⟨oc10, od10, .func (PySem.W.fnOf "are_spots" "are_spots" (defArgs s_are_spots) (defBody s_are_spots) (defScope s_are_spots) .none kV10 dc10 pm10 an10 cd10 ct10), sl10⟩)
    (c10 : PySem.W.codeIn K cd10 "are_spots" = true)
    (k10 : PySem.W.keepIn K (.ref f10) = true)
    (a11 : PySem.W.nsIn K mainGlobals "is_sequence" = some (some (.ref f11)))
    (l11 : K.lookup f11 = some ⟨oc11, od11, .func (PySem.W.fnOf "is_sequence" "is_sequence" (defArgs s_is_sequence) (defBody s_is_sequence) (defScope s_is_sequence) .none kV11 dc11 pm11 an11 cd11 ct11), sl11⟩)
    (c11 : PySem.W.codeIn K cd11 "is_sequence" = true)
    (k11 : PySem.W.keepIn K (.ref f11) = true)
    (a12 : PySem.W.nsIn K mainGlobals "word_of" = some (some (.ref f12)))
    (l12 : K.lookup f12 = some ⟨oc12, od12, .func (PySem.W.fnOf "word_of" "word_of" (defArgs s_word_of) (defBody s_word_of) (defScope s_word_of) .none kV12 dc12 pm12 an12 cd12 ct12), sl12⟩)
    (c12 : PySem.W.codeIn K cd12 "word_of" = true)
    (k12 : PySem.W.keepIn K (.ref f12) = true)
    (a13 : PySem.W.nsIn K mainGlobals "highest" = some (some (.ref f13)))
    (l13 : K.lookup f13 = some ⟨oc13, od13, .func (PySem.W.fnOf "highest" "highest" (defArgs s_highest) (defBody s_highest) (defScope s_highest) .none kV13 dc13 pm13 an13 cd13 ct13), sl13⟩)
    (c13 : PySem.W.codeIn K cd13 "highest" = true)
    (k13 : PySem.W.keepIn K (.ref f13) = true)
    (a14 : PySem.W.nsIn K mainGlobals "rest_of" = some (some (.ref f14)))
    (l14 : K.lookup f14 = some ⟨oc14, od14, .func (PySem.W.fnOf "rest_of" "rest_of" (defArgs s_rest_of) (defBody s_rest_of) (defScope s_rest_of) .none kV14 dc14 pm14 an14 cd14 ct14), sl14⟩)
    (c14 : PySem.W.codeIn K cd14 "rest_of" = true)
    (k14 : PySem.W.keepIn K (.ref f14) = true)
    (a15 : PySem.W.nsIn K mainGlobals "put_in" = some (some (.ref f15)))
    (l15 : K.lookup f15 = some ⟨oc15, od15, .func (PySem.W.fnOf "put_in" "put_in" (defArgs s_put_in) (defBody s_put_in) (defScope s_put_in) .none kV15 dc15 pm15 an15 cd15 ct15), sl15⟩)
    (c15 : PySem.W.codeIn K cd15 "put_in" = true)
    (k15 : PySem.W.keepIn K (.ref f15) = true)
    (a16 : PySem.W.nsIn K mainGlobals "plain_basis" = some (some (.ref f16)))
    (l16 : K.lookup f16 = some ⟨oc16, od16, .func (PySem.W.fnOf "plain_basis" "plain_basis" (defArgs s_plain_basis) (defBody s_plain_basis) (defScope s_plain_basis) .none kV16 dc16 pm16 an16 cd16 ct16), sl16⟩)
    (c16 : PySem.W.codeIn K cd16 "plain_basis" = true)
    (k16 : PySem.W.keepIn K (.ref f16) = true)
    (a17 : PySem.W.nsIn K mainGlobals "sums_of" = some (some (.ref f17)))
    (l17 : K.lookup f17 = some ⟨oc17, od17, .func (PySem.W.fnOf "sums_of" "sums_of" (defArgs s_sums_of) (defBody s_sums_of) (defScope s_sums_of) .none kV17 dc17 pm17 an17 cd17 ct17), sl17⟩)
    (c17 : PySem.W.codeIn K cd17 "sums_of" = true)
    (k17 : PySem.W.keepIn K (.ref f17) = true)
    (a18 : PySem.W.nsIn K mainGlobals "check_words" = some (some (.ref f18)))
    (l18 : K.lookup f18 = some ⟨oc18, od18, .func (PySem.W.fnOf "check_words" "check_words" (defArgs s_check_words) (defBody s_check_words) (defScope s_check_words) .none kV18 dc18 pm18 an18 cd18 ct18), sl18⟩)
    (c18 : PySem.W.codeIn K cd18 "check_words" = true)
    (k18 : PySem.W.keepIn K (.ref f18) = true)
    (a19 : PySem.W.nsIn K mainGlobals "check_room" = some (some (.ref f19)))
    (l19 : K.lookup f19 = some ⟨oc19, od19, .func (PySem.W.fnOf "check_room" "check_room" (defArgs s_check_room) (defBody s_check_room) (defScope s_check_room) .none kV19 dc19 pm19 an19 cd19 ct19), sl19⟩)
    (c19 : PySem.W.codeIn K cd19 "check_room" = true)
    (k19 : PySem.W.keepIn K (.ref f19) = true)
    (a20 : PySem.W.nsIn K mainGlobals "check_two" = some (some (.ref f20)))
    (l20 : K.lookup f20 = some ⟨oc20, od20, .func (PySem.W.fnOf "check_two" "check_two" (defArgs s_check_two) (defBody s_check_two) (defScope s_check_two) .none kV20 dc20 pm20 an20 cd20 ct20), sl20⟩)
    (c20 : PySem.W.codeIn K cd20 "check_two" = true)
    (k20 : PySem.W.keepIn K (.ref f20) = true)
    (a21 : PySem.W.nsIn K mainGlobals "even_word" = some (some (.ref f21)))
    (l21 : K.lookup f21 = some ⟨oc21, od21, .func (PySem.W.fnOf "even_word" "even_word" (defArgs s_even_word) (defBody s_even_word) (defScope s_even_word) .none kV21 dc21 pm21 an21 cd21 ct21), sl21⟩)
    (c21 : PySem.W.codeIn K cd21 "even_word" = true)
    (k21 : PySem.W.keepIn K (.ref f21) = true)
    (a22 : PySem.W.nsIn K mainGlobals "contrary" = some (some (.ref f22)))
    (l22 : K.lookup f22 = some ⟨oc22, od22, .func (PySem.W.fnOf "contrary" "contrary" (defArgs s_contrary) (defBody s_contrary) (defScope s_contrary) .none kV22 dc22 pm22 an22 cd22 ct22), sl22⟩)
    (c22 : PySem.W.codeIn K cd22 "contrary" = true)
    (k22 : PySem.W.keepIn K (.ref f22) = true)
    (a23 : PySem.W.nsIn K mainGlobals "is_power_of_2" = some (some (.ref f23)))
    (l23 : K.lookup f23 = some ⟨oc23, od23, .func (PySem.W.fnOf "is_power_of_2" "is_power_of_2" (defArgs s_is_power_of_2) (defBody s_is_power_of_2) (defScope s_is_power_of_2) .none kV23 dc23 pm23 an23 cd23 ct23), sl23⟩)
    (c23 : PySem.W.codeIn K cd23 "is_power_of_2" = true)
    (k23 : PySem.W.keepIn K (.ref f23) = true)
    (a24 : PySem.W.nsIn K mainGlobals "is_row" = some (some (.ref f24)))
    (l24 : K.lookup f24 = some ⟨oc24, od24, .func (PySem.W.fnOf "is_row" "is_row" (defArgs s_is_row) (defBody s_is_row) (defScope s_is_row) .none kV24 dc24 pm24 an24 cd24 ct24), sl24⟩)
    (c24 : PySem.W.codeIn K cd24 "is_row" = true)
    (k24 : PySem.W.keepIn K (.ref f24) = true)
    (a25 : PySem.W.nsIn K mainGlobals "check_row" = some (some (.ref f25)))
    (l25 : K.lookup f25 = some ⟨oc25, od25, .func (PySem.W.fnOf "check_row" "check_row" (defArgs s_check_row) (defBody s_check_row) (defScope s_check_row) .none kV25 dc25 pm25 an25 cd25 ct25), sl25⟩)
    (c25 : PySem.W.codeIn K cd25 "check_row" = true)
    (k25 : PySem.W.keepIn K (.ref f25) = true)
    (a26 : PySem.W.nsIn K mainGlobals "entries" = some (some (.ref f26)))
    (l26 : K.lookup f26 = some ⟨oc26, od26, .func (PySem.W.fnOf "entries" "entries" (defArgs s_entries) (defBody s_entries) (defScope s_entries) .none kV26 dc26 pm26 an26 cd26 ct26), sl26⟩)
    (c26 : PySem.W.codeIn K cd26 "entries" = true)
    (k26 : PySem.W.keepIn K (.ref f26) = true)
    (a27 : PySem.W.nsIn K mainGlobals "changed_sums" = some (some (.ref f27)))
    (l27 : K.lookup f27 = some ⟨oc27, od27, .func (PySem.W.fnOf "changed_sums" "changed_sums" (defArgs s_changed_sums) (defBody s_changed_sums) (defScope s_changed_sums) .none kV27 dc27 pm27 an27 cd27 ct27), sl27⟩)
    (c27 : PySem.W.codeIn K cd27 "changed_sums" = true)
    (k27 : PySem.W.keepIn K (.ref f27) = true)
    (a28 : PySem.W.nsIn K mainGlobals "changed" = some (some (.ref f28)))
    (l28 : K.lookup f28 = some ⟨oc28, od28, .func (PySem.W.fnOf "changed" "changed" (defArgs s_changed) (defBody s_changed) (defScope s_changed) .none kV28 dc28 pm28 an28 cd28 ct28), sl28⟩)
    (c28 : PySem.W.codeIn K cd28 "changed" = true)
    (k28 : PySem.W.keepIn K (.ref f28) = true)
    (a29 : PySem.W.nsIn K mainGlobals "counted_weights" = some (some (.ref f29)))
    (l29 : K.lookup f29 = some ⟨oc29, od29, .func (PySem.W.fnOf "counted_weights" "counted_weights" (defArgs s_counted_weights) (defBody s_counted_weights) (defScope s_counted_weights) .none kV29 dc29 pm29 an29 cd29 ct29), sl29⟩)
    (c29 : PySem.W.codeIn K cd29 "counted_weights" = true)
    (k29 : PySem.W.keepIn K (.ref f29) = true)
    (a30 : PySem.W.nsIn K mainGlobals "counted" = some (some (.ref f30)))
    (l30 : K.lookup f30 = some ⟨oc30, od30, .func (PySem.W.fnOf "counted" "counted" (defArgs s_counted) (defBody s_counted) (defScope s_counted) .none kV30 dc30 pm30 an30 cd30 ct30), sl30⟩)
    (c30 : PySem.W.codeIn K cd30 "counted" = true)
    (k30 : PySem.W.keepIn K (.ref f30) = true)
    (a31 : PySem.W.nsIn K mainGlobals "row" = some (some (.ref f31)))
    (l31 : K.lookup f31 = some ⟨oc31, od31, .func (PySem.W.fnOf "row" "row" (defArgs s_row) (defBody s_row) (defScope s_row) .none kV31 dc31 pm31 an31 cd31 ct31), sl31⟩)
    (c31 : PySem.W.codeIn K cd31 "row" = true)
    (k31 : PySem.W.keepIn K (.ref f31) = true)
    (a32 : PySem.W.nsIn K mainGlobals "lower_room" = some (some (.ref f32)))
    (l32 : K.lookup f32 = some ⟨oc32, od32, .func (PySem.W.fnOf "lower_room" "lower_room" (defArgs s_lower_room) (defBody s_lower_room) (defScope s_lower_room) .none kV32 dc32 pm32 an32 cd32 ct32), sl32⟩)
    (c32 : PySem.W.codeIn K cd32 "lower_room" = true)
    (k32 : PySem.W.keepIn K (.ref f32) = true)
    (a33 : PySem.W.nsIn K mainGlobals "sum_room" = some (some (.ref f33)))
    (l33 : K.lookup f33 = some ⟨oc33, od33, .func (PySem.W.fnOf "sum_room" "sum_room" (defArgs s_sum_room) (defBody s_sum_room) (defScope s_sum_room) .none kV33 dc33 pm33 an33 cd33 ct33), sl33⟩)
    (c33 : PySem.W.codeIn K cd33 "sum_room" = true)
    (k33 : PySem.W.keepIn K (.ref f33) = true)
    (a34 : PySem.W.nsIn K mainGlobals "common_room" = some (some (.ref f34)))
    (l34 : K.lookup f34 = some ⟨oc34, od34, .func (PySem.W.fnOf "common_room" "common_room" (defArgs s_common_room) (defBody s_common_room) (defScope s_common_room) .none kV34 dc34 pm34 an34 cd34 ct34), sl34⟩)
    (c34 : PySem.W.codeIn K cd34 "common_room" = true)
    (k34 : PySem.W.keepIn K (.ref f34) = true)
    (a35 : PySem.W.nsIn K mainGlobals "beside" = some (some (.ref f35)))
    (l35 : K.lookup f35 = some ⟨oc35, od35, .func (PySem.W.fnOf "beside" "beside" (defArgs s_beside) (defBody s_beside) (defScope s_beside) .none kV35 dc35 pm35 an35 cd35 ct35), sl35⟩)
    (c35 : PySem.W.codeIn K cd35 "beside" = true)
    (k35 : PySem.W.keepIn K (.ref f35) = true)
    (a36 : PySem.W.nsIn K mainGlobals "led" = some (some (.ref f36)))
    (l36 : K.lookup f36 = some ⟨oc36, od36, .func (PySem.W.fnOf "led" "led" (defArgs s_led) (defBody s_led) (defScope s_led) .none kV36 dc36 pm36 an36 cd36 ct36), sl36⟩)
    (c36 : PySem.W.codeIn K cd36 "led" = true)
    (k36 : PySem.W.keepIn K (.ref f36) = true)
    (a37 : PySem.W.nsIn K mainGlobals "exchanged" = some (some (.ref f37)))
    (l37 : K.lookup f37 = some ⟨oc37, od37, .func (PySem.W.fnOf "exchanged" "exchanged" (defArgs s_exchanged) (defBody s_exchanged) (defScope s_exchanged) .none kV37 dc37 pm37 an37 cd37 ct37), sl37⟩)
    (c37 : PySem.W.codeIn K cd37 "exchanged" = true)
    (k37 : PySem.W.keepIn K (.ref f37) = true)
    (a38 : PySem.W.nsIn K mainGlobals "_law_pot" = some (some (.ref f38)))
    (l38 : K.lookup f38 = some ⟨oc38, od38, .func (PySem.W.fnOf "_law_pot" "_law_pot" (defArgs s_law_pot) (defBody s_law_pot) (defScope s_law_pot) .none kV38 dc38 pm38 an38 cd38 ct38), sl38⟩)
    (c38 : PySem.W.codeIn K cd38 "_law_pot" = true)
    (k38 : PySem.W.keepIn K (.ref f38) = true)
    (a39 : PySem.W.nsIn K mainGlobals "_law_draw" = some (some (.ref f39)))
    (l39 : K.lookup f39 = some ⟨oc39, od39, .func (PySem.W.fnOf "_law_draw" "_law_draw" (defArgs s_law_draw) (defBody s_law_draw) (defScope s_law_draw) .none kV39 dc39 pm39 an39 cd39 ct39), sl39⟩)
    (c39 : PySem.W.codeIn K cd39 "_law_draw" = true)
    (k39 : PySem.W.keepIn K (.ref f39) = true)
    (a40 : PySem.W.nsIn K mainGlobals "_law_weight" = some (some (.ref f40)))
    (l40 : K.lookup f40 = some ⟨oc40, od40, .func (PySem.W.fnOf "_law_weight" "_law_weight" (defArgs s_law_weight) (defBody s_law_weight) (defScope s_law_weight) .none kV40 dc40 pm40 an40 cd40 ct40), sl40⟩)
    (c40 : PySem.W.codeIn K cd40 "_law_weight" = true)
    (k40 : PySem.W.keepIn K (.ref f40) = true)
    (a41 : PySem.W.nsIn K mainGlobals "_law_words" = some (some (.ref f41)))
    (l41 : K.lookup f41 = some ⟨oc41, od41, .func (PySem.W.fnOf "_law_words" "_law_words" (defArgs s_law_words) (defBody s_law_words) (defScope s_law_words) .none kV41 dc41 pm41 an41 cd41 ct41), sl41⟩)
    (c41 : PySem.W.codeIn K cd41 "_law_words" = true)
    (k41 : PySem.W.keepIn K (.ref f41) = true)
    (a42 : PySem.W.nsIn K mainGlobals "_law_sequence" = some (some (.ref f42)))
    (l42 : K.lookup f42 = some ⟨oc42, od42, .func (PySem.W.fnOf "_law_sequence" "_law_sequence" (defArgs s_law_sequence) (defBody s_law_sequence) (defScope s_law_sequence) .none kV42 dc42 pm42 an42 cd42 ct42), sl42⟩)
    (c42 : PySem.W.codeIn K cd42 "_law_sequence" = true)
    (k42 : PySem.W.keepIn K (.ref f42) = true)
    (a43 : PySem.W.nsIn K mainGlobals "_law_times" = some (some (.ref f43)))
    (l43 : K.lookup f43 = some ⟨oc43, od43, .func (PySem.W.fnOf "_law_times" "_law_times" (defArgs s_law_times) (defBody s_law_times) (defScope s_law_times) .none kV43 dc43 pm43 an43 cd43 ct43), sl43⟩)
    (c43 : PySem.W.codeIn K cd43 "_law_times" = true)
    (k43 : PySem.W.keepIn K (.ref f43) = true)
    (a44 : PySem.W.nsIn K mainGlobals "_law_right" = some (some (.ref f44)))
    (l44 : K.lookup f44 = some ⟨oc44, od44, .func (PySem.W.fnOf "_law_right" "_law_right" (defArgs s_law_right) (defBody s_law_right) (defScope s_law_right) .none kV44 dc44 pm44 an44 cd44 ct44), sl44⟩)
    (c44 : PySem.W.codeIn K cd44 "_law_right" = true)
    (k44 : PySem.W.keepIn K (.ref f44) = true)
    (a45 : PySem.W.nsIn K mainGlobals "law" = some (some (.ref f45)))
    (l45 : K.lookup f45 = some ⟨oc45, od45, .func (PySem.W.fnOf "law" "law" (defArgs s_law) (defBody s_law) (defScope s_law) .none kV45 dc45 pm45 an45 cd45 ct45), sl45⟩)
    (c45 : PySem.W.codeIn K cd45 "law" = true)
    (k45 : PySem.W.keepIn K (.ref f45) = true)
    (am1 : PySem.W.findIn K (.ref C) "__init__" = some (some (.ref fm1)))
    (im1 : PySem.W.isFn K (.ref fm1) = true)
    (lm1 : K.lookup fm1 = some ⟨ocm1, odm1, .func (PySem.W.fnOf "__init__" "Room.__init__" (defArgs s_Room___init__) (defBody s_Room___init__) (defScope s_Room___init__) .none kVm1 dcm1 pmm1 anm1 cdm1 ctm1), slm1⟩)
    (cm1 : PySem.W.codeIn K cdm1 "Room.__init__" = true)
    (km1 : PySem.W.keepIn K (.ref fm1) = true)
    (am2 : PySem.W.findIn K (.ref C) "places" = some (some (.ref prm2)))
    (gm2 : PySem.W.specialIn K (.ref prm2) "__get__" = some (some (.builtin "property.__get__")))
    (um2 : PySem.W.takesIn K (.ref prm2) = some true)
    (rm2 : PySem.W.recIn K prm2 "property" = some (.ref fm2 :: rem2))
    (lm2 : K.lookup fm2 = some ⟨ocm2, odm2, .func (PySem.W.fnOf "places" "Room.places" (defArgs s_Room_places) (defBody s_Room_places) (defScope s_Room_places) .none kVm2 dcm2 pmm2 anm2 cdm2 ctm2), slm2⟩)
    (cm2 : PySem.W.codeIn K cdm2 "Room.places" = true)
    (km2 : PySem.W.keepIn K (.ref fm2) = true)
    (am3 : PySem.W.findIn K (.ref C) "dimension" = some (some (.ref prm3)))
    (gm3 : PySem.W.specialIn K (.ref prm3) "__get__" = some (some (.builtin "property.__get__")))
    (um3 : PySem.W.takesIn K (.ref prm3) = some true)
    (rm3 : PySem.W.recIn K prm3 "property" = some (.ref fm3 :: rem3))
    (lm3 : K.lookup fm3 = some ⟨ocm3, odm3, .func (PySem.W.fnOf "dimension" "Room.dimension" (defArgs s_Room_dimension) (defBody s_Room_dimension) (defScope s_Room_dimension) .none kVm3 dcm3 pmm3 anm3 cdm3 ctm3), slm3⟩)
    (cm3 : PySem.W.codeIn K cdm3 "Room.dimension" = true)
    (km3 : PySem.W.keepIn K (.ref fm3) = true)
    (am4 : PySem.W.findIn K (.ref C) "basis" = some (some (.ref fm4)))
    (im4 : PySem.W.isFn K (.ref fm4) = true)
    (lm4 : K.lookup fm4 = some ⟨ocm4, odm4, .func (PySem.W.fnOf "basis" "Room.basis" (defArgs s_Room_basis) (defBody s_Room_basis) (defScope s_Room_basis) .none kVm4 dcm4 pmm4 anm4 cdm4 ctm4), slm4⟩)
    (cm4 : PySem.W.codeIn K cdm4 "Room.basis" = true)
    (km4 : PySem.W.keepIn K (.ref fm4) = true)
    (am5 : PySem.W.findIn K (.ref C) "has" = some (some (.ref fm5)))
    (im5 : PySem.W.isFn K (.ref fm5) = true)
    (lm5 : K.lookup fm5 = some ⟨ocm5, odm5, .func (PySem.W.fnOf "has" "Room.has" (defArgs s_Room_has) (defBody s_Room_has) (defScope s_Room_has) .none kVm5 dcm5 pmm5 anm5 cdm5 ctm5), slm5⟩)
    (cm5 : PySem.W.codeIn K cdm5 "Room.has" = true)
    (km5 : PySem.W.keepIn K (.ref fm5) = true)
    (am6 : PySem.W.findIn K (.ref C) "words" = some (some (.ref fm6)))
    (im6 : PySem.W.isFn K (.ref fm6) = true)
    (lm6 : K.lookup fm6 = some ⟨ocm6, odm6, .func (PySem.W.fnOf "words" "Room.words" (defArgs s_Room_words) (defBody s_Room_words) (defScope s_Room_words) .none kVm6 dcm6 pmm6 anm6 cdm6 ctm6), slm6⟩)
    (cm6 : PySem.W.codeIn K cdm6 "Room.words" = true)
    (km6 : PySem.W.keepIn K (.ref fm6) = true)
    (am7 : PySem.W.findIn K (.ref C) "__eq__" = some (some (.ref fm7)))
    (im7 : PySem.W.isFn K (.ref fm7) = true)
    (lm7 : K.lookup fm7 = some ⟨ocm7, odm7, .func (PySem.W.fnOf "__eq__" "Room.__eq__" (defArgs s_Room___eq__) (defBody s_Room___eq__) (defScope s_Room___eq__) .none kVm7 dcm7 pmm7 anm7 cdm7 ctm7), slm7⟩)
    (cm7 : PySem.W.codeIn K cdm7 "Room.__eq__" = true)
    (km7 : PySem.W.keepIn K (.ref fm7) = true)
    (am8 : PySem.W.findIn K (.ref C) "__repr__" = some (some (.ref fm8)))
    (im8 : PySem.W.isFn K (.ref fm8) = true)
    (lm8 : K.lookup fm8 = some ⟨ocm8, odm8, .func (PySem.W.fnOf "__repr__" "Room.__repr__" (defArgs s_Room___repr__) (defBody s_Room___repr__) (defScope s_Room___repr__) .none kVm8 dcm8 pmm8 anm8 cdm8 ctm8), slm8⟩)
    (cm8 : PySem.W.codeIn K cdm8 "Room.__repr__" = true)
    (km8 : PySem.W.keepIn K (.ref fm8) = true)
    (lT : K.lookup T = some ⟨oT, dT, .seq [Value.int 24 tT].toArray nT, sT⟩)
    (v_MOST_DIMENSION : PySem.W.nsIn K mainGlobals "MOST_DIMENSION" = some (some (.int 8 t_MOST_DIMENSION)))
    (v_MOST_PLACES : PySem.W.nsIn K mainGlobals "MOST_PLACES" = some (some (.int 24 t_MOST_PLACES)))
    (v_MOST_WORDS : PySem.W.nsIn K mainGlobals "MOST_WORDS" = some (some (.int 48 t_MOST_WORDS)))
    (z_abs : PySem.W.nsIn K mainGlobals "abs" = some none)
    (z_all : PySem.W.nsIn K mainGlobals "all" = some none)
    (z_bool : PySem.W.nsIn K mainGlobals "bool" = some none)
    (z_divmod : PySem.W.nsIn K mainGlobals "divmod" = some none)
    (z_enumerate : PySem.W.nsIn K mainGlobals "enumerate" = some none)
    (z_int : PySem.W.nsIn K mainGlobals "int" = some none)
    (z_isinstance : PySem.W.nsIn K mainGlobals "isinstance" = some none)
    (z_len : PySem.W.nsIn K mainGlobals "len" = some none)
    (z_list : PySem.W.nsIn K mainGlobals "list" = some none)
    (z_max : PySem.W.nsIn K mainGlobals "max" = some none)
    (z_min : PySem.W.nsIn K mainGlobals "min" = some none)
    (z_range : PySem.W.nsIn K mainGlobals "range" = some none)
    (z_set : PySem.W.nsIn K mainGlobals "set" = some none)
    (z_sorted : PySem.W.nsIn K mainGlobals "sorted" = some none)
    (z_sum : PySem.W.nsIn K mainGlobals "sum" = some none)
    (z_tuple : PySem.W.nsIn K mainGlobals "tuple" = some none)
    (z_zip : PySem.W.nsIn K mainGlobals "zip" = some none)
    (pg : PySem.W.plainGet K C Str.empty = true)
    (hd : PySem.W.hasDictIn K C = true)
    (po : PySem.W.plainOver K C = true)
    (sa : PySem.W.findIn K (.ref C) "__setattr__" = some (some (.builtin "object.__setattr__")))
    (mk : PySem.W.makesIn K C = true)
    (kc : PySem.W.keepIn K (.ref C) = true)
    (nP : PySem.W.findIn K (.ref C) "_places" = some none)
    (nB : PySem.W.findIn K (.ref C) "_basis" = some none)
    (ca : PySem.W.findIn K (.ref C) "__class__" = some (some (.builtin "object.__class__")))
    (cn : PySem.W.specialIn K (.builtin "object.__class__") "__get__" = some (some (.builtin "getset_descriptor.__get__")))
    (ct : PySem.W.takesIn K (.builtin "object.__class__") = some true)
    (cm : PySem.W.mroIn K C (.type "object") = some true)
    (ne : PySem.W.findIn K (.ref C) "__ne__" = some (some (.builtin "object.__ne__")))
    : ∃ fd : FuncData, (∀ (s : Shared) (v : Value), BindsTo s fd ⟨[v], []⟩ [("_law_script", v)]) ∧ ∀ base : Heap, K.In base → base.Ns mainGlobals mg → GnOk l.prog w K mg base 11 fa fd ["_law_script"] (sp_law K) := by
  have e := hfa.symm.trans (PySem.W.mg_of X G a45)
  cases e
  have F1 := fun_mk (st := s_is_integer) l1 c1 k1
  have b1 := F1.binds (ps := ["value"]) fun _ _ _ _ _ _ us hl => match us, hl with | [_], _ => rfl
  have g1 := PySem.W.mg_of X G a1
  have F2 := fun_mk (st := s_is_count) l2 c2 k2
  have b2 := F2.binds (ps := ["value"]) fun _ _ _ _ _ _ us hl => match us, hl with | [_], _ => rfl
  have g2 := PySem.W.mg_of X G a2
  have F3 := fun_mk (st := s_is_list) l3 c3 k3
  have b3 := F3.binds (ps := ["value"]) fun _ _ _ _ _ _ us hl => match us, hl with | [_], _ => rfl
  have g3 := PySem.W.mg_of X G a3
  have F4 := fun_mk (st := s_is_places) l4 c4 k4
  have b4 := F4.binds (ps := ["value"]) fun _ _ _ _ _ _ us hl => match us, hl with | [_], _ => rfl
  have g4 := PySem.W.mg_of X G a4
  have F5 := fun_mk (st := s_check_places) l5 c5 k5
  have b5 := F5.binds (ps := ["places"]) fun _ _ _ _ _ _ us hl => match us, hl with | [_], _ => rfl
  have g5 := PySem.W.mg_of X G a5
  have F6 := fun_mk (st := s_is_word) l6 c6 k6
  have b6 := F6.binds (ps := ["places", "value"]) fun _ _ _ _ _ _ us hl => match us, hl with | [_, _], _ => rfl
  have g6 := PySem.W.mg_of X G a6
  have F7 : FunD K "check_word" "check_word" (defArgs s_check_word) (defBody s_check_word) (defScope s_check_word) [.int 24] [] f7 _ := ⟨⟨_, _, _, _, _, _, _, _, _, _, rfl, l7, c7, .inr ⟨by simp, T, _, _, _, rfl, lT, rfl, .cons ⟨_, rfl⟩ .nil⟩, .inl rfl⟩, k7⟩
  obtain ⟨ds7, hv7, b7⟩ := F7.binds1 (ps := ["word", "places"]) 2 1 (by simp) rfl fun _ _ _ _ _ _ _ us its h1 h2 => match us, its, h1, h2 with | [_, _], [_], _, _ => ⟨_, rfl, rfl⟩
  obtain ⟨es7, hw7, c1b7⟩ := F7.binds1 (ps := ["word", "places"]) 1 0 (by simp) rfl fun _ _ _ _ _ _ _ us its h1 h2 => match us, its, h1, h2 with | [_], [_], _, _ => ⟨_, rfl, rfl⟩
  have g7 := PySem.W.mg_of X G a7
  have F8 := fun_mk (st := s_weight) l8 c8 k8
  have b8 := F8.binds (ps := ["word"]) fun _ _ _ _ _ _ us hl => match us, hl with | [_], _ => rfl
  have g8 := PySem.W.mg_of X G a8
  have F9 := fun_mk (st := s_places_of) l9 c9 k9
  have b9 := F9.binds (ps := ["word"]) fun _ _ _ _ _ _ us hl => match us, hl with | [_], _ => rfl
  have g9 := PySem.W.mg_of X G a9
  have F10 := fun_mk (st := s_are_spots) l10 c10 k10
  have b10 := F10.binds (ps := ["places", "value"]) fun _ _ _ _ _ _ us hl => match us, hl with | [_, _], _ => rfl
  have g10 := PySem.W.mg_of X G a10
  have F11 := fun_mk (st := s_is_sequence) l11 c11 k11
  have b11 := F11.binds (ps := ["places", "value"]) fun _ _ _ _ _ _ us hl => match us, hl with | [_, _], _ => rfl
  have g11 := PySem.W.mg_of X G a11
  have F12 := fun_mk (st := s_word_of) l12 c12 k12
  have b12 := F12.binds (ps := ["spots"]) fun _ _ _ _ _ _ us hl => match us, hl with | [_], _ => rfl
  have g12 := PySem.W.mg_of X G a12
  have F13 := fun_mk (st := s_highest) l13 c13 k13
  have b13 := F13.binds (ps := ["word"]) fun _ _ _ _ _ _ us hl => match us, hl with | [_], _ => rfl
  have g13 := PySem.W.mg_of X G a13
  have F14 := fun_mk (st := s_rest_of) l14 c14 k14
  have b14 := F14.binds (ps := ["word", "basis"]) fun _ _ _ _ _ _ us hl => match us, hl with | [_, _], _ => rfl
  have g14 := PySem.W.mg_of X G a14
  have F15 := fun_mk (st := s_put_in) l15 c15 k15
  have b15 := F15.binds (ps := ["rest", "basis"]) fun _ _ _ _ _ _ us hl => match us, hl with | [_, _], _ => rfl
  have g15 := PySem.W.mg_of X G a15
  have F16 := fun_mk (st := s_plain_basis) l16 c16 k16
  have b16 := F16.binds (ps := ["words"]) fun _ _ _ _ _ _ us hl => match us, hl with | [_], _ => rfl
  have g16 := PySem.W.mg_of X G a16
  have F17 := fun_mk (st := s_sums_of) l17 c17 k17
  have b17 := F17.binds (ps := ["basis"]) fun _ _ _ _ _ _ us hl => match us, hl with | [_], _ => rfl
  have g17 := PySem.W.mg_of X G a17
  have F18 := fun_mk (st := s_check_words) l18 c18 k18
  have b18 := F18.binds (ps := ["places", "words"]) fun _ _ _ _ _ _ us hl => match us, hl with | [_, _], _ => rfl
  have g18 := PySem.W.mg_of X G a18
  have F19 := fun_mk (st := s_check_room) l19 c19 k19
  have b19 := F19.binds (ps := ["room"]) fun _ _ _ _ _ _ us hl => match us, hl with | [_], _ => rfl
  have g19 := PySem.W.mg_of X G a19
  have F20 := fun_mk (st := s_check_two) l20 c20 k20
  have b20 := F20.binds (ps := ["room", "other"]) fun _ _ _ _ _ _ us hl => match us, hl with | [_, _], _ => rfl
  have g20 := PySem.W.mg_of X G a20
  have F21 := fun_mk (st := s_even_word) l21 c21 k21
  have b21 := F21.binds (ps := ["unit", "basis"]) fun _ _ _ _ _ _ us hl => match us, hl with | [_, _], _ => rfl
  have g21 := PySem.W.mg_of X G a21
  have F22 := fun_mk (st := s_contrary) l22 c22 k22
  have b22 := F22.binds (ps := ["room"]) fun _ _ _ _ _ _ us hl => match us, hl with | [_], _ => rfl
  have g22 := PySem.W.mg_of X G a22
  have F23 := fun_mk (st := s_is_power_of_2) l23 c23 k23
  have b23 := F23.binds (ps := ["number"]) fun _ _ _ _ _ _ us hl => match us, hl with | [_], _ => rfl
  have g23 := PySem.W.mg_of X G a23
  have F24 := fun_mk (st := s_is_row) l24 c24 k24
  have b24 := F24.binds (ps := ["value"]) fun _ _ _ _ _ _ us hl => match us, hl with | [_], _ => rfl
  have g24 := PySem.W.mg_of X G a24
  have F25 := fun_mk (st := s_check_row) l25 c25 k25
  have b25 := F25.binds (ps := ["row"]) fun _ _ _ _ _ _ us hl => match us, hl with | [_], _ => rfl
  have g25 := PySem.W.mg_of X G a25
  have F26 := fun_mk (st := s_entries) l26 c26 k26
  have b26 := F26.binds (ps := ["places", "second"]) fun _ _ _ _ _ _ us hl => match us, hl with | [_, _], _ => rfl
  have g26 := PySem.W.mg_of X G a26
  have F27 := fun_mk (st := s_changed_sums) l27 c27 k27
  have b27 := F27.binds (ps := ["row"]) fun _ _ _ _ _ _ us hl => match us, hl with | [_], _ => rfl
  have g27 := PySem.W.mg_of X G a27
  have F28 := fun_mk (st := s_changed) l28 c28 k28
  have b28 := F28.binds (ps := ["row"]) fun _ _ _ _ _ _ us hl => match us, hl with | [_], _ => rfl
  have g28 := PySem.W.mg_of X G a28
  have F29 := fun_mk (st := s_counted_weights) l29 c29 k29
  have b29 := F29.binds (ps := ["places", "words"]) fun _ _ _ _ _ _ us hl => match us, hl with | [_, _], _ => rfl
  have g29 := PySem.W.mg_of X G a29
  have F30 := fun_mk (st := s_counted) l30 c30 k30
  have b30 := F30.binds (ps := ["room"]) fun _ _ _ _ _ _ us hl => match us, hl with | [_], _ => rfl
  have g30 := PySem.W.mg_of X G a30
  have F31 := fun_mk (st := s_row) l31 c31 k31
  have b31 := F31.binds (ps := ["room"]) fun _ _ _ _ _ _ us hl => match us, hl with | [_], _ => rfl
  have g31 := PySem.W.mg_of X G a31
  have F32 := fun_mk (st := s_lower_room) l32 c32 k32
  have b32 := F32.binds (ps := ["places", "doubled"]) fun _ _ _ _ _ _ us hl => match us, hl with | [_, _], _ => rfl
  have g32 := PySem.W.mg_of X G a32
  have F33 := fun_mk (st := s_sum_room) l33 c33 k33
  have b33 := F33.binds (ps := ["room", "other"]) fun _ _ _ _ _ _ us hl => match us, hl with | [_, _], _ => rfl
  have g33 := PySem.W.mg_of X G a33
  have F34 := fun_mk (st := s_common_room) l34 c34 k34
  have b34 := F34.binds (ps := ["room", "other"]) fun _ _ _ _ _ _ us hl => match us, hl with | [_, _], _ => rfl
  have g34 := PySem.W.mg_of X G a34
  have F35 := fun_mk (st := s_beside) l35 c35 k35
  have b35 := F35.binds (ps := ["room", "other"]) fun _ _ _ _ _ _ us hl => match us, hl with | [_, _], _ => rfl
  have g35 := PySem.W.mg_of X G a35
  have F36 := fun_mk (st := s_led) l36 c36 k36
  have b36 := F36.binds (ps := ["word", "sequence"]) fun _ _ _ _ _ _ us hl => match us, hl with | [_, _], _ => rfl
  have g36 := PySem.W.mg_of X G a36
  have F37 := fun_mk (st := s_exchanged) l37 c37 k37
  have b37 := F37.binds (ps := ["room", "sequence"]) fun _ _ _ _ _ _ us hl => match us, hl with | [_, _], _ => rfl
  have g37 := PySem.W.mg_of X G a37
  have F38 := fun_mk (st := s_law_pot) l38 c38 k38
  have b38 := F38.binds (ps := ["_law_script", "_law_k"]) fun _ _ _ _ _ _ us hl => match us, hl with | [_, _], _ => rfl
  have g38 := PySem.W.mg_of X G a38
  have F39 := fun_mk (st := s_law_draw) l39 c39 k39
  have b39 := F39.binds (ps := ["_law_pot_here", "_law_size"]) fun _ _ _ _ _ _ us hl => match us, hl with | [_, _], _ => rfl
  have g39 := PySem.W.mg_of X G a39
  have F40 := fun_mk (st := s_law_weight) l40 c40 k40
  have b40 := F40.binds (ps := ["_law_word"]) fun _ _ _ _ _ _ us hl => match us, hl with | [_], _ => rfl
  have g40 := PySem.W.mg_of X G a40
  have F41 := fun_mk (st := s_law_words) l41 c41 k41
  have b41 := F41.binds (ps := ["_law_pot_here", "_law_places", "_law_many"]) fun _ _ _ _ _ _ us hl => match us, hl with | [_, _, _], _ => rfl
  have g41 := PySem.W.mg_of X G a41
  have F42 := fun_mk (st := s_law_sequence) l42 c42 k42
  have b42 := F42.binds (ps := ["_law_pot_here", "_law_places"]) fun _ _ _ _ _ _ us hl => match us, hl with | [_, _], _ => rfl
  have g42 := PySem.W.mg_of X G a42
  have F43 := fun_mk (st := s_law_times) l43 c43 k43
  have b43 := F43.binds (ps := ["_law_one", "_law_other"]) fun _ _ _ _ _ _ us hl => match us, hl with | [_, _], _ => rfl
  have g43 := PySem.W.mg_of X G a43
  have F44 := fun_mk (st := s_law_right) l44 c44 k44
  have b44 := F44.binds (ps := ["_law_pot_here"]) fun _ _ _ _ _ _ us hl => match us, hl with | [_], _ => rfl
  have g44 := PySem.W.mg_of X G a44
  have F45 := fun_mk (st := s_law) l45 c45 k45
  have b45 := F45.binds (ps := ["_law_script"]) fun _ _ _ _ _ _ us hl => match us, hl with | [_], _ => rfl
  have g45 := PySem.W.mg_of X G a45
  have Fm1 := fun_mk (st := s_Room___init__) lm1 cm1 km1
  have bm1 := Fm1.binds (ps := ["self", "places", "words"]) fun _ _ _ _ _ _ us hl => match us, hl with | [_, _, _], _ => rfl
  have Fm2 := fun_mk (st := s_Room_places) lm2 cm2 km2
  have bm2 := Fm2.binds (ps := ["self"]) fun _ _ _ _ _ _ us hl => match us, hl with | [_], _ => rfl
  have Fm3 := fun_mk (st := s_Room_dimension) lm3 cm3 km3
  have bm3 := Fm3.binds (ps := ["self"]) fun _ _ _ _ _ _ us hl => match us, hl with | [_], _ => rfl
  have Fm4 := fun_mk (st := s_Room_basis) lm4 cm4 km4
  have bm4 := Fm4.binds (ps := ["self"]) fun _ _ _ _ _ _ us hl => match us, hl with | [_], _ => rfl
  have Fm5 := fun_mk (st := s_Room_has) lm5 cm5 km5
  have bm5 := Fm5.binds (ps := ["self", "word"]) fun _ _ _ _ _ _ us hl => match us, hl with | [_, _], _ => rfl
  have Fm6 := fun_mk (st := s_Room_words) lm6 cm6 km6
  have bm6 := Fm6.binds (ps := ["self"]) fun _ _ _ _ _ _ us hl => match us, hl with | [_], _ => rfl
  have Fm7 := fun_mk (st := s_Room___eq__) lm7 cm7 km7
  have bm7 := Fm7.binds (ps := ["self", "other"]) fun _ _ _ _ _ _ us hl => match us, hl with | [_, _], _ => rfl
  have Fm8 := fun_mk (st := s_Room___repr__) lm8 cm8 km8
  have bm8 := Fm8.binds (ps := ["self"]) fun _ _ _ _ _ _ us hl => match us, hl with | [_], _ => rfl
  have m_abs := PySem.W.mg_none_of X G z_abs
  have m_all := PySem.W.mg_none_of X G z_all
  have m_bool := PySem.W.mg_none_of X G z_bool
  have m_divmod := PySem.W.mg_none_of X G z_divmod
  have m_enumerate := PySem.W.mg_none_of X G z_enumerate
  have m_int := PySem.W.mg_none_of X G z_int
  have m_isinstance := PySem.W.mg_none_of X G z_isinstance
  have m_len := PySem.W.mg_none_of X G z_len
  have m_list := PySem.W.mg_none_of X G z_list
  have m_max := PySem.W.mg_none_of X G z_max
  have m_min := PySem.W.mg_none_of X G z_min
  have m_range := PySem.W.mg_none_of X G z_range
  have m_set := PySem.W.mg_none_of X G z_set
  have m_sorted := PySem.W.mg_none_of X G z_sorted
  have m_sum := PySem.W.mg_none_of X G z_sum
  have m_tuple := PySem.W.mg_none_of X G z_tuple
  have m_zip := PySem.W.mg_none_of X G z_zip
  have g_MOST_DIMENSION := PySem.W.mg_of X G v_MOST_DIMENSION
  have g_MOST_PLACES := PySem.W.mg_of X G v_MOST_PLACES
  have g_MOST_WORDS := PySem.W.mg_of X G v_MOST_WORDS
  have g_Room := PySem.W.mg_of X G aC
  have RK : RKn K C := ⟨⟨pg, hd, po, sa⟩, nP, nB, ca, cn, ct, cm⟩
  have n_basis : ∀ n b, (rf n b).lookup ("basis" : Str) = none := fun n b => rf_no n b (by decide +kernel) (by decide +kernel)
  have n_words : ∀ n b, (rf n b).lookup ("words" : Str) = none := fun n b => rf_no n b (by decide +kernel) (by decide +kernel)
  have n_has : ∀ n b, (rf n b).lookup ("has" : Str) = none := fun n b => rf_no n b (by decide +kernel) (by decide +kernel)
  refine ⟨PySem.W.fnOf "law" "law" (defArgs s_law) (defBody s_law) (defScope s_law) .none kV45 dc45 pm45 an45 cd45 ct45, fun s v => .of_eq rfl, fun base _ _ => ?_⟩
  have O_is_integer := ok_is_integer (P := l.prog) (w := w) (mg := mg) (base := base) F1 m_isinstance m_int m_bool
  have C_is_integer : Cal l.prog w K mg base "is_integer" 1 ["value"] [] sp_is_integer := ⟨f1, _, [], O_is_integer, g1, k1, b1, .nil⟩
  have O_is_count := ok_is_count (P := l.prog) (w := w) (mg := mg) (base := base) F2 C_is_integer
  have C_is_count : Cal l.prog w K mg base "is_count" 2 ["value"] [] sp_is_count := ⟨f2, _, [], O_is_count, g2, k2, b2, .nil⟩
  have O_is_list := ok_is_list (P := l.prog) (w := w) (mg := mg) (base := base) F3 m_isinstance m_list m_tuple
  have C_is_list : Cal l.prog w K mg base "is_list" 1 ["value"] [] sp_is_list := ⟨f3, _, [], O_is_list, g3, k3, b3, .nil⟩
  have O_is_places := ok_is_places (P := l.prog) (w := w) (mg := mg) (base := base) F4 C_is_integer g_MOST_PLACES
  have C_is_places : Cal l.prog w K mg base "is_places" 2 ["value"] [] sp_is_places := ⟨f4, _, [], O_is_places, g4, k4, b4, .nil⟩
  have O_check_places := ok_check_places (P := l.prog) (w := w) (mg := mg) (base := base) F5 C_is_places
  have C_check_places : Cal l.prog w K mg base "check_places" 3 ["places"] [] sp_check_places := ⟨f5, _, [], O_check_places, g5, k5, b5, .nil⟩
  have O_is_word := ok_is_word (P := l.prog) (w := w) (mg := mg) (base := base) F6 C_check_places C_is_count
  have C_is_word : Cal l.prog w K mg base "is_word" 4 ["places", "value"] [] sp_is_word := ⟨f6, _, [], O_is_word, g6, k6, b6, .nil⟩
  have O_check_word := ok_check_word (P := l.prog) (w := w) (mg := mg) (base := base) F7 C_is_word
  have C_check_word : Cal l.prog w K mg base "check_word" 5 ["word", "places"] [] sp_check_word := ⟨f7, _, ds7, O_check_word, g7, k7, b7, hv7⟩
  have C1_check_word : Cal l.prog w K mg base "check_word" 5 ["word", "places"] [.int 24] sp_check_word := ⟨f7, _, es7, O_check_word, g7, k7, c1b7, hw7⟩
  have O_weight := ok_weight (P := l.prog) (w := w) (mg := mg) (base := base) F8 C1_check_word
  have C_weight : Cal l.prog w K mg base "weight" 6 ["word"] [] sp_weight := ⟨f8, _, [], O_weight, g8, k8, b8, .nil⟩
  have O_places_of := ok_places_of (P := l.prog) (w := w) (mg := mg) (base := base) F9 C1_check_word g_MOST_PLACES m_range
  have C_places_of : Cal l.prog w K mg base "places_of" 6 ["word"] [] sp_places_of := ⟨f9, _, [], O_places_of, g9, k9, b9, .nil⟩
  have O_are_spots := ok_are_spots (P := l.prog) (w := w) (mg := mg) (base := base) F10 C_is_list C_is_count m_all m_len m_set
  have C_are_spots : Cal l.prog w K mg base "are_spots" 3 ["places", "value"] [] sp_are_spots := ⟨f10, _, [], O_are_spots, g10, k10, b10, .nil⟩
  have O_is_sequence := ok_is_sequence (P := l.prog) (w := w) (mg := mg) (base := base) F11 C_are_spots m_len
  have C_is_sequence : Cal l.prog w K mg base "is_sequence" 4 ["places", "value"] [] sp_is_seq := ⟨f11, _, [], O_is_sequence, g11, k11, b11, .nil⟩
  have O_word_of := ok_word_of (P := l.prog) (w := w) (mg := mg) (base := base) F12 C_are_spots g_MOST_PLACES m_sum
  have C_word_of : Cal l.prog w K mg base "word_of" 4 ["spots"] [] sp_word_of := ⟨f12, _, [], O_word_of, g12, k12, b12, .nil⟩
  have O_highest := ok_highest (P := l.prog) (w := w) (mg := mg) (base := base) F13
  have C_highest : Cal l.prog w K mg base "highest" 1 ["word"] [] sp_highest := ⟨f13, _, [], O_highest, g13, k13, b13, .nil⟩
  have O_rest_of := ok_rest_of (P := l.prog) (w := w) (mg := mg) (base := base) F14 C_highest
  have C_rest_of : Cal l.prog w K mg base "rest_of" 2 ["word", "basis"] [] sp_rest_of := ⟨f14, _, [], O_rest_of, g14, k14, b14, .nil⟩
  have O_put_in := ok_put_in (P := l.prog) (w := w) (mg := mg) (base := base) F15 C_highest m_sorted
  have C_put_in : Cal l.prog w K mg base "put_in" 2 ["rest", "basis"] [] sp_put_in := ⟨f15, _, [], O_put_in, g15, k15, b15, .nil⟩
  have O_plain_basis := ok_plain_basis (P := l.prog) (w := w) (mg := mg) (base := base) F16 C_rest_of C_put_in
  have C_plain_basis : Cal l.prog w K mg base "plain_basis" 3 ["words"] [] sp_plain_basis := ⟨f16, _, [], O_plain_basis, g16, k16, b16, .nil⟩
  have O_sums_of := ok_sums_of (P := l.prog) (w := w) (mg := mg) (base := base) F17 m_sorted
  have C_sums_of : Cal l.prog w K mg base "sums_of" 1 ["basis"] [] sp_sums_of := ⟨f17, _, [], O_sums_of, g17, k17, b17, .nil⟩
  have O_check_words := ok_check_words (P := l.prog) (w := w) (mg := mg) (base := base) F18 C_is_list C_is_word g_MOST_WORDS m_len m_enumerate
  have C_check_words : Cal l.prog w K mg base "check_words" 5 ["places", "words"] [] sp_check_words := ⟨f18, _, [], O_check_words, g18, k18, b18, .nil⟩
  have O_init := ok_init (P := l.prog) (w := w) (mg := mg) (base := base) Fm1 RK C_check_places C_check_words C_plain_basis
  have MM : Mk K C fm1 := ⟨mk, am1, im1, kc⟩
  have MK_Room : MakC l.prog w K mg base C "Room" 6 ["self", "places", "words"] (sp_init C) := ⟨fm1, _, O_init, MM, g_Room, bm1⟩
  have O_places := ok_places (P := l.prog) (w := w) (mg := mg) (base := base) Fm2 RK
  have P_places : PrpC l.prog w K mg base C "places" 1 (sp_places C) := ⟨prm2, fm2, _, O_places, ⟨am2, gm2, um2, ⟨_, rm2⟩⟩, bm2, RK.cl⟩
  have O_dimension := ok_dimension (P := l.prog) (w := w) (mg := mg) (base := base) Fm3 RK m_len
  have P_dimension : PrpC l.prog w K mg base C "dimension" 1 (sp_dimension C) := ⟨prm3, fm3, _, O_dimension, ⟨am3, gm3, um3, ⟨_, rm3⟩⟩, bm3, RK.cl⟩
  have O_basis := ok_basis (P := l.prog) (w := w) (mg := mg) (base := base) Fm4 RK m_list
  have M_basis : MthC l.prog w K mg base C "basis" 1 ["self"] (sp_basis C) := ⟨fm4, _, O_basis, ⟨am4, im4, km4⟩, bm4, RK.cl⟩
  have O_has := ok_has (P := l.prog) (w := w) (mg := mg) (base := base) Fm5 RK C_check_word C_rest_of
  have M_has : MthC l.prog w K mg base C "has" 6 ["self", "word"] (sp_has C) := ⟨fm5, _, O_has, ⟨am5, im5, km5⟩, bm5, RK.cl⟩
  have O_words := ok_words (P := l.prog) (w := w) (mg := mg) (base := base) Fm6 RK C_sums_of g_MOST_DIMENSION m_len
  have M_words : MthC l.prog w K mg base C "words" 2 ["self"] (sp_words C) := ⟨fm6, _, O_words, ⟨am6, im6, km6⟩, bm6, RK.cl⟩
  have O_eq := ok_eq (P := l.prog) (w := w) (mg := mg) (base := base) Fm7 RK g_Room m_isinstance
  have EC_Room : EqC l.prog w K mg base C 1 (sp_eq K C) := ⟨fm7, _, O_eq, am7, im7, bm7, ne, cm⟩
  have O_repr := ok_repr (P := l.prog) (w := w) (mg := mg) (base := base) Fm8 RK
  have O_check_room := ok_check_room (P := l.prog) (w := w) (mg := mg) (base := base) F19 RK g_Room m_isinstance
  have C_check_room : Cal l.prog w K mg base "check_room" 1 ["room"] [] (sp_check_room C) := ⟨f19, _, [], O_check_room, g19, k19, b19, .nil⟩
  have O_check_two := ok_check_two (P := l.prog) (w := w) (mg := mg) (base := base) F20 C_check_room P_places
  have C_check_two : Cal l.prog w K mg base "check_two" 3 ["room", "other"] [] (sp_check_two C) := ⟨f20, _, [], O_check_two, g20, k20, b20, .nil⟩
  have O_even_word := ok_even_word (P := l.prog) (w := w) (mg := mg) (base := base) F21 C_highest
  have C_even_word : Cal l.prog w K mg base "even_word" 2 ["unit", "basis"] [] sp_even_word := ⟨f21, _, [], O_even_word, g21, k21, b21, .nil⟩
  have O_contrary := ok_contrary (P := l.prog) (w := w) (mg := mg) (base := base) F22 C_check_room C_even_word MK_Room M_basis P_places m_range n_basis
  have C_contrary : Cal l.prog w K mg base "contrary" 8 ["room"] [] (sp_contrary C) := ⟨f22, _, [], O_contrary, g22, k22, b22, .nil⟩
  have O_is_power_of_2 := ok_is_power_of_2 (P := l.prog) (w := w) (mg := mg) (base := base) F23
  have C_is_power_of_2 : Cal l.prog w K mg base "is_power_of_2" 1 ["number"] [] sp_pow2 := ⟨f23, _, [], O_is_power_of_2, g23, k23, b23, .nil⟩
  have O_is_row := ok_is_row (P := l.prog) (w := w) (mg := mg) (base := base) F24 C_is_count C_is_list C_is_power_of_2 g_MOST_PLACES m_all m_len m_sum
  have C_is_row : Cal l.prog w K mg base "is_row" 3 ["value"] [] sp_is_row := ⟨f24, _, [], O_is_row, g24, k24, b24, .nil⟩
  have O_check_row := ok_check_row (P := l.prog) (w := w) (mg := mg) (base := base) F25 C_is_row
  have C_check_row : Cal l.prog w K mg base "check_row" 4 ["row"] [] sp_check_row := ⟨f25, _, [], O_check_row, g25, k25, b25, .nil⟩
  have O_entries := ok_entries (P := l.prog) (w := w) (mg := mg) (base := base) F26 m_range m_zip
  have C_entries : Cal l.prog w K mg base "entries" 1 ["places", "second"] [] sp_entries := ⟨f26, _, [], O_entries, g26, k26, b26, .nil⟩
  have O_changed_sums := ok_changed_sums (P := l.prog) (w := w) (mg := mg) (base := base) F27 C_entries m_enumerate m_len m_zip
  have C_changed_sums : Cal l.prog w K mg base "changed_sums" 2 ["row"] [] sp_changed_sums := ⟨f27, _, [], O_changed_sums, g27, k27, b27, .nil⟩
  have O_changed := ok_changed (P := l.prog) (w := w) (mg := mg) (base := base) F28 C_changed_sums C_check_row m_enumerate m_sum
  have C_changed : Cal l.prog w K mg base "changed" 5 ["row"] [] sp_changed := ⟨f28, _, [], O_changed, g28, k28, b28, .nil⟩
  have O_counted_weights := ok_counted_weights (P := l.prog) (w := w) (mg := mg) (base := base) F29 C_weight
  have C_counted_weights : Cal l.prog w K mg base "counted_weights" 7 ["places", "words"] [] sp_counted_weights := ⟨f29, _, [], O_counted_weights, g29, k29, b29, .nil⟩
  have O_counted := ok_counted (P := l.prog) (w := w) (mg := mg) (base := base) F30 C_counted_weights C_sums_of M_basis P_places n_basis
  have C_counted : Cal l.prog w K mg base "counted" 8 ["room"] [] (sp_counted C) := ⟨f30, _, [], O_counted, g30, k30, b30, .nil⟩
  have O_row := ok_row (P := l.prog) (w := w) (mg := mg) (base := base) F31 C_changed C_check_room C_contrary C_counted P_dimension P_places
  have C_row : Cal l.prog w K mg base "row" 9 ["room"] [] (sp_row C) := ⟨f31, _, [], O_row, g31, k31, b31, .nil⟩
  have K_row_room : CalK l.prog w K mg base "row" 9 ["room"] ["room"] kw1 (sp_row C) := by
    exact ⟨f31, _, fun us ws => ws, O_row, g31, k31, ⟨fun s us ws X h1 h2 => match us, ws, h1, h2 with | [], [_], _, _ => .of_eq rfl, fun r1 r2 => r2⟩⟩
  have O_lower_room := ok_lower_room (P := l.prog) (w := w) (mg := mg) (base := base) F32 C_plain_basis MK_Room
  have C_lower_room : Cal l.prog w K mg base "lower_room" 8 ["places", "doubled"] [] (sp_lower_room C) := ⟨f32, _, [], O_lower_room, g32, k32, b32, .nil⟩
  have O_sum_room := ok_sum_room (P := l.prog) (w := w) (mg := mg) (base := base) F33 C_check_two MK_Room M_basis P_places n_basis
  have C_sum_room : Cal l.prog w K mg base "sum_room" 8 ["room", "other"] [] (sp_sum_room C) := ⟨f33, _, [], O_sum_room, g33, k33, b33, .nil⟩
  have O_common_room := ok_common_room (P := l.prog) (w := w) (mg := mg) (base := base) F34 C_check_two C_lower_room M_basis P_places n_basis
  have C_common_room : Cal l.prog w K mg base "common_room" 9 ["room", "other"] [] (sp_common_room C) := ⟨f34, _, [], O_common_room, g34, k34, b34, .nil⟩
  have O_beside := ok_beside (P := l.prog) (w := w) (mg := mg) (base := base) F35 C_check_room MK_Room M_basis P_places g_MOST_PLACES n_basis
  have C_beside : Cal l.prog w K mg base "beside" 8 ["room", "other"] [] (sp_beside C) := ⟨f35, _, [], O_beside, g35, k35, b35, .nil⟩
  have O_led := ok_led (P := l.prog) (w := w) (mg := mg) (base := base) F36 C_places_of C_word_of
  have C_led : Cal l.prog w K mg base "led" 7 ["word", "sequence"] [] sp_led := ⟨f36, _, [], O_led, g36, k36, b36, .nil⟩
  have O_exchanged := ok_exchanged (P := l.prog) (w := w) (mg := mg) (base := base) F37 C_check_room C_is_sequence C_led MK_Room M_basis P_places n_basis
  have C_exchanged : Cal l.prog w K mg base "exchanged" 8 ["room", "sequence"] [] (sp_exchanged C) := ⟨f37, _, [], O_exchanged, g37, k37, b37, .nil⟩
  have O_law_pot := ok_law_pot (P := l.prog) (w := w) (mg := mg) (base := base) F38 m_len m_abs m_max m_int
  have C_law_pot : Cal l.prog w K mg base "_law_pot" 1 ["_law_script", "_law_k"] [] (sp_pot K) := ⟨f38, _, [], O_law_pot, g38, k38, b38, .nil⟩
  have O_law_draw := ok_law_draw (P := l.prog) (w := w) (mg := mg) (base := base) F39 m_divmod m_int
  have C_law_draw : Cal l.prog w K mg base "_law_draw" 1 ["_law_pot_here", "_law_size"] [] sp_draw := ⟨f39, _, [], O_law_draw, g39, k39, b39, .nil⟩
  have O_law_weight := ok_law_weight (P := l.prog) (w := w) (mg := mg) (base := base) F40
  have C_law_weight : Cal l.prog w K mg base "_law_weight" 1 ["_law_word"] [] sp_lweight := ⟨f40, _, [], O_law_weight, g40, k40, b40, .nil⟩
  have O_law_words := ok_law_words (P := l.prog) (w := w) (mg := mg) (base := base) F41 C_law_draw C_law_weight m_range
  have C_law_words : Cal l.prog w K mg base "_law_words" 2 ["_law_pot_here", "_law_places", "_law_many"] [] sp_lwordsE := ⟨f41, _, [], O_law_words, g41, k41, b41, .nil⟩
  have O_law_sequence := ok_law_sequence (P := l.prog) (w := w) (mg := mg) (base := base) F42 C_law_draw m_len m_list m_range
  have C_law_sequence : Cal l.prog w K mg base "_law_sequence" 2 ["_law_pot_here", "_law_places"] [] sp_lseq := ⟨f42, _, [], O_law_sequence, g42, k42, b42, .nil⟩
  have O_law_times := ok_law_times (P := l.prog) (w := w) (mg := mg) (base := base) F43 m_enumerate m_len
  have C_law_times : Cal l.prog w K mg base "_law_times" 1 ["_law_one", "_law_other"] [] sp_ltimesN := ⟨f43, _, [], O_law_times, g43, k43, b43, .nil⟩
  have O_law_right := ok_law_right (P := l.prog) (w := w) (mg := mg) (base := base) F44 C_beside C_changed C_common_room C_contrary C_exchanged C_law_draw C_law_sequence C_law_times C_law_words C_row C_sum_room K_row_room MK_Room M_has m_max m_min m_range m_sum n_has
  have C_law_right : CalG l.prog w K mg base "_law_right" 10 ["_law_pot_here"] sp_right := ⟨f44, _, O_law_right, g44, k44, b44⟩
  exact ok_law F45 C_law_pot C_law_right m_len m_max m_min m_range
section
end
end K39

open PySem PySem.W PyProof.Rows
set_option Elab.async false
set_option maxRecDepth 100000 in
set_option maxHeartbeats 0 in
theorem PySem.Challenge.cw_owncontraries_k39_whole_rows_beside_and_holds : PySem.Challenge.rw_owncontraries_k39_whole_rows_beside_and.Holds := by
  w_on; o_law; k_head; (case hw => w_witness2)
  k_fill
  refine Vf.walk_gn (l := PySem.Challenge.rw_owncontraries_k39_whole_rows_beside_and) (n := 63) (k := 11) (x := "_law_script") (sp := fun w => (Vf.sp_law _)) rfl (by decide) rfl ⟨rfl, by decide, by decide⟩ (fun w h Y => PySem.W.kIn_of Y) ?F (fun _ _ a ns _ _ _ hS => ⟨a, ns, rfl, hS, fun _ => rfl⟩)
  case F =>
    intro w mg fa h KX G hmg
    refine' K39.all_mk KX G hmg ?aC ?a1 ?l1 ?c1 ?k1 ?a2 ?l2 ?c2 ?k2 ?a3 ?l3 ?c3 ?k3 ?a4 ?l4 ?c4 ?k4 ?a5 ?l5 ?c5 ?k5 ?a6 ?l6 ?c6 ?k6 ?a7 ?l7 ?c7 ?k7 ?a8 ?l8 ?c8 ?k8 ?a9 ?l9 ?c9 ?k9 ?a10 ?l10 ?c10 ?k10 ?a11 ?l11 ?c11 ?k11 ?a12 ?l12 ?c12 ?k12 ?a13 ?l13 ?c13 ?k13 ?a14 ?l14 ?c14 ?k14 ?a15 ?l15 ?c15 ?k15 ?a16 ?l16 ?c16 ?k16 ?a17 ?l17 ?c17 ?k17 ?a18 ?l18 ?c18 ?k18 ?a19 ?l19 ?c19 ?k19 ?a20 ?l20 ?c20 ?k20 ?a21 ?l21 ?c21 ?k21 ?a22 ?l22 ?c22 ?k22 ?a23 ?l23 ?c23 ?k23 ?a24 ?l24 ?c24 ?k24 ?a25 ?l25 ?c25 ?k25 ?a26 ?l26 ?c26 ?k26 ?a27 ?l27 ?c27 ?k27 ?a28 ?l28 ?c28 ?k28 ?a29 ?l29 ?c29 ?k29 ?a30 ?l30 ?c30 ?k30 ?a31 ?l31 ?c31 ?k31 ?a32 ?l32 ?c32 ?k32 ?a33 ?l33 ?c33 ?k33 ?a34 ?l34 ?c34 ?k34 ?a35 ?l35 ?c35 ?k35 ?a36 ?l36 ?c36 ?k36 ?a37 ?l37 ?c37 ?k37 ?a38 ?l38 ?c38 ?k38 ?a39 ?l39 ?c39 ?k39 ?a40 ?l40 ?c40 ?k40 ?a41 ?l41 ?c41 ?k41 ?a42 ?l42 ?c42 ?k42 ?a43 ?l43 ?c43 ?k43 ?a44 ?l44 ?c44 ?k44 ?a45 ?l45 ?c45 ?k45 ?am1 ?im1 ?lm1 ?cm1 ?km1 ?am2 ?gm2 ?um2 ?rm2 ?lm2 ?cm2 ?km2 ?am3 ?gm3 ?um3 ?rm3 ?lm3 ?cm3 ?km3 ?am4 ?im4 ?lm4 ?cm4 ?km4 ?am5 ?im5 ?lm5 ?cm5 ?km5 ?am6 ?im6 ?lm6 ?cm6 ?km6 ?am7 ?im7 ?lm7 ?cm7 ?km7 ?am8 ?im8 ?lm8 ?cm8 ?km8 ?lT ?v_MOST_DIMENSION ?v_MOST_PLACES ?v_MOST_WORDS ?z_abs ?z_all ?z_bool ?z_divmod ?z_enumerate ?z_int ?z_isinstance ?z_len ?z_list ?z_max ?z_min ?z_range ?z_set ?z_sorted ?z_sum ?z_tuple ?z_zip ?pg ?hd ?po ?sa ?mk ?kc ?nP ?nB ?ca ?cn ?ct ?cm ?ne
    (case aC => k_is)
    (case a1 => k_is)
    (case l1 => k_is)
    (case c1 => k_is)
    (case k1 => k_is)
    (case a2 => k_is)
    (case l2 => k_is)
    (case c2 => k_is)
    (case k2 => k_is)
    (case a3 => k_is)
    (case l3 => k_is)
    (case c3 => k_is)
    (case k3 => k_is)
    (case a4 => k_is)
    (case l4 => k_is)
    (case c4 => k_is)
    (case k4 => k_is)
    (case a5 => k_is)
    (case l5 => k_is)
    (case c5 => k_is)
    (case k5 => k_is)
    (case a6 => k_is)
    (case l6 => k_is)
    (case c6 => k_is)
    (case k6 => k_is)
    (case a7 => k_is)
    (case l7 => k_is)
    (case c7 => k_is)
    (case k7 => k_is)
    (case a8 => k_is)
    (case l8 => k_is)
    (case c8 => k_is)
    (case k8 => k_is)
    (case a9 => k_is)
    (case l9 => k_is)
    (case c9 => k_is)
    (case k9 => k_is)
    (case a10 => k_is)
    (case l10 => k_is)
    (case c10 => k_is)
    (case k10 => k_is)
    (case a11 => k_is)
    (case l11 => k_is)
    (case c11 => k_is)
    (case k11 => k_is)
    (case a12 => k_is)
    (case l12 => k_is)
    (case c12 => k_is)
    (case k12 => k_is)
    (case a13 => k_is)
    (case l13 => k_is)
    (case c13 => k_is)
    (case k13 => k_is)
    (case a14 => k_is)
    (case l14 => k_is)
    (case c14 => k_is)
    (case k14 => k_is)
    (case a15 => k_is)
    (case l15 => k_is)
    (case c15 => k_is)
    (case k15 => k_is)
    (case a16 => k_is)
    (case l16 => k_is)
    (case c16 => k_is)
    (case k16 => k_is)
    (case a17 => k_is)
    (case l17 => k_is)
    (case c17 => k_is)
    (case k17 => k_is)
    (case a18 => k_is)
    (case l18 => k_is)
    (case c18 => k_is)
    (case k18 => k_is)
    (case a19 => k_is)
    (case l19 => k_is)
    (case c19 => k_is)
    (case k19 => k_is)
    (case a20 => k_is)
    (case l20 => k_is)
    (case c20 => k_is)
    (case k20 => k_is)
    (case a21 => k_is)
    (case l21 => k_is)
    (case c21 => k_is)
    (case k21 => k_is)
    (case a22 => k_is)
    (case l22 => k_is)
    (case c22 => k_is)
    (case k22 => k_is)
    (case a23 => k_is)
    (case l23 => k_is)
    (case c23 => k_is)
    (case k23 => k_is)
    (case a24 => k_is)
    (case l24 => k_is)
    (case c24 => k_is)
    (case k24 => k_is)
    (case a25 => k_is)
    (case l25 => k_is)
    (case c25 => k_is)
    (case k25 => k_is)
    (case a26 => k_is)
    (case l26 => k_is)
    (case c26 => k_is)
    (case k26 => k_is)
    (case a27 => k_is)
    (case l27 => k_is)
    (case c27 => k_is)
    (case k27 => k_is)
    (case a28 => k_is)
    (case l28 => k_is)
    (case c28 => k_is)
    (case k28 => k_is)
    (case a29 => k_is)
    (case l29 => k_is)
    (case c29 => k_is)
    (case k29 => k_is)
    (case a30 => k_is)
    (case l30 => k_is)
    (case c30 => k_is)
    (case k30 => k_is)
    (case a31 => k_is)
    (case l31 => k_is)
    (case c31 => k_is)
    (case k31 => k_is)
    (case a32 => k_is)
    (case l32 => k_is)
    (case c32 => k_is)
    (case k32 => k_is)
    (case a33 => k_is)
    (case l33 => k_is)
    (case c33 => k_is)
    (case k33 => k_is)
    (case a34 => k_is)
    (case l34 => k_is)
    (case c34 => k_is)
    (case k34 => k_is)
    (case a35 => k_is)
    (case l35 => k_is)
    (case c35 => k_is)
    (case k35 => k_is)
    (case a36 => k_is)
    (case l36 => k_is)
    (case c36 => k_is)
    (case k36 => k_is)
    (case a37 => k_is)
    (case l37 => k_is)
    (case c37 => k_is)
    (case k37 => k_is)
    (case a38 => k_is)
    (case l38 => k_is)
    (case c38 => k_is)
    (case k38 => k_is)
    (case a39 => k_is)
    (case l39 => k_is)
    (case c39 => k_is)
    (case k39 => k_is)
    (case a40 => k_is)
    (case l40 => k_is)
    (case c40 => k_is)
    (case k40 => k_is)
    (case a41 => k_is)
    (case l41 => k_is)
    (case c41 => k_is)
    (case k41 => k_is)
    (case a42 => k_is)
    (case l42 => k_is)
    (case c42 => k_is)
    (case k42 => k_is)
    (case a43 => k_is)
    (case l43 => k_is)
    (case c43 => k_is)
    (case k43 => k_is)
    (case a44 => k_is)
    (case l44 => k_is)
    (case c44 => k_is)
    (case k44 => k_is)
    (case a45 => k_is)
    (case l45 => k_is)
    (case c45 => k_is)
    (case k45 => k_is)
    (case am1 => k_is)
    (case im1 => k_is)
    (case lm1 => k_is)
    (case cm1 => k_is)
    (case km1 => k_is)
    (case am2 => k_is)
    (case gm2 => k_is)
    (case um2 => k_is)
    (case rm2 => k_is)
    (case lm2 => k_is)
    (case cm2 => k_is)
    (case km2 => k_is)
    (case am3 => k_is)
    (case gm3 => k_is)
    (case um3 => k_is)
    (case rm3 => k_is)
    (case lm3 => k_is)
    (case cm3 => k_is)
    (case km3 => k_is)
    (case am4 => k_is)
    (case im4 => k_is)
    (case lm4 => k_is)
    (case cm4 => k_is)
    (case km4 => k_is)
    (case am5 => k_is)
    (case im5 => k_is)
    (case lm5 => k_is)
    (case cm5 => k_is)
    (case km5 => k_is)
    (case am6 => k_is)
    (case im6 => k_is)
    (case lm6 => k_is)
    (case cm6 => k_is)
    (case km6 => k_is)
    (case am7 => k_is)
    (case im7 => k_is)
    (case lm7 => k_is)
    (case cm7 => k_is)
    (case km7 => k_is)
    (case am8 => k_is)
    (case im8 => k_is)
    (case lm8 => k_is)
    (case cm8 => k_is)
    (case km8 => k_is)
    (case lT => k_is)
    (case v_MOST_DIMENSION => k_is)
    (case v_MOST_PLACES => k_is)
    (case v_MOST_WORDS => k_is)
    (case z_abs => k_is)
    (case z_all => k_is)
    (case z_bool => k_is)
    (case z_divmod => k_is)
    (case z_enumerate => k_is)
    (case z_int => k_is)
    (case z_isinstance => k_is)
    (case z_len => k_is)
    (case z_list => k_is)
    (case z_max => k_is)
    (case z_min => k_is)
    (case z_range => k_is)
    (case z_set => k_is)
    (case z_sorted => k_is)
    (case z_sum => k_is)
    (case z_tuple => k_is)
    (case z_zip => k_is)
    (case pg => k_is)
    (case hd => k_is)
    (case po => k_is)
    (case sa => k_is)
    (case mk => k_is)
    (case kc => k_is)
    (case nP => k_is)
    (case nB => k_is)
    (case ca => k_is)
    (case cn => k_is)
    (case ct => k_is)
    (case cm => k_is)
    (case ne => k_is)

