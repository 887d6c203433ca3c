import PyProof.Rows.All
import Wide.All
import OpenK.AllK
import Wide.FinOn
import HandS.ForMost
import HandS.IsInst
import HandS.Defaults
import HandS.Zip
import HandS.Strs
import HandS.Style
import HandS.Flow
import HandS.WideBits
import HandS.EndBits
import PyProof.ReprRoads
import HandS.SetFor
import PySem.Challenge.RW_owncontraries_k11_whole_words
set_option Elab.async false
set_option linter.all false
set_option maxRecDepth 100000
set_option maxHeartbeats 2000000
namespace Vf
open PySem PySem.Spec PyProof.Rows L2
/-! ### defs that ask that no repr is under way -/
/-- a def's promise, kept where no guard is up -/
structure GnOk (P : Program) (w : World) (K : PySem.W.Frag) (mg : Str → Option Value) (base : Heap)
    (k : Nat) (f : Addr) (fd : FuncData) (ps : List Str) (sp : Sp) : Prop where
  len : ∀ vs H Q E, sp vs H Q E → vs.length = ps.length
  go : ∀ (A : Around) (outer : List Env) (s : Shared) (H : Hp) (args : Args) (us : List Value) (vs : List V) (Q : VK) (E : XK),
    A.guards = some [] → Room k A → Env0 P w K mg base A outer s H → BindsTo s fd args (ps.zip us) → Vals vs us →
    sp vs H Q E → codeAny (model P w) A (.call (.ref f) args) (CR CX0 outer P w H s Q E) s
theorem GnOk.of {P : Program} {w : World} {K : PySem.W.Frag} {mg : Str → Option Value} {base : Heap} {k : Nat} {f : Addr} {fd : FuncData} {ps : List Str} {sp : Sp}
    (F : FnOk P w K mg base CX0 k f fd ps sp) : GnOk P w K mg base k f fd ps sp :=
  ⟨F.len, fun A outer s H args us vs Q E _ => F.run A outer s H args us vs Q E⟩
theorem deeper_guards {A : Around} {env : Env} (h : A.guards = some []) : (A.deeper env).guards = some [] := by
  first | exact h | simpa [Around.deeper] using h
section
variable {P : Program} {w : World} {K : PySem.W.Frag} {mg : Str → Option Value} {base : Heap}
/-- a def of the text by its body, its guards told -/
theorem gn_ok {x qual : Str} {st : Stmt} {f : Addr} {fd : FuncData} {N ps : List Str} {k : Nat} {sp : Sp}
    (F : Fun K x qual st f fd) (S : FnScope N ps (defScope st)) (len : ∀ vs H Q E, sp vs H Q E → vs.length = ps.length)
    (hb : ∀ (cdv : Value) (A : Around) (outer : List Env) (s : Shared) (H : Hp) (vs : List V) (Q : VK) (E : XK),
      (A.deeper (envOfC qual (defScope st) s.heap.objs.size f cdv)).guards = some [] →
      Room k (A.deeper (envOfC qual (defScope st) s.heap.objs.size f cdv)) → sp vs H Q E →
      ∃ t, PSs (cxOf CX0 P w K mg base N qual (defScope st) f cdv A outer s H E).nox (defBody st) t ∧
        t { nx := fun _ H' => Q .non H', rt := Q } (start N vs) H) : GnOk P w K mg base (k + 1) f fd ps sp := by
  refine ⟨len, fun A outer s H args us vs Q E hg hr e0 hbd rv hs => ?_⟩
  -- the body is walked at this around alone
  obtain ⟨oc, od, kV, doc, pm, an, cdv, ct, osl, rfl, lk, hcd⟩ := F.ex
  let sp1 : Sp := fun vs' H' Q' E' => sp vs' H' Q' E'
  have lenU : vs.length = ps.length := len _ _ _ _ hs
  have kin : K.In s.heap := e0.mod.kin.keeps fun b o e => (e0.bs b o e).1
  have nolim : s.heap.NoLimit := e0.mod.nolimit.keeps fun b o e => (e0.bs b o e).1
  have kinds : ∀ y ∈ ps.zip us, (defScope st).names.lookup y.1 = some .local ∨
      ((defScope st).names.lookup y.1 = some .cell ∧
        ((cellsFrom (s.heap.objs.size + 1) (defScope st).names []).lookup y.1).isSome = true) := by
    rintro ⟨n, v⟩ hy
    cases S.par n (List.of_mem_zip hy).1 with
    | inl q => exact .inl q
    | inr q => exact .inr ⟨q, PySem.W.cellsFrom_some _ _ _ (.inl q)⟩
  refine codeAny_call_function hr.depth (kin _ _ lk) rfl S.co S.gen rfl
    (PySem.W.codeRec_of kin hcd) (hbd _ _ _ _ ?_)
  refine wpAny_newFunctionEnv_cells S.kind kinds fun env he s1 y => ?_
  subst he
  refine ⟨nolim.keeps y.toInCall.keep, codeAny_func ?_⟩
  obtain ⟨t, ht, hq⟩ := hb cdv A outer s H vs Q E (deeper_guards hg) (hr.deeper _) hs
  have I0 := inv_start (CX := CX0) (P := P) (w := w) (K := K) (mg := mg) (base := base) (N := N) (qual := qual)
    (f := f) (cd := cdv) (A := A) (outer := outer) (s := s) (H := H) (E := E) S hr.hd e0 lenU rv y
  refine wpAny_mono (ht.nox.run [] s1 (start N vs) H _ I0 hq) (fun fl s' hh => ?_) fun e s' hh => hh
  cases fl with
  | next =>
    obtain ⟨σ', H', J, q⟩ := hh
    exact ⟨V.non, H', J.os, J.bare, J.base, J.hok, rfl, q⟩
  | ret u =>
    obtain ⟨v, σ', H', J, r2, q⟩ := hh
    exact ⟨v, H', J.os, J.bare, J.base, J.hok, r2, q⟩
  | brk => obtain ⟨_, _, _, q⟩ := hh; exact q.elim
  | cont => obtain ⟨_, _, _, q⟩ := hh; exact q.elim
end
section
variable {X : Cx} {k : Nat} {f : Addr} {fd : FuncData} {ps ks : List Str} {sp : Sp} {E : XK} {x : Str} {p pos : Pos}
  {e : Expr} {es : List Expr} {kws : List Keyword} {t tk : TA} {g : List Value → List Value → List Value} {gV : List V → List V → List V}
theorem run_gn {pins : List (Addr × Obj)} {σ : L2.St} {H : Hp} {s : Shared} {Q : VK} {us : List Value} {vs : List V}
    (F : GnOk X.prog X.w X.K X.mg X.base k f fd ps sp) (hg : X.A.guards = some []) (hr : Room k X.A) (hb : Binds X.K fd ps [])
    (I : Inv X pins σ H s) (r : Vals vs us) (h : sp vs H Q E0) :
    wpAny (model X.prog X.w) X.A (call (.ref f) us) (EP X pins σ Q) X.xe s := by
  have ln : (us ++ ([] : List Value)).length = ps.length := by
    rw [List.append_nil, ← r.length]
    exact F.len _ _ _ _ h
  have bb := hb s us I.kIn ln
  rw [List.append_nil] at bb
  refine wpAny_call (codeAny_mono (F.go X.A X.stack s H ⟨us, []⟩ us vs Q E0 hg hr I.env0 bb r h) fun res s' hq => ?_)
  cases res with
  | error e => exact hq.elim
  | ok fl =>
    cases fl with
    | next => exact hq.elim
    | brk => exact hq.elim
    | cont => exact hq.elim
    | ret u => exact I.after hq
/-- f(e, ..) of such a def -/
theorem pe_gn (F : GnOk X.prog X.w X.K X.mg X.base k f fd ps sp) (gg : X.A.guards = some []) (hr : Room k X.A) (hg : Gl X x)
    (hm : X.mg x = some (.ref f)) (hk : PySem.W.keepIn X.K (.ref f) = true) (hb : Binds X.K fd ps [])
    (ha : PA X (e :: es) t) (hdb : (x == ("__debug__" : Str)) = false := by decide)
    (he : starEach (e :: es) X.env = (false, eval e X.env) :: starEach es X.env := by rfl)
    (hpl : (backTo pos (starEach es X.env)).any (·.1) = false := by rfl) :
    PE X (.Call (.Name x p) (e :: es) [] pos) (fun σ H Q => t σ H fun vs H1 => sp vs H1 Q E0) := by
  refine ⟨fun pins s σ H Q I h => wpAny_Call_Name_kw (ld_glob I hg hm ?_ hdb)⟩
  exact PySem.W.callWith_K (h₀ := X.base) I.ok.mod.kin hk
    (thn (ha.run pos pins s σ H _ I h) fun us s1 ⟨vs, H1, I1, r, q⟩ => ⟨I1.kIn, run_gn F gg hr hb I1 r q⟩) he hpl
/-- f(k = v, ..): keywords alone -/
theorem pe_callKw {CX : CXT} (F : FnOk X.prog X.w X.K X.mg X.base CX k f fd ps sp) (hr : Room k X.A) (hg : Gl X x)
    (hm : X.mg x = some (.ref f)) (hk : PySem.W.keepIn X.K (.ref f) = true) (hb : KBn X.K fd ps 0 ks g gV) (hx : Passes CX X E)
    (hkw : PK X kws tk) (hall : (backToKw pos (keywordEach kws X.env)).all (·.1.isSome) = true := by rfl)
    (hks : (backToKw pos (keywordEach kws X.env)).filterMap (·.1) = ks := by rfl)
    (hdb : (x == ("__debug__" : Str)) = false := by decide)
    (hpl : ((backTo pos (starEach [] X.env)).any (·.1) || (backToKw pos (keywordEach kws X.env)).any (·.1.isNone)) = false := by rfl) :
    PE X (.Call (.Name x p) [] kws pos) (fun σ H Q => tk σ H fun zs H1 => zs.length = ks.length ∧ sp (gV [] zs) H1 Q E) := by
  refine ⟨fun pins s σ H Q I h => wpAny_Call_Name_kw (ld_glob I hg hm ?_ hdb)⟩
  refine PySem.W.callWith_KW0 (h₀ := X.base) I.ok.mod.kin hk hall ?_ hpl
  refine thn (hkw.run pos pins s σ H _ I h) fun ws s2 ⟨zs, H2, I2, rz, l2, q2⟩ => ⟨I2.kIn, ?_⟩
  rw [hks]
  exact run_fnN (us := []) (vs := []) F hr hb hx I2 .nil rz rfl l2 q2
/-- repr of data -/
structure rRepr (K : PySem.W.Frag) (xs : List V) (H : Hp) (Q : VK) : Prop where
  ex : ∃ a d, xs = [.ref a] ∧ Dp K H (.ref a) d ∧ d.showable = true ∧ d.hasDict = false ∧ d.depth ≤ 60 ∧
    d.shown.length ≤ sizeLine ∧ Q (.str d.shown) H
theorem call_repr (hg : X.A.guards = some []) (hu : X.A.units + 64 < cLine) : CallR X (.builtin "repr") (rRepr X.K) := by
  intro pins s σ H xs us Q I r h
  obtain ⟨a, d, rfl, hD, hs, hn, hd, hz, q⟩ := h.ex
  obtain ⟨u1, rfl, r1⟩ := vals1 r
  cases (show u1 = Value.ref a from r1)
  obtain ⟨as, rd⟩ := Dp.reads I d _ _ hD rfl
  refine repr_of_reads' rd hs (fun z => ?_) hg (by omega) (fun _ _ e => e) (fun h' u tk hk => ?_) hz
  · rw [hn] at z
    cases z
  · exact ⟨.str d.shown, H, I.kept (fun b o e => hk b o e), ⟨u, rfl⟩, q⟩
end
end Vf

set_option Elab.async false
set_option linter.all false
set_option maxRecDepth 100000
set_option maxHeartbeats 2000000
namespace Vf
open PySem PySem.Spec PyProof.Rows L2
/-! ### the end of a law whose promise wants the guards -/
theorem law_run {P : Program} {w : World} {K : PySem.W.Frag} {mg mb : Str → Option Value} {k : Nat} {fa a : Addr} {fd : FuncData}
    {x : Str} {sp : Sp} {s₁ : Shared} {vs : List Value} {ns : List Int} (kin : K.In s₁.heap)
    (hns : s₁.heap.Ns mainGlobals mg) (hb : s₁.heap.Ns builtinsNs mb) (hbb : ∀ x : Str, x ≠ "__name__" → mb x = bootBuiltins x)
    (hlim : s₁.heap.NoLimit) (hg : s₁.gens = #[]) (ha : s₁.heap.get? a = some { cls := .type "list", data := .seq vs.toArray })
    (hi : IntsAre vs ns) (hl : ns.length ≤ sizeLine) (hr : Room k callerA)
    (F : ∀ base : Heap, K.In base → base.Ns mainGlobals mg → GnOk P w K mg base k fa fd [x] sp)
    (hbind : ∀ (s : Shared) (u : Value), BindsTo s fd ⟨[u], []⟩ [(x, u)])
    (hsp : ∀ H : Hp, Only H → SqL K H a (ns.map V.int) → sp [.ref a] H (fun v _ => v = .bl true) E0) :
    codeAny (model P w) callerA (.call (.ref fa) ⟨[.ref a], []⟩)
      (fun r s' => r = .ok (.ret (.bool true)) ∧ OldK s₁.heap s'.heap ∧ s'.os = s₁.os ∧ AllBare s'.gens) s₁ := by
  have rv : Vals (ns.map V.int) vs := vals_ints hi
  have hlen : vs.length = ns.length := hi.length
  -- once the tracked heap is chosen
  have main : ∀ H : Hp, Only H → SqL K H a (ns.map V.int) → HOk P w H s₁.heap → (∀ b u, H b = some u → b = a) →
      (∀ u, H a = some u → K.lookup a = none) → codeAny (model P w) callerA (.call (.ref fa) ⟨[.ref a], []⟩)
      (fun r s' => r = .ok (.ret (.bool true)) ∧ OldK s₁.heap s'.heap ∧ s'.os = s₁.os ∧ AllBare s'.gens) s₁ := by
    intro H only seq ok onlyA notK
    have free : ∀ {b : Addr}, b ≠ a → H b = none := fun {b} nb => by
      cases q : H b with
      | none => rfl
      | some u => exact absurd (onlyA b u q) nb
    have seen : ∀ {b : Addr} {m : Str → Option Value}, s₁.heap.Ns b m → (hidT s₁.heap H).Ns b m := by
      rintro b m ⟨o, es, ep, e, d, r⟩
      refine ⟨o, es, ep, hidT_get e (free ?_), d, r⟩
      rintro rfl
      rw [ha] at e
      cases e
      exact absurd (show Data.seq vs.toArray _ = Data.dict es ep from d) (by intro z; cases z)
    have kinb : K.In (hidT s₁.heap H) := by
      intro b o e
      refine hidT_get (kin b o e) ?_
      cases q : H b with
      | none => rfl
      | some u =>
        obtain rfl := onlyA b u q
        rw [notK u q] at e
        cases e
    have md : Mod K mg (hidT s₁.heap H) := by
      obtain ⟨mc, h1, h2⟩ := hlim
      exact ⟨kinb, seen hns, ⟨mb, seen hb, hbb⟩, ⟨mc, seen h1, h2⟩⟩
    have e0 : Env0 P w K mg (hidT s₁.heap H) callerA [] s₁ H :=
      ⟨rfl, md, fun b o e => of_hidT e, Nat.le_of_eq (hidT_size _ _), trivial, fun b z => (List.not_mem_nil z).elim, ok, .of_eq hg⟩
    have run := (F _ kinb (seen hns)).go callerA [] s₁ H ⟨[.ref a], []⟩ [.ref a] [.ref a] _ _ rfl hr e0 (hbind s₁ (.ref a))
      (.cons rfl .nil) (hsp H only seq)
    refine codeAny_mono run fun r s' h => ?_
    cases r with
    | error e => exact h.elim
    | ok fl =>
      cases fl with
      | ret u =>
        obtain ⟨v, H', os, bare, un, ok', r', q⟩ := h
        obtain rfl : v = .bl true := q
        obtain rfl : u = Value.bool true := r'
        refine ⟨rfl, .of_keep fun b o e => ?_, os, bare⟩
        cases only b with
        | inl z => exact un.keep b o e z (fun z => (List.not_mem_nil z).elim) (fun z => (List.not_mem_nil z).elim)
        | inr z =>
          obtain ⟨ob, xs, z⟩ := z
          have f1 := (ok b _ z).1
          have f2 := (ok' b _ (un.frzs b ob _ z)).1
          rw [e] at f1
          cases f1
          exact f2
      | next => exact h.elim
      | brk => exact h.elim
      | cont => exact h.elim
  cases hk : K.lookup a with
  | none =>
    refine main (fun b => if b = a then some (.frz { cls := .type "list", data := .seq vs.toArray } (.lst (ns.map V.int))) else none)
      (fun b => ?_) (.inl (.inr ⟨_, if_pos rfl⟩)) (fun b u z => ?_) (fun b u z => ?_) fun _ _ => hk
    · by_cases hb : b = a
      · exact .inr ⟨_, _, if_pos hb⟩
      · exact .inl (if_neg hb)
    · by_cases hb : b = a
      · subst hb
        cases (if_pos rfl).symm.trans z
        refine ⟨ha, ?_, vs, _, rv, ha⟩
        rw [List.length_map]
        exact hl
      · cases (if_neg hb).symm.trans z
    · by_cases hb : b = a
      · exact hb
      · cases (if_neg hb).symm.trans z
  | some o =>
    have e := kin a o hk
    rw [ha] at e
    cases e
    refine main (fun _ => none) (fun _ => .inl rfl) (.inr ⟨_, vs.toArray, _, hk, rfl, rfl, rfl, ?_, by simpa using rv⟩)
      (fun b u z => ?_) (fun b u z => ?_) fun u z => ?_
    · rw [List.size_toArray, hlen]
      exact hl
    · cases (show (none : Option HO) = some u from z)
    · cases (show (none : Option HO) = some u from z)
    · cases (show (none : Option HO) = some u from z)
theorem walk_gn {l : PySem.W.OpenLaw} {n k : Nat} {q : Program} {loose : List Str} {XP : (Str → Option Value) → Heap → Prop}
    {YP : World → Heap → Prop} {d : DefRec} {K : Params → PySem.W.Frag} {sp : World → Sp} {x : Str}
    (hn : l.most = some n) (hn2 : n ≤ sizeLine) (hdf : d.params.defaults = []) (hr : Room k callerA)
    (hY : ∀ (w : World) (h : Heap), YP w h → (K w.params).In h)
    (F : ∀ (w : World) (mg : Str → Option Value) (fa : Addr) (h : Heap), (K w.params).In h → h.Ns mainGlobals mg → mg d.name = some (.ref fa) →
      ∃ fd : FuncData, (∀ (s : Shared) (u : Value), BindsTo s fd ⟨[u], []⟩ [(x, u)]) ∧
        ∀ base : Heap, (K w.params).In base → base.Ns mainGlobals mg → GnOk l.prog w (K w.params) mg base k fa fd [x] (sp w))
    (hsp : ∀ (w : World) (H : Hp) (a : Addr) (ns : List Int), ns.length ≤ n → (∀ k ∈ ns, Builtin.Int.intBits k ≤ 1048576) → Only H →
      SqL (K w.params) H a (ns.map V.int) → sp w [.ref a] H (fun v _ => v = .bl true) E0) :
    PySem.W.WalkO q loose XP YP l.row.toRowW d [] (fun f vs => PySem.call f vs) := by
  refine Att.attach_callB hn hdf fun w s₀ s₁ mg mb fa o pm cd doc a vs ns G Y ho hd hcd hmg hobj hints hlen hbits hg => ?_
  obtain ⟨fd, hb, hF⟩ := F w mg fa _ (hY w _ Y) G.T.g hmg
  exact law_run (hY w _ Y) G.T.g G.T.b G.T.builtins G.T.nolimit hg hobj hints (Nat.le_trans hlen hn2) hr hF hb
    fun H hO hS => hsp w H a ns hlen hbits hO hS
end Vf

namespace Vf
/-! ### how many places are on -/
def pcK : Nat → Nat → Nat
  | 0, _ => 0
  | k + 1, n => n % 2 + pcK k (n / 2)
def spotsK (k n : Nat) : List Nat := (List.range k).filter fun i => n.testBit i
theorem spotsK_succ (k n : Nat) : spotsK (k + 1) n = (if n % 2 = 1 then [0] else []) ++ (spotsK k (n / 2)).map (· + 1) := by
  unfold spotsK
  rw [List.range_succ_eq_map, List.filter_cons, List.filter_map]
  have e : ((fun i => n.testBit i) ∘ Nat.succ) = fun i => (n / 2).testBit i := by
    funext i
    show n.testBit (i + 1) = _
    rw [Nat.testBit_succ]
  rw [e]
  rw [Nat.testBit_zero]
  by_cases h : n % 2 = 1
  · simp [h]
  · simp [h]
theorem spotsK_len : ∀ k n, (spotsK k n).length = pcK k n
  | 0, _ => rfl
  | k + 1, n => by
    rw [spotsK_succ, List.length_append, List.length_map, spotsK_len k]
    show _ = n % 2 + pcK k (n / 2)
    by_cases h : n % 2 = 1
    · rw [if_pos h, h]; rfl
    · rw [if_neg h]
      have : n % 2 = 0 := by omega
      rw [this]; rfl
theorem sum_double : ∀ l : List Nat, ((l.map (· + 1)).map (2 ^ ·)).sum = 2 * (l.map (2 ^ ·)).sum
  | [] => rfl
  | x :: l => by
    rw [List.map_cons, List.map_cons, List.sum_cons, sum_double l, List.map_cons, List.sum_cons, Nat.pow_succ]
    omega
theorem spotsK_sum : ∀ k n, ((spotsK k n).map (2 ^ ·)).sum = n % 2 ^ k
  | 0, n => by
    show 0 = n % 1
    omega
  | k + 1, n => by
    rw [spotsK_succ, List.map_append, List.sum_append, sum_double, spotsK_sum k]
    have e := Nat.mod_mul (x := n) (a := 2) (b := 2 ^ k)
    rw [Nat.pow_succ, Nat.mul_comm (2 ^ k) 2, e]
    by_cases h : n % 2 = 1
    · rw [if_pos h, h]; rfl
    · rw [if_neg h]
      have : n % 2 = 0 := by omega
      rw [this]; rfl
theorem pcK_zero : ∀ k, pcK k 0 = 0
  | 0 => rfl
  | k + 1 => by
    show 0 % 2 + pcK k (0 / 2) = 0
    rw [show (0 : Nat) / 2 = 0 from rfl, pcK_zero k]
theorem pcK_more : ∀ k n, n < 2 ^ k → pcK (k + 1) n = pcK k n
  | 0, n, h => by
    have : n = 0 := by omega
    subst this; rfl
  | k + 1, n, h => by
    show n % 2 + pcK (k + 1) (n / 2) = n % 2 + pcK k (n / 2)
    rw [pcK_more k (n / 2) (by rw [Nat.pow_succ] at h; omega)]
theorem pcK_half (k n : Nat) (h : n < 2 ^ (k + 1)) : n % 2 + pcK (k + 1) (n / 2) = pcK (k + 1) n := by
  rw [pcK_more k (n / 2) (by rw [Nat.pow_succ] at h; omega)]
  rfl
theorem and_mod2 (a b : Nat) : (a &&& b) % 2 = (a % 2) * (b % 2) := by
  have h := Nat.testBit_and a b 0
  rw [Nat.testBit_zero, Nat.testBit_zero, Nat.testBit_zero] at h
  rcases Nat.mod_two_eq_zero_or_one (a &&& b) with hc | hc <;> rcases Nat.mod_two_eq_zero_or_one a with ha | ha <;>
    rcases Nat.mod_two_eq_zero_or_one b with hb | hb <;> rw [hc, ha, hb] at h <;> rw [hc, ha, hb] <;> first | rfl | exact absurd h (by decide)
theorem xor_mod2 (a b : Nat) : (a ^^^ b) % 2 = (a + b) % 2 := by
  have h := Nat.testBit_xor a b 0
  rw [Nat.testBit_zero, Nat.testBit_zero, Nat.testBit_zero] at h
  rcases Nat.mod_two_eq_zero_or_one (a ^^^ b) with hc | hc <;> rcases Nat.mod_two_eq_zero_or_one a with ha | ha <;>
    rcases Nat.mod_two_eq_zero_or_one b with hb | hb <;> rw [hc, ha, hb] at h <;> first | omega | exact absurd h (by decide)
theorem and_div2 (a b : Nat) : (a &&& b) / 2 = (a / 2) &&& (b / 2) := by
  apply Nat.eq_of_testBit_eq
  intro i
  rw [← Nat.testBit_succ, Nat.testBit_and, Nat.testBit_and, Nat.testBit_succ, Nat.testBit_succ]
theorem xor_div2 (a b : Nat) : (a ^^^ b) / 2 = (a / 2) ^^^ (b / 2) := by
  apply Nat.eq_of_testBit_eq
  intro i
  rw [← Nat.testBit_succ, Nat.testBit_xor, Nat.testBit_xor, Nat.testBit_succ, Nat.testBit_succ]
theorem pcK_two : ∀ k a b, pcK k a + pcK k b = pcK k (a ^^^ b) + 2 * pcK k (a &&& b)
  | 0, _, _ => rfl
  | k + 1, a, b => by
    have ih := pcK_two k (a / 2) (b / 2)
    show a % 2 + pcK k (a / 2) + (b % 2 + pcK k (b / 2)) = (a ^^^ b) % 2 + pcK k ((a ^^^ b) / 2) + 2 * ((a &&& b) % 2 + pcK k ((a &&& b) / 2))
    rw [and_mod2, xor_mod2, and_div2, xor_div2]
    rcases Nat.mod_two_eq_zero_or_one a with ha | ha <;> rcases Nat.mod_two_eq_zero_or_one b with hb | hb <;> rw [ha, hb] <;> omega
theorem pcK_off : ∀ k n, 0 < n → n < 2 ^ k → pcK k (n &&& (n - 1)) + 1 = pcK k n
  | 0, n, h0, h => by
    have : n < 1 := h
    omega
  | k + 1, n, h0, h => by
    rw [Nat.pow_succ] at h
    show (n &&& (n - 1)) % 2 + pcK k ((n &&& (n - 1)) / 2) + 1 = n % 2 + pcK k (n / 2)
    rw [and_mod2, and_div2]
    rcases Nat.mod_two_eq_zero_or_one n with hn | hn
    · have e1 : (n - 1) / 2 = n / 2 - 1 := by omega
      have ih := pcK_off k (n / 2) (by omega) (by omega)
      rw [hn, e1]
      omega
    · have e1 : (n - 1) / 2 = n / 2 := by omega
      have e2 : (n - 1) % 2 = 0 := by omega
      rw [hn, e1, e2, Nat.and_self]
      omega
theorem off_lt {n : Nat} (h : 0 < n) : n &&& (n - 1) < n := Nat.lt_of_le_of_lt Nat.and_le_right (by omega)
/-! ### words of 24 places -/
def pc (n : Nat) : Nat := pcK 24 n
def spots (n : Nat) : List Nat := spotsK 24 n
theorem spots_len (n : Nat) : (spots n).length = pc n := spotsK_len 24 n
theorem spots_sum {n : Nat} (h : n < 2 ^ 24) : ((spots n).map (2 ^ ·)).sum = n := by
  unfold spots
  rw [spotsK_sum]
  exact Nat.mod_eq_of_lt h
theorem spots_lt {n i : Nat} (h : i ∈ spots n) : i < 24 := List.mem_range.mp (List.mem_filter.mp h).1
theorem spots_nd (n : Nat) : (spots n).Nodup := List.Nodup.sublist List.filter_sublist List.nodup_range
theorem pc_le (n : Nat) : pc n ≤ 24 := by
  rw [← spots_len]
  exact Nat.le_trans (List.length_filter_le _ _) (by rw [List.length_range]; exact Nat.le_refl _)
theorem pc_off {n : Nat} (h0 : 0 < n) (h : n < 2 ^ 24) : pc (n &&& (n - 1)) + 1 = pc n := pcK_off 24 n h0 h
theorem pc_half {n : Nat} (h : n < 2 ^ 24) : n % 2 + pc (n / 2) = pc n := pcK_half 23 n h
theorem pc_two (a b : Nat) : pc a + pc b = pc (a ^^^ b) + 2 * pc (a &&& b) := pcK_two 24 a b
theorem pc_zero : pc 0 = 0 := pcK_zero 24
theorem pc_dist (a b c : Nat) : pc ((a ^^^ c) &&& b) % 2 = (pc (a &&& b) + pc (c &&& b)) % 2 := by
  have e : (a ^^^ c) &&& b = (a &&& b) ^^^ (c &&& b) := by
    apply Nat.eq_of_testBit_eq
    intro i
    simp only [Nat.testBit_and, Nat.testBit_xor]
    cases a.testBit i <;> cases b.testBit i <;> cases c.testBit i <;> rfl
  have := pc_two (a &&& b) (c &&& b)
  rw [e]
  omega
theorem perm_sum {l l' : List Nat} (h : l.Perm l') : (l.map (2 ^ ·)).sum = (l'.map (2 ^ ·)).sum := (h.map _).sum_nat
end Vf

set_option Elab.async false
set_option linter.all false
set_option maxRecDepth 100000
set_option maxHeartbeats 2000000
namespace Vf
open PySem PySem.Spec PyProof.Rows L2
/-! ### a def that is called: what a caller needs of it -/
def Cal (P : Program) (w : World) (K : PySem.W.Frag) (mg : Str → Option Value) (base : Heap) (x : Str) (k : Nat) (ps : List Str) (dvs : List V) (sp : Sp) : Prop :=
  ∃ (f : Addr) (fd : FuncData) (ds : List Value), FnOk P w K mg base CX0 k f fd ps sp ∧ mg x = some (.ref f) ∧ PySem.W.keepIn K (.ref f) = true ∧ Binds K fd ps ds ∧ Vals dvs ds
def CalK (P : Program) (w : World) (K : PySem.W.Frag) (mg : Str → Option Value) (base : Heap) (x : Str) (k : Nat) (ps ks : List Str) (gV : List V → List V → List V) (sp : Sp) : Prop :=
  ∃ (f : Addr) (fd : FuncData) (g : List Value → List Value → List Value), FnOk P w K mg base CX0 k f fd ps sp ∧ mg x = some (.ref f) ∧ PySem.W.keepIn K (.ref f) = true ∧ KBn K fd ps 0 ks g gV
section
variable {X : Cx} {k : Nat} {ps ks : List Str} {dvs : List V} {sp : Sp} {x : Str} {p pos : Pos}
  {e : Expr} {es : List Expr} {kws : List Keyword} {t tk : TA} {gV : List V → List V → List V}
theorem pe_cal (C : Cal X.prog X.w X.K X.mg X.base x k ps dvs sp) (hr : Room k X.A) (hg : Gl X x) (ha : PA X (e :: es) t)
    (hdb : (x == ("__debug__" : Str)) = false := by decide) (he : starEach (e :: es) X.env = (false, eval e X.env) :: starEach es X.env := by rfl)
    (hpl : (backTo pos (starEach es X.env)).any (·.1) = false := by rfl) : PE X (.Call (.Name x p) (e :: es) [] pos) (tCall sp dvs E0 t) := by
  obtain ⟨f, fd, ds, F, gm, kp, b, hv⟩ := C
  exact pe_call F hr hg gm kp b hv pass0 ha hdb he hpl
theorem pe_calKw (C : CalK X.prog X.w X.K X.mg X.base x k ps ks gV sp) (hr : Room k X.A) (hg : Gl X x) (hkw : PK X kws tk)
    (hall : (backToKw pos (keywordEach kws X.env)).all (·.1.isSome) = true := by rfl)
    (hks : (backToKw pos (keywordEach kws X.env)).filterMap (·.1) = ks := by rfl)
    (hdb : (x == ("__debug__" : Str)) = false := by decide)
    (hpl : ((backTo pos (starEach [] X.env)).any (·.1) || (backToKw pos (keywordEach kws X.env)).any (·.1.isNone)) = false := by rfl) :
    PE X (.Call (.Name x p) [] kws pos) (fun σ H Q => tk σ H fun zs H1 => zs.length = ks.length ∧ sp (gV [] zs) H1 Q E0) := by
  obtain ⟨f, fd, g, F, gm, kp, b⟩ := C
  exact pe_callKw F hr hg gm kp b pass0 hkw hall hks hdb hpl
end
/-! ### heaps -/
theorem same_new {H : Hp} {p : Addr} {o : HO} (h : H p = none) : Same H (upd H p o) := fun b x e => by
  rw [upd_ne (ne_of_none e h)]
  exact e
/-- all that was tracked stands, but what is at p -/
def But (p : Addr) (H H' : Hp) : Prop := ∀ b o, b ≠ p → H b = some o → H' b = some o
theorem But.refl (p : Addr) (H : Hp) : But p H H := fun _ _ _ h => h
theorem But.trans {p : Addr} {H H1 H2 : Hp} (a : But p H H1) (b : But p H1 H2) : But p H H2 := fun c o n h => b c o n (a c o n h)
theorem But.of {p : Addr} {H H' : Hp} (s : Same H H') : But p H H' := fun b o _ h => s b o h
theorem But.upd {p : Addr} {H H' : Hp} {o : HO} (s : But p H H') : But p H (upd H' p o) := fun b x n h => by
  rw [upd_ne n]
  exact s b x n h
theorem But.seq {K : PySem.W.Frag} {p a : Addr} {H H' : Hp} {xs : List V} (s : But p H H') (h : SqL K H a xs) (hp : ∀ o, H p = some o → a ≠ p) (hx : (∃ o, H p = some o)) : SqL K H' a xs := by
  obtain ⟨o, ho⟩ := hx
  have n := hp o ho
  rcases h with (h | ⟨u, h⟩) | h
  · exact .inl (.inl (s _ _ n h))
  · exact .inl (.inr ⟨u, s _ _ n h⟩)
  · exact .inr h
/-- naturals as a list of values -/
def vs (l : List Nat) : List V := l.map fun i => V.int (i : Nat)
theorem vs_int (l : List Nat) : vs l = (l.map fun i : Nat => (i : Int)).map V.int := by
  unfold vs
  rw [List.map_map]
  rfl
theorem bl_t {p : Prop} [Decidable p] (h : p) : V.bl (decide p) = V.bl true := by rw [decide_eq_true h]
theorem bl_f {p : Prop} [Decidable p] (h : ¬ p) : V.bl (decide p) = V.bl false := by rw [decide_eq_false h]
theorem sl_lt {n : Nat} (h : n ≤ 100000) : n < sizeLine := Nat.lt_of_le_of_lt h (by decide)
end Vf
namespace K11
open PySem PySem.Spec PyProof.Rows L2 Vf
abbrev topS (i : Nat) : Stmt := PySem.Challenge.pw_owncontraries_k11_whole_words.main.body.getD i (.Pass ⟨0, 0, 0, 0⟩)
abbrev s_is_integer : Stmt := topS 1
abbrev N_is_integer : List Str := ["value"]
theorem sc_is_integer : FnScope N_is_integer ["value"] (defScope s_is_integer) := ⟨rfl, rfl, rfl, by decide +kernel, rfl, by decide +kernel, by decide +kernel⟩
abbrev s_is_count : Stmt := topS 2
abbrev N_is_count : List Str := ["value"]
theorem sc_is_count : FnScope N_is_count ["value"] (defScope s_is_count) := ⟨rfl, rfl, rfl, by decide +kernel, rfl, by decide +kernel, by decide +kernel⟩
abbrev s_is_list : Stmt := topS 3
abbrev N_is_list : List Str := ["value"]
theorem sc_is_list : FnScope N_is_list ["value"] (defScope s_is_list) := ⟨rfl, rfl, rfl, by decide +kernel, rfl, by decide +kernel, by decide +kernel⟩
abbrev s_is_places : Stmt := topS 11
abbrev N_is_places : List Str := ["value"]
theorem sc_is_places : FnScope N_is_places ["value"] (defScope s_is_places) := ⟨rfl, rfl, rfl, by decide +kernel, rfl, by decide +kernel, by decide +kernel⟩
abbrev s_check_places : Stmt := topS 12
abbrev N_check_places : List Str := ["places"]
theorem sc_check_places : FnScope N_check_places ["places"] (defScope s_check_places) := ⟨rfl, rfl, rfl, by decide +kernel, rfl, by decide +kernel, by decide +kernel⟩
abbrev s_is_word : Stmt := topS 13
abbrev N_is_word : List Str := ["places", "value"]
theorem sc_is_word : FnScope N_is_word ["places", "value"] (defScope s_is_word) := ⟨rfl, rfl, rfl, by decide +kernel, rfl, by decide +kernel, by decide +kernel⟩
abbrev s_check_word : Stmt := topS 14
abbrev N_check_word : List Str := ["word", "places"]
theorem sc_check_word : FnScope N_check_word ["word", "places"] (defScope s_check_word) := ⟨rfl, rfl, rfl, by decide +kernel, rfl, by decide +kernel, by decide +kernel⟩
abbrev s_weight : Stmt := topS 15
abbrev N_weight : List Str := ["word", "left", "count"]
theorem sc_weight : FnScope N_weight ["word"] (defScope s_weight) := ⟨rfl, rfl, rfl, by decide +kernel, rfl, by decide +kernel, by decide +kernel⟩
abbrev s_are_even : Stmt := topS 16
abbrev N_are_even : List Str := ["word", "other"]
theorem sc_are_even : FnScope N_are_even ["word", "other"] (defScope s_are_even) := ⟨rfl, rfl, rfl, by decide +kernel, rfl, by decide +kernel, by decide +kernel⟩
abbrev s_places_of : Stmt := topS 17
abbrev N_places_of : List Str := ["word", "place"]
theorem sc_places_of : FnScope N_places_of ["word"] (defScope s_places_of) := ⟨rfl, rfl, rfl, by decide +kernel, rfl, by decide +kernel, by decide +kernel⟩
abbrev s_are_spots : Stmt := topS 18
abbrev N_are_spots : List Str := ["places", "value", "spot"]
theorem sc_are_spots : FnScope N_are_spots ["places", "value"] (defScope s_are_spots) := ⟨rfl, rfl, rfl, by decide +kernel, rfl, by decide +kernel, by decide +kernel⟩
abbrev s_word_of : Stmt := topS 19
abbrev N_word_of : List Str := ["spots", "spot"]
theorem sc_word_of : FnScope N_word_of ["spots"] (defScope s_word_of) := ⟨rfl, rfl, rfl, by decide +kernel, rfl, by decide +kernel, by decide +kernel⟩
section
variable {P : Program} {w : World} {K : PySem.W.Frag} {mg : Str → Option Value} {base : Heap}
/-! ### basics -/
def sp_is_integer : Sp := fun vs H Q _ => ∃ i : Int, vs = [.int i] ∧ Q (.bl true) H
theorem ok_is_integer {f : Addr} {fd : FuncData} (F : Fun K "is_integer" "is_integer" s_is_integer f fd) (m_isinstance : mg "isinstance" = none) (m_int : mg "int" = none) (m_bool : mg "bool" = none) :
    FnOk P w K mg base CX0 1 f fd ["value"] sp_is_integer := by
  refine F.ok sc_is_integer (fun vs H Q E h => ?_) (fun cdv A outer s H vs Q E hr h => ?_)
  · obtain ⟨i, rfl, _⟩ := h
    rfl
  · obtain ⟨i, rfl, q⟩ := h
    refine ⟨_, (pss_one (ps_ret (pe_and (pe_callB call_isi (by rfl) m_isinstance (by decide +kernel) (pa_cons (pv 0) (pa_cons (pe_bltn (v := .ty "int") (by rfl) m_int (by decide +kernel) rfl) pa_nil))) (pe_one (pe_not (pe_callB call_isi (by rfl) m_isinstance (by decide +kernel) (pa_cons (pv 0) (pa_cons (pe_bltn (v := .ty "bool") (by rfl) m_bool (by decide +kernel) rfl) pa_nil)))))))), ?_⟩
    refine ⟨.int i, rfl, .int i, .ty "int", .type "int", .type "int", true, rfl, .ty _, .base (.int i), kit_ty (by decide +kernel), true, rfl, iteT ?_⟩
    exact ⟨.int i, rfl, .int i, .ty "bool", .type "int", .type "bool", false, rfl, .ty _, .base (.int i), kit_ty (by decide +kernel), false, rfl, q⟩
def sp_is_count : Sp := fun vs H Q _ => ∃ i : Int, vs = [.int i] ∧ Q (.bl (decide (0 ≤ i))) H
theorem ok_is_count {f : Addr} {fd : FuncData} (F : Fun K "is_count" "is_count" s_is_count f fd) (C_is_integer : Cal P w K mg base "is_integer" 1 ["value"] [] sp_is_integer) :
    FnOk P w K mg base CX0 2 f fd ["value"] sp_is_count := by
  refine F.ok sc_is_count (fun vs H Q E h => ?_) (fun cdv A outer s H vs Q E hr h => ?_)
  · obtain ⟨i, rfl, _⟩ := h
    rfl
  · obtain ⟨i, rfl, q⟩ := h
    refine ⟨_, (pss_one (ps_ret (pe_and (pe_cal C_is_integer (hr.mono (by decide)) (by rfl) (pa_cons (pv 0) pa_nil)) (pe_one (pe_cmpR op_ge (pv 0) pe_int (nomark _)))))), ?_⟩
    refine ⟨.int i, rfl, i, rfl, true, rfl, iteT ?_⟩
    exact ⟨.int i, rfl, i, 0, rfl, rfl, q⟩
/-- a list or a tuple stands there -/
def Sq (H : Hp) (a : Addr) (xs : List V) : Prop := H a = some (.lst xs) ∨ H a = some (.tup xs)
theorem Sq.same {H H' : Hp} {a : Addr} {xs : List V} (s : Same H H') (h : Sq H a xs) : Sq H' a xs := h.imp (s _ _) (s _ _)
def sp_is_list : Sp := fun vs H Q _ => ∃ (a : Addr) (xs : List V), vs = [.ref a] ∧ Sq H a xs ∧ ∀ H', Same H H' → Q (.bl true) H'
theorem ok_is_list {f : Addr} {fd : FuncData} (F : Fun K "is_list" "is_list" s_is_list f fd) (m_isinstance : mg "isinstance" = none) (m_list : mg "list" = none) (m_tuple : mg "tuple" = none) :
    FnOk P w K mg base CX0 1 f fd ["value"] sp_is_list := by
  refine F.ok sc_is_list (fun vs H Q E h => ?_) (fun cdv A outer s H vs Q E hr h => ?_)
  · obtain ⟨a, xs, rfl, _⟩ := h
    rfl
  · obtain ⟨a, xs, rfl, hS, q⟩ := h
    refine ⟨_, (pss_one (ps_ret (pe_callB call_isiT (by rfl) m_isinstance (by decide +kernel) (pa_cons (pv 0) (pa_cons (pe_tup (pa_cons (pe_bltn (v := .ty "list") (by rfl) m_list (by decide +kernel) rfl) (pa_cons (pe_bltn (v := .ty "tuple") (by rfl) m_tuple (by decide +kernel) rfl) pa_nil))) pa_nil))))), ?_⟩
    refine ⟨.ref a, rfl, by show 2 ≤ sizeLine; decide, fun t ht => ?_⟩
    have s1 : Same H (upd H t (.tup [.ty "list", .ty "tuple"])) := same_new ht
    rcases hS.same s1 with h1 | h1
    · exact ⟨.ref a, t, [.ty "list", .ty "tuple"], .type "list", [.type "list", .type "tuple"], true, rfl, upd_same, .cons (.ty _) (.cons (.ty _) .nil), .base (.lst h1),
        kitAny_cons (b := true) (kit_ty (by decide +kernel)) (fun z => by cases z) (fun _ => rfl), q _ s1⟩
    · exact ⟨.ref a, t, [.ty "list", .ty "tuple"], .type "tuple", [.type "list", .type "tuple"], true, rfl, upd_same, .cons (.ty _) (.cons (.ty _) .nil), .base (.tup h1),
        kitAny_cons (b := false) (kit_ty (by decide +kernel)) (fun _ => kitAny_cons (b := true) (kit_ty (by decide +kernel)) (fun z => by cases z) (fun _ => rfl)) (fun z => by cases z), q _ s1⟩
/-! ### words -/
def sp_check_places : Sp := fun vs H Q _ => ∃ n : Nat, vs = [.int n] ∧ 1 ≤ n ∧ n ≤ 24 ∧ Q .non H
def sp_is_places : Sp := fun vs H Q _ => ∃ n : Nat, vs = [.int n] ∧ 1 ≤ n ∧ n ≤ 24 ∧ Q (.bl true) H
theorem ok_is_places {f : Addr} {fd : FuncData} (F : Fun K "is_places" "is_places" s_is_places f fd) (C_is_integer : Cal P w K mg base "is_integer" 1 ["value"] [] sp_is_integer)
    {t : Tok} (g_MOST_PLACES : mg "MOST_PLACES" = some (.int 24 t)) : FnOk P w K mg base CX0 2 f fd ["value"] sp_is_places := by
  refine F.ok sc_is_places (fun vs H Q E h => ?_) (fun cdv A outer s H vs Q E hr h => ?_)
  · obtain ⟨i, rfl, _⟩ := h
    rfl
  · obtain ⟨n, rfl, h1, h2, q⟩ := h
    refine ⟨_, (pss_one (ps_ret (pe_and (pe_cal C_is_integer (hr.mono (by decide)) (by rfl) (pa_cons (pv 0) pa_nil)) (pe_one (pe_chain op_le op_le pe_int (pv 0) (pe_glob (v := .int 24) rfl g_MOST_PLACES ⟨_, rfl⟩)))))), ?_⟩
    refine ⟨.int n, rfl, n, rfl, true, rfl, iteT ?_⟩
    refine ⟨.int n, rfl, 1, n, rfl, rfl, true, bl_t (show (1 : Int) ≤ (n : Int) by omega), iteT ?_⟩
    refine ⟨n, 24, rfl, rfl, ?_⟩
    show Q (V.bl (decide ((n : Int) ≤ 24))) H
    rw [show decide ((n : Int) ≤ 24) = true from decide_eq_true (by omega)]
    exact q
theorem ok_check_places {f : Addr} {fd : FuncData} (F : Fun K "check_places" "check_places" s_check_places f fd) (C_is_places : Cal P w K mg base "is_places" 2 ["value"] [] sp_is_places) :
    FnOk P w K mg base CX0 3 f fd ["places"] sp_check_places := by
  refine F.ok sc_check_places (fun vs H Q E h => ?_) (fun cdv A outer s H vs Q E hr h => ?_)
  · obtain ⟨i, rfl, _⟩ := h
    rfl
  · obtain ⟨n, rfl, h1, h2, q⟩ := h
    refine ⟨_, (pss_one (ps_if (pt_not (pt_val (pe_cal C_is_places (hr.mono (by decide)) (by rfl) (pa_cons (pv 0) pa_nil)))) (pss_one ps_never) pss_nil)), ?_⟩
    exact ⟨.int n, rfl, n, rfl, h1, h2, true, rfl, iteF q⟩
def sp_is_word : Sp := fun vs H Q _ => ∃ n m : Nat, vs = [.int n, .int m] ∧ 1 ≤ n ∧ n ≤ 24 ∧ Q (.bl (decide (m < 2 ^ n))) H
theorem ok_is_word {f : Addr} {fd : FuncData} (F : Fun K "is_word" "is_word" s_is_word f fd) (C_check_places : Cal P w K mg base "check_places" 3 ["places"] [] sp_check_places) (C_is_count : Cal P w K mg base "is_count" 2 ["value"] [] sp_is_count) :
    FnOk P w K mg base CX0 4 f fd ["places", "value"] sp_is_word := by
  refine F.ok sc_is_word (fun vs H Q E h => ?_) (fun cdv A outer s H vs Q E hr h => ?_)
  · obtain ⟨i, j, rfl, _⟩ := h
    rfl
  · obtain ⟨n, m, rfl, h1, h2, q⟩ := h
    refine ⟨_, (pss_cons (ps_expr (pe_cal C_check_places (hr.mono (by decide)) (by rfl) (pa_cons (pv 0) pa_nil)))
    (pss_one (ps_ret (pe_and (pe_cal C_is_count (hr.mono (by decide)) (by rfl) (pa_cons (pv 1) pa_nil)) (pe_one (pe_cmpR op_lt (pv 1) (pe_op op_oneShl pe_int (pv 0)) (nomark _))))))), ?_⟩
    refine ⟨.int n, rfl, n, rfl, h1, h2, .int m, rfl, m, rfl, true, bl_t (show (0 : Int) ≤ (m : Int) by omega), iteT ?_⟩
    · refine ⟨.int m, rfl, .int n, rfl, n, rfl, rfl, by omega, m, 2 ^ n, rfl, rfl, ?_⟩
      have e : decide ((m : Int) < 2 ^ n) = decide (m < 2 ^ n) := by
        apply decide_eq_decide.mpr
        have e2 : (2 : Int) ^ n = ((2 ^ n : Nat) : Int) := by
          rw [Int.natCast_pow]
          rfl
        rw [e2]
        exact Int.ofNat_lt
      show Q (V.bl (decide ((m : Int) < 2 ^ n))) H
      rw [e]
      exact q
def sp_check_word : Sp := fun vs H Q _ => ∃ m : Nat, vs = [.int m, .int 24] ∧ m < 2 ^ 24 ∧ Q .non H
theorem ok_check_word {f : Addr} {fd : FuncData} {kws : List (Str × V)} (F : FunD K "check_word" "check_word" (defArgs s_check_word) (defBody s_check_word) (defScope s_check_word) [.int 24] kws f fd) (C_is_word : Cal P w K mg base "is_word" 4 ["places", "value"] [] sp_is_word) :
    FnOk P w K mg base CX0 5 f fd ["word", "places"] sp_check_word := by
  refine F.ok sc_check_word (fun vs H Q E h => ?_) (fun cdv A outer s H vs Q E hr h => ?_)
  · obtain ⟨i, rfl, _⟩ := h
    rfl
  · obtain ⟨m, rfl, h1, q⟩ := h
    refine ⟨_, (pss_one (ps_if (pt_not (pt_val (pe_cal C_is_word (hr.mono (by decide)) (by rfl) (pa_cons (pv 1) (pa_cons (pv 0) pa_nil))))) (pss_one ps_never) pss_nil)), ?_⟩
    exact ⟨.int 24, rfl, .int m, rfl, 24, m, rfl, by omega, by omega, true, bl_t h1, iteF q⟩
end
end K11

set_option Elab.async false
set_option linter.all false
set_option maxRecDepth 100000
set_option maxHeartbeats 2000000
namespace Vf
open PySem PySem.Spec PyProof.Rows L2
/-! ### len(set(t)), t a tuple of unlike ints -/
def tLenSetT (K : PySem.W.Frag) (ta : TE) : TE := fun σ H Q => ta σ H fun x H1 => ∃ (l : Addr) (ns : List Int),
  x = .ref l ∧ SqT K H1 l (ns.map V.int) ∧ ns.Nodup ∧ ns.length ≤ 1000 ∧ Q (.int (ns.length : Nat)) H1
theorem pe_lenSetT {X : Cx} {a : Expr} {ta : TE} {p p2 q pos : Pos} (hg : Gl X "len") (hm : X.mg "len" = none)
    (hg2 : Gl X "set") (hm2 : X.mg "set" = none) (ha : PE X a ta) (hc : X.calm = true := by rfl)
    (na : starEach [a] X.env = (false, eval a X.env) :: starEach [] X.env := by rfl) :
    PE X (.Call (.Name "len" p) [.Call (.Name "set" p2) [a] [] q] [] pos) (tLenSetT X.K ta) := by
  refine ⟨fun pins s σ H Q I h => Call_ (ld_blt I hg hm PySem.boot_len ?_)⟩
  refine callWith_builtin1 (args_cons (Call_ (ld_blt I hg2 hm2 PyProof.Rows.boot_set ?_)) rfl) rfl rfl
  refine callWith_type1 (args_cons (thn (ha.run pins s σ H _ I h) fun v s1 z => args_nil ?_) na) na rfl
  obtain ⟨x, H1, I1, r1, l, ns, rfl, hq, nd, hl, q1⟩ := z
  cases r1
  obtain ⟨its, rv, pt, hz⟩ := I1.tuple hq
  have hi : IntsAre its.toArray.toList ns := ints_of_vals rv
  refine call_set_tupI ns (I1.ok.hd hc) (show s1.heap.IsTuple l its.toArray from pt) hi (by unfold scanBound; omega) fun h' tk c R1 hcn k => ?_
  obtain ⟨o, es, ep, t, ho, hex, hdt, g, nd2, hm3, hb, hf, hn, hr, hl2⟩ := R1
  have e1 : es.size = ns.length := by
    have pm : (es.toList.map keyOf).Perm ns := (List.perm_ext_iff_of_nodup nd2 nd).mpr fun z => by
      rw [← hm3 z]
      exact decide_eq_true_iff
    have := pm.length_eq
    rw [List.length_map, Array.length_toList] at this
    exact this
  have I2 : Inv X pins σ H1 { s1 with heap := h', toks := tk } := I1.kept fun b o e => k b o e
  refine args_nil (call_len_set ho hex hdt hf (by rw [e1]; omega) ⟨.int ns.length, H1, I2.tok _, ⟨_, by rw [e1]⟩, q1⟩)
/-! ### operators on numbers that are not negative -/
section
variable {X : Cx}
theorem op_andN : OpR X (binaryOp .BitAnd) (fun x y H Q => ∃ a b : Nat, x = .int a ∧ y = .int b ∧ Q (.int ((a &&& b : Nat) : Int)) H) := by
  rintro pins s σ H x y v u Q I rx ry ⟨a, b, rfl, rfl, q⟩
  refine op_and pins s σ H _ _ v u Q I rx ry ⟨a, b, rfl, rfl, ?_⟩
  show Q (.int (Builtin.bitAnd a b)) H
  rw [bitAnd_pp (by omega) (by omega)]
  exact q
theorem op_xorN : OpR X (binaryOp .BitXor) (fun x y H Q => ∃ a b : Nat, x = .int a ∧ y = .int b ∧ Q (.int ((a ^^^ b : Nat) : Int)) H) := by
  rintro pins s σ H x y v u Q I rx ry ⟨a, b, rfl, rfl, q⟩
  refine op_xor pins s σ H _ _ v u Q I rx ry ⟨a, b, rfl, rfl, ?_⟩
  show Q (.int (Builtin.bitXor a b)) H
  rw [Bits.bitXor_pp (by omega) (by omega)]
  exact q
theorem op_shrNN : OpR X (binaryOp .RShift) (fun x y H Q => ∃ a b : Nat, x = .int a ∧ y = .int b ∧ Q (.int ((a / 2 ^ b : Nat) : Int)) H) := by
  rintro pins s σ H x y v u Q I rx ry ⟨a, b, rfl, rfl, q⟩
  refine op_shrN pins s σ H _ _ v u Q I rx ry ⟨a, b, rfl, rfl, ?_⟩
  have e : (a : Int) / 2 ^ b = ((a / 2 ^ b : Nat) : Int) := by rw [Int.natCast_ediv, Int.natCast_pow] <;> rfl
  rw [e]
  exact q
theorem op_modNN : OpR X (binaryOp .Mod) (fun x y H Q => ∃ a b : Nat, x = .int a ∧ y = .int b ∧ 0 < b ∧ Q (.int ((a % b : Nat) : Int)) H) := by
  rintro pins s σ H x y v u Q I rx ry ⟨a, b, rfl, rfl, hb, q⟩
  refine op_modN pins s σ H _ _ v u Q I rx ry ⟨a, b, rfl, rfl, by show (b : Int) ≠ 0; omega, ?_⟩
  show Q (.int (Int.fmod (a : Int) b)) H
  rw [Int.fmod_eq_emod_of_nonneg _ (by omega)]
  exact q
theorem op_eqN : OpR X (compareOp .Eq) (fun x y H Q => ∃ a b : Nat, x = .int a ∧ y = .int b ∧ Q (.bl (decide (a = b))) H) := by
  rintro pins s σ H x y v u Q I rx ry ⟨a, b, rfl, rfl, q⟩
  refine op_eq pins s σ H _ _ v u Q I rx ry ⟨rfl, ?_⟩
  have e : decide (V.int (a : Int) = V.int (b : Int)) = decide (a = b) := decide_eq_decide.mpr ⟨fun z => by injection z with z; omega, fun z => by rw [z]⟩
  rw [e]
  exact q
theorem op_neN : OpR X (compareOp .NotEq) (fun x y H Q => ∃ a b : Nat, x = .int a ∧ y = .int b ∧ Q (.bl (!decide (a = b))) H) := by
  rintro pins s σ H x y v u Q I rx ry ⟨a, b, rfl, rfl, q⟩
  refine op_ne pins s σ H _ _ v u Q I rx ry ⟨rfl, ?_⟩
  have e : decide (V.int (a : Int) = V.int (b : Int)) = decide (a = b) := decide_eq_decide.mpr ⟨fun z => by injection z with z; omega, fun z => by rw [z]⟩
  rw [e]
  exact q
theorem op_ltN : OpR X (compareOp .Lt) (fun x y H Q => ∃ a b : Nat, x = .int a ∧ y = .int b ∧ Q (.bl (decide (a < b))) H) := by
  rintro pins s σ H x y v u Q I rx ry ⟨a, b, rfl, rfl, q⟩
  refine op_lt pins s σ H _ _ v u Q I rx ry ⟨a, b, rfl, rfl, ?_⟩
  have e : decide ((a : Int) < b) = decide (a < b) := decide_eq_decide.mpr (by omega)
  show Q (.bl (decide ((a : Int) < b))) H
  rw [e]
  exact q
theorem op_gtN : OpR X (compareOp .Gt) (fun x y H Q => ∃ a b : Nat, x = .int a ∧ y = .int b ∧ Q (.bl (decide (b < a))) H) := by
  rintro pins s σ H x y v u Q I rx ry ⟨a, b, rfl, rfl, q⟩
  refine op_gt pins s σ H _ _ v u Q I rx ry ⟨a, b, rfl, rfl, ?_⟩
  have e : decide ((b : Int) < a) = decide (b < a) := decide_eq_decide.mpr (by omega)
  show Q (.bl (decide ((b : Int) < a))) H
  rw [e]
  exact q
theorem op_pow2 : OpR X (binaryOp .LShift) (fun x y H Q => ∃ k : Nat, x = .int 1 ∧ y = .int (k : Int) ∧ k ≤ 1000 ∧ Q (.int ((2 ^ k : Nat) : Int)) H) := by
  rintro pins s σ H x y v u Q I rx ry ⟨k, rfl, rfl, hk, q⟩
  refine op_oneShl pins s σ H _ _ v u Q I rx ry ⟨k, rfl, rfl, by omega, ?_⟩
  have e : (2 : Int) ^ k = ((2 ^ k : Nat) : Int) := by rw [Int.natCast_pow] <;> rfl
  rw [e]
  exact q
/-- an int as a test -/
def tInt (ta : TE) : TT := fun σ H Q => ta σ H fun x H' => ∃ n : Nat, x = .int (n : Int) ∧ Q (decide (n ≠ 0)) H'
theorem pt_int {a : Expr} {ta : TE} (ha : PE X a ta) (he : ∀ whole, isTrue a X.env whole = (do let v ← whole; standAt a.pos; holding [v] (truthy v))) : PT X a (tInt ta) := by
  refine ⟨fun pins s σ H Q I h => isTrue_plain (thn (ha.run pins s σ H _ I h) fun v s1 z => ?_) (he _)⟩
  obtain ⟨x, H1, I1, r1, n, rfl, q⟩ := z
  obtain ⟨t, rfl⟩ := r1
  have e : ((n : Int) != 0) = decide (n ≠ 0) := by cases n <;> rfl
  exact PySem.P.truthy_int ⟨H1, I1, by rw [e]; exact q⟩
end
end Vf

set_option Elab.async false
set_option linter.all false
set_option maxRecDepth 100000
set_option maxHeartbeats 2000000
namespace K11
open PySem PySem.Spec PyProof.Rows L2 Vf
section
variable {P : Program} {w : World} {K : PySem.W.Frag} {mg : Str → Option Value} {base : Heap}
theorem int_zero_add (i : Nat) : V.int (0 + (i : Int)) = V.int (i : Int) := by rw [Int.zero_add]
theorem odd_bit (m i : Nat) : decide ((m / 2 ^ i) &&& 1 ≠ 0) = m.testBit i := by
  rw [Nat.testBit_eq_decide_div_mod_eq, Nat.and_one_is_mod]
  rcases Nat.mod_two_eq_zero_or_one (m / 2 ^ i) with h | h <;> rw [h] <;> rfl
def sp_weight : Sp := fun vs H Q _ => ∃ m : Nat, vs = [.int m] ∧ m < 2 ^ 24 ∧ Q (.int (pc m : Nat)) H
theorem ok_weight {f : Addr} {fd : FuncData} (F : Fun K "weight" "weight" s_weight f fd) (C_check_word : Cal P w K mg base "check_word" 5 ["word", "places"] [.int 24] sp_check_word) :
    FnOk P w K mg base CX0 6 f fd ["word"] sp_weight := by
  refine F.ok sc_weight (fun vs H Q E h => ?_) (fun cdv A outer s H vs Q E hr h => ?_)
  · obtain ⟨i, rfl, _⟩ := h
    rfl
  · obtain ⟨m, rfl, h1, q⟩ := h
    refine ⟨_, (pss_cons (ps_expr (pe_cal C_check_word (hr.mono (by decide)) (by rfl) (pa_cons (pv 0) pa_nil)))
    (pss_cons (ps_set (i := 1) sc_weight.nd rfl (Or.inl rfl) (pv 0))
    (pss_cons (ps_set (i := 2) sc_weight.nd rfl (Or.inl rfl) pe_int)
    (pss_cons (ps_while PassesOwn.never (pt_cmpR op_gtN (pv 1) pe_int (nomark _)) (pss_cons (ps_set (i := 1) sc_weight.nd rfl (Or.inl rfl) (pe_op op_andN (pv 1) (pe_op op_subN (pv 1) pe_int)))
    (pss_one (ps_aug (i := 2) sc_weight.nd rfl (Or.inl rfl) pe_int ip_add))))
    (pss_one (ps_ret (pv 2))))))), ?_⟩
    refine ⟨.int m, rfl, m, rfl, h1, .int m, rfl, ?_⟩
    refine while_by (fun σ H' => ∃ l c : Nat, σ = [some (.int m), some (.int l), some (.int c)] ∧ c + pc l = pc m ∧ l ≤ m ∧ H' = H)
      (fun σ _ => match σ with | [_, some (.int l), _] => l.toNat | _ => 0) ⟨m, 0, rfl, by omega, Nat.le_refl _, rfl⟩ ?_
      (fun σ H Q Q' f ⟨v, e, i, j, e1, e2, k, e3, q⟩ => ⟨v, e, i, j, e1, e2, k, e3, f _ _ q⟩)
    rintro σ H1 ⟨l, c, rfl, e, lm, rfl⟩
    refine ⟨.int l, rfl, l, 0, rfl, rfl, _, rfl, ite2 (fun hb => ?_) (fun hb => ?_)⟩
    · have l0 : 0 < l := of_decide_eq_true hb
      have e2 := pc_off l0 (by omega)
      have e3 := off_lt l0
      refine ⟨.int l, rfl, .int l, rfl, l, 1, rfl, rfl, l0, l, l - 1, rfl, rfl, ?_⟩
      refine ⟨.int c, rfl, c, 1, rfl, rfl, ⟨l &&& (l - 1), c + 1, rfl, by omega, by omega, rfl⟩, ?_⟩
      show ((l &&& (l - 1) : Nat) : Int).toNat < (l : Int).toNat
      omega
    · have l0 : l = 0 := by
        have : ¬ 0 < l := fun z => hb (decide_eq_true z)
        omega
      subst l0
      rw [pc_zero, Nat.add_zero] at e
      refine ⟨.int c, rfl, ?_⟩
      rw [e]
      exact q
def sp_are_even : Sp := fun vs H Q _ => ∃ a b : Nat, vs = [.int a, .int b] ∧ a < 2 ^ 24 ∧ b < 2 ^ 24 ∧ Q (.bl (decide (pc (a &&& b) % 2 = 0))) H
theorem ok_are_even {f : Addr} {fd : FuncData} (F : Fun K "are_even" "are_even" s_are_even f fd) (C_check_word : Cal P w K mg base "check_word" 5 ["word", "places"] [.int 24] sp_check_word)
    (C_weight : Cal P w K mg base "weight" 6 ["word"] [] sp_weight) : FnOk P w K mg base CX0 7 f fd ["word", "other"] sp_are_even := by
  refine F.ok sc_are_even (fun vs H Q E h => ?_) (fun cdv A outer s H vs Q E hr h => ?_)
  · obtain ⟨a, b, rfl, _⟩ := h
    rfl
  · obtain ⟨a, b, rfl, h1, h2, q⟩ := h
    refine ⟨_, (pss_cons (ps_expr (pe_cal C_check_word (hr.mono (by decide)) (by rfl) (pa_cons (pv 0) pa_nil)))
    (pss_cons (ps_expr (pe_cal C_check_word (hr.mono (by decide)) (by rfl) (pa_cons (pv 1) pa_nil)))
    (pss_one (ps_ret (pe_cmpR op_eqN (pe_op op_modNN (pe_cal C_weight (hr.mono (by decide)) (by rfl) (pa_cons (pe_op op_andN (pv 0) (pv 1)) pa_nil)) pe_int) pe_int (nomark _)))))), ?_⟩
    have h3 : a &&& b < 2 ^ 24 := Nat.lt_of_le_of_lt Nat.and_le_left h1
    exact ⟨.int a, rfl, a, rfl, h1, .int b, rfl, b, rfl, h2, .int a, rfl, .int b, rfl, a, b, rfl, rfl, a &&& b, rfl, h3, pc (a &&& b), 2, rfl, rfl, Nat.zero_lt_two, _, 0, rfl, rfl, q⟩
def sp_places : Sp := fun vs0 H Q _ => ∃ m : Nat, vs0 = [.int m] ∧ m < 2 ^ 24 ∧ ∀ H' p, Same H H' → H p = none → H' p = some (.lst (vs (spots m))) → Q (.ref p) H'
theorem ok_places_of {f : Addr} {fd : FuncData} (F : Fun K "places_of" "places_of" s_places_of f fd) (C_check_word : Cal P w K mg base "check_word" 5 ["word", "places"] [.int 24] sp_check_word)
    {t : Tok} (g_MOST_PLACES : mg "MOST_PLACES" = some (.int 24 t)) (m_range : mg "range" = none) : FnOk P w K mg base CX0 6 f fd ["word"] sp_places := by
  refine F.ok sc_places_of (fun vs H Q E h => ?_) (fun cdv A outer s H vs Q E hr h => ?_)
  · obtain ⟨a, rfl, _⟩ := h
    rfl
  · obtain ⟨m, rfl, h1, q⟩ := h
    refine ⟨_, (pss_cons (ps_expr (pe_cal C_check_word (hr.mono (by decide)) (by rfl) (pa_cons (pv 0) pa_nil)))
    (pss_one (ps_ret (pe_lc (own := [("place", 1)]) (g := gName 1) (by rfl) sc_places_of.nd (pi_range1 (by rfl) m_range (pa_cons (pe_glob (v := .int 24) rfl g_MOST_PLACES ⟨_, rfl⟩) pa_nil)) (blkOk_by (own := [("place", 1)]) (N := N_places_of) (sc := defScope s_places_of) (by decide +kernel)) (fun _ _ _ _ _ => pg_name (i := 1) sc_places_of.nd rfl (Or.inl rfl)) (fun _ _ _ _ _ => (pts_one (pt_int (pe_op op_andN (pe_op op_shrNN (pv 0) (pv 1)) pe_int) (by intro _; rfl)))) (fun _ _ _ _ _ => (pv 1)))))), ?_⟩
    refine ⟨.int m, rfl, m, rfl, h1, 24, rfl, by decide, by decide, fun D hD => ?_⟩
    refine lc_range (lo := 0) (n := 24) (fun i H' => Same H H' ∧ H' D = some (.lst (Vf.vs ((List.range i).filter fun j => m.testBit j)))) ⟨same_new hD, upd_same⟩
      (fun i H' hi hP => ?_) fun H' hP => q H' D hP.1 hD hP.2
    obtain ⟨sm, eD⟩ := hP
    refine ⟨rfl, .int m, rfl, .int (0 + (i : Int)), rfl, m, i, rfl, int_zero_add i, m / 2 ^ i, 1, rfl, rfl, (m / 2 ^ i) &&& 1, rfl, ?_⟩
    rw [odd_bit]
    have key : Vf.vs ((List.range (i + 1)).filter fun j => m.testBit j) = Vf.vs ((List.range i).filter fun j => m.testBit j) ++ (if m.testBit i = true then [V.int (i : Nat)] else []) := by
      unfold Vf.vs
      rw [List.range_succ, List.filter_append, List.map_append]
      congr 1
      by_cases hb : m.testBit i = true <;> simp [hb]
    refine ite2 (fun hb => ?_) (fun hb => ?_)
    · refine ⟨.int (0 + (i : Int)), rfl, _, eD, ?_, fun b o e => ?_, ?_⟩
      · unfold Vf.vs
        rw [List.length_map]
        exact sl_lt (Nat.le_trans (List.length_filter_le _ _) (by rw [List.length_range]; omega))
      · rw [upd_ne (ne_of_none e hD)]
        exact sm b o e
      · rw [upd_same, key, if_pos hb, int_zero_add]
    · refine ⟨sm, ?_⟩
      rw [key, if_neg hb, List.append_nil]
      exact eD
end
end K11

set_option Elab.async false
set_option linter.all false
set_option maxRecDepth 100000
set_option maxHeartbeats 2000000
namespace K11
open PySem PySem.Spec PyProof.Rows L2 Vf
theorem yes_ {σ2 : L2.St} {H2 : Hp} {R : Bool → Hp → Prop} (h : R true H2) : tYes σ2 H2 R := h
theorem nd_int {l : List Nat} (h : l.Nodup) : (l.map fun i : Nat => (i : Int)).Nodup := by
  unfold List.Nodup
  rw [List.pairwise_map]
  exact h.imp fun n z => n (by omega)
theorem all_true (n : Nat) : (List.replicate n true).all id = true := by
  rw [List.all_eq_true]
  intro x hx
  rw [(List.mem_replicate.mp hx).2]
  rfl
theorem get_vs {l : List Nat} {i : Nat} {x : V} (h : (vs l)[i]? = some x) : ∃ j, l[i]? = some j ∧ x = .int (j : Nat) := by
  unfold vs at h
  rw [List.getElem?_map] at h
  cases e : l[i]? with
  | none => rw [e] at h; cases h
  | some j => rw [e] at h; exact ⟨j, rfl, (Option.some.inj h).symm⟩
theorem len_vs (l : List Nat) : (vs l).length = l.length := by unfold vs; rw [List.length_map]
theorem sum_cast : ∀ l : List Nat, (l.map fun i : Nat => ((2 ^ i : Nat) : Int)).sum = (((l.map (2 ^ ·)).sum : Nat) : Int)
  | [] => rfl
  | x :: l => by
    rw [List.map_cons, List.sum_cons, sum_cast l, List.map_cons, List.sum_cons]
    omega
section
variable {P : Program} {w : World} {K : PySem.W.Frag} {mg : Str → Option Value} {base : Heap}
def sp_are_spots : Sp := fun vs0 H Q _ => ∃ (a : Addr) (l : List Nat), vs0 = [.int 24, .ref a] ∧ Sq H a (vs l) ∧ l.Nodup ∧ (∀ i ∈ l, i < 24) ∧ l.length ≤ 24 ∧ ∀ H', Same H H' → Q (.bl true) H'
theorem ok_are_spots {f : Addr} {fd : FuncData} (F : Fun K "are_spots" "are_spots" s_are_spots f fd) (C_is_list : Cal P w K mg base "is_list" 1 ["value"] [] sp_is_list) (C_is_count : Cal P w K mg base "is_count" 2 ["value"] [] sp_is_count)
    (m_all : mg "all" = none) (m_len : mg "len" = none) (m_set : mg "set" = none) : FnOk P w K mg base CX0 3 f fd ["places", "value"] sp_are_spots := by
  refine F.ok sc_are_spots (fun vs H Q E h => ?_) (fun cdv A outer s H vs Q E hr h => ?_)
  · obtain ⟨a, l, rfl, _⟩ := h
    rfl
  · obtain ⟨a, l, rfl, hS, nd, h24, hl, q⟩ := h
    -- the turns of the comprehension
    have turn : ∀ {H1 : Hp} {D : Addr}, H1 D = none → ∀ (i : Nat) (x : V) (H' : Hp), (Vf.vs l)[i]? = some x → (Same H1 H' ∧ H' D = some (.lst ((List.replicate i true).map V.bl))) →
        ∃ n : Nat, x = .int (n : Nat) ∧ n < 24 ∧ ((List.replicate i true).map V.bl).length < sizeLine ∧
          (Same H1 (upd H' D (.lst (((List.replicate i true).map V.bl) ++ [V.bl true]))) ∧ upd H' D (.lst (((List.replicate i true).map V.bl) ++ [V.bl true])) D = some (.lst ((List.replicate (i + 1) true).map V.bl))) := by
      intro H1 D hD i x H' hx ⟨sm, eD⟩
      obtain ⟨n, en, rfl⟩ := get_vs hx
      have il : i < l.length := (List.getElem?_eq_some_iff.mp en).1
      refine ⟨n, rfl, h24 n (List.mem_of_getElem? en), ?_, fun b o e => ?_, ?_⟩
      · rw [List.length_map, List.length_replicate]
        exact sl_lt (by omega)
      · rw [upd_ne (ne_of_none e hD)]
        exact sm b o e
      · rw [upd_same, List.replicate_succ', List.map_append]
        rfl
    rcases hS with hS | hS
    · refine ⟨_, (pss_cons (ps_if (PW.pt (pw_or (pt_not (pt_val (pe_cal C_is_list (hr.mono (by decide)) (by rfl) (pa_cons (pv 1) pa_nil)))) (pw_or1 (pt_not (pt_val (pe_callB (cr_all rfl) (by rfl) m_all (by decide +kernel) (pa_cons (pe_lc (own := [("spot", 2)]) (g := gName 2) (by rfl) sc_are_spots.nd (pi_list (pv 1)) (blkOk_by (own := [("spot", 2)]) (N := N_are_spots) (sc := defScope s_are_spots) (by decide +kernel)) (fun _ _ _ _ _ => pg_name (i := 2) sc_are_spots.nd rfl (Or.inl rfl)) (fun _ _ _ _ _ => pts_nil) (fun _ _ _ _ _ => (pe_and (pe_cal C_is_count (hr.mono (by decide)) (by rfl) (pa_cons (pv 2) pa_nil)) (pe_one (pe_cmpR op_ltN (pv 2) (pv 0) (nomark _)))))) pa_nil))))))) (pss_one (ps_ret pe_bl)) pss_nil)
    (pss_one (ps_ret (pe_cmpR op_eq (RZ.pe_lenSetI (by rfl) m_len (by rfl) m_set (pv 1)) (pe_callB call_len_seq (by rfl) m_len (by decide +kernel) (pa_cons (pv 1) pa_nil)) (nomark _))))), ?_⟩
      refine ⟨.ref a, rfl, a, _, rfl, .inl hS, fun H1 s1 => ⟨true, rfl, iteF ?_⟩⟩
      have hL : SqL K H1 a (Vf.vs l) := .inl (.inl (s1 _ _ hS))
      refine ⟨.ref a, rfl, a, rfl, ⟨_, hL⟩, fun D hD => ?_⟩
      refine lc_list (K := K) (a := a) (xs := Vf.vs l) (fun i H' => Same H1 H' ∧ H' D = some (.lst ((List.replicate i true).map V.bl))) ⟨same_new hD, upd_same⟩
        (fun i H' _ hP => hP.1.seq hL) (fun i x H' hx hP => ?_) fun H' hP => ?_
      · obtain ⟨n, rfl, hn, hz, hN⟩ := turn hD i x H' hx hP
        refine ⟨rfl, yes_ ?_⟩
        refine iteT ?_
        refine ⟨.int n, rfl, n, rfl, true, bl_t (show (0 : Int) ≤ (n : Int) by omega), iteT ?_⟩
        refine ⟨.int n, rfl, .int 24, rfl, n, 24, rfl, rfl, _, hP.2, hz, ?_⟩
        rw [decide_eq_true hn]
        exact hN
      · obtain ⟨sm, eD⟩ := hP
        have sT := s1.trans sm
        have hL2 : SqL K H' a (Vf.vs l) := sm.seq hL
        refine ⟨D, _, rfl, .inl (.inl eD), true, ?_, iteF ?_⟩
        · rw [all_true]
        · refine ⟨.ref a, rfl, a, l.map (fun i : Nat => (i : Int)), rfl, ?_, nd_int nd, ?_, .ref a, rfl, a, Vf.vs l, rfl, .inl hL2, rfl, ?_⟩
          · rw [← vs_int]
            exact hL2
          · rw [List.length_map]
            omega
          · have e : decide (V.int ((l.map (fun i : Nat => (i : Int))).length : Nat) = V.int ((Vf.vs l).length : Nat)) = true := by
              rw [List.length_map, len_vs]
              exact decide_eq_true rfl
            rw [e]
            exact q _ sT
    · refine ⟨_, (pss_cons (ps_if (PW.pt (pw_or (pt_not (pt_val (pe_cal C_is_list (hr.mono (by decide)) (by rfl) (pa_cons (pv 1) pa_nil)))) (pw_or1 (pt_not (pt_val (pe_callB (cr_all rfl) (by rfl) m_all (by decide +kernel) (pa_cons (pe_lc (own := [("spot", 2)]) (g := gName 2) (by rfl) sc_are_spots.nd (pi_tup (pv 1)) (blkOk_by (own := [("spot", 2)]) (N := N_are_spots) (sc := defScope s_are_spots) (by decide +kernel)) (fun _ _ _ _ _ => pg_name (i := 2) sc_are_spots.nd rfl (Or.inl rfl)) (fun _ _ _ _ _ => pts_nil) (fun _ _ _ _ _ => (pe_and (pe_cal C_is_count (hr.mono (by decide)) (by rfl) (pa_cons (pv 2) pa_nil)) (pe_one (pe_cmpR op_ltN (pv 2) (pv 0) (nomark _)))))) pa_nil))))))) (pss_one (ps_ret pe_bl)) pss_nil)
    (pss_one (ps_ret (pe_cmpR op_eq (pe_lenSetT (by rfl) m_len (by rfl) m_set (pv 1)) (pe_callB call_len_seq (by rfl) m_len (by decide +kernel) (pa_cons (pv 1) pa_nil)) (nomark _))))), ?_⟩
      refine ⟨.ref a, rfl, a, _, rfl, .inr hS, fun H1 s1 => ⟨true, rfl, iteF ?_⟩⟩
      have hL : SqT K H1 a (Vf.vs l) := .inl (.inl (s1 _ _ hS))
      refine ⟨.ref a, rfl, a, rfl, ⟨_, hL⟩, fun D hD => ?_⟩
      have keep : ∀ H', Same H1 H' → SqT K H' a (Vf.vs l) := fun H' sm => .inl (.inl (sm _ _ (s1 _ _ hS)))
      refine lc_tup (K := K) (a := a) (xs := Vf.vs l) (fun i H' => Same H1 H' ∧ H' D = some (.lst ((List.replicate i true).map V.bl))) ⟨same_new hD, upd_same⟩
        (fun i H' _ hP => keep H' hP.1) (fun i x H' hx hP => ?_) fun H' hP => ?_
      · obtain ⟨n, rfl, hn, hz, hN⟩ := turn hD i x H' hx hP
        refine ⟨rfl, yes_ ?_⟩
        refine iteT ?_
        refine ⟨.int n, rfl, n, rfl, true, bl_t (show (0 : Int) ≤ (n : Int) by omega), iteT ?_⟩
        refine ⟨.int n, rfl, .int 24, rfl, n, 24, rfl, rfl, _, hP.2, hz, ?_⟩
        rw [decide_eq_true hn]
        exact hN
      · obtain ⟨sm, eD⟩ := hP
        have sT := s1.trans sm
        have hL2 : SqT K H' a (Vf.vs l) := keep H' sm
        refine ⟨D, _, rfl, .inl (.inl eD), true, ?_, iteF ?_⟩
        · rw [all_true]
        · refine ⟨.ref a, rfl, a, l.map (fun i : Nat => (i : Int)), rfl, ?_, nd_int nd, ?_, .ref a, rfl, a, Vf.vs l, rfl, .inr hL2, rfl, ?_⟩
          · rw [← vs_int]
            exact hL2
          · rw [List.length_map]
            omega
          · have e : decide (V.int ((l.map (fun i : Nat => (i : Int))).length : Nat) = V.int ((Vf.vs l).length : Nat)) = true := by
              rw [List.length_map, len_vs]
              exact decide_eq_true rfl
            rw [e]
            exact q _ sT
def sp_word_of : Sp := fun vs0 H Q _ => ∃ (a : Addr) (l : List Nat), vs0 = [.ref a] ∧ Sq H a (vs l) ∧ l.Nodup ∧ (∀ i ∈ l, i < 24) ∧ l.length ≤ 24 ∧ ∀ H', Same H H' → Q (.int (((l.map (2 ^ ·)).sum : Nat) : Int)) H'
theorem ok_word_of {f : Addr} {fd : FuncData} (F : Fun K "word_of" "word_of" s_word_of f fd) (C_are_spots : Cal P w K mg base "are_spots" 3 ["places", "value"] [] sp_are_spots)
    {t : Tok} (g_MOST_PLACES : mg "MOST_PLACES" = some (.int 24 t)) (m_sum : mg "sum" = none) : FnOk P w K mg base CX0 4 f fd ["spots"] sp_word_of := by
  refine F.ok sc_word_of (fun vs H Q E h => ?_) (fun cdv A outer s H vs Q E hr h => ?_)
  · obtain ⟨a, l, rfl, _⟩ := h
    rfl
  · obtain ⟨a, l, rfl, hS, nd, h24, hl, q⟩ := h
    have turn : ∀ {H1 : Hp} {D : Addr}, H1 D = none → ∀ (i : Nat) (x : V) (H' : Hp), (Vf.vs l)[i]? = some x → (Same H1 H' ∧ H' D = some (.lst (((l.take i).map fun i : Nat => ((2 ^ i : Nat) : Int)).map V.int))) →
        ∃ n : Nat, x = .int (n : Nat) ∧ n < 24 ∧ (((l.take i).map fun i : Nat => ((2 ^ i : Nat) : Int)).map V.int).length < sizeLine ∧
          (Same H1 (upd H' D (.lst ((((l.take i).map fun i : Nat => ((2 ^ i : Nat) : Int)).map V.int) ++ [V.int ((2 ^ n : Nat) : Int)]))) ∧
            upd H' D (.lst ((((l.take i).map fun i : Nat => ((2 ^ i : Nat) : Int)).map V.int) ++ [V.int ((2 ^ n : Nat) : Int)])) D = some (.lst (((l.take (i + 1)).map fun i : Nat => ((2 ^ i : Nat) : Int)).map V.int))) := by
      intro H1 D hD i x H' hx ⟨sm, eD⟩
      obtain ⟨n, en, rfl⟩ := get_vs hx
      refine ⟨n, rfl, h24 n (List.mem_of_getElem? en), ?_, fun b o e => ?_, ?_⟩
      · rw [List.length_map, List.length_map, List.length_take]
        exact sl_lt (by omega)
      · rw [upd_ne (ne_of_none e hD)]
        exact sm b o e
      · rw [upd_same, List.take_add_one, en, List.map_append, List.map_append]
        rfl
    have fin : ((l.take (Vf.vs l).length).map fun i : Nat => ((2 ^ i : Nat) : Int)) = l.map fun i : Nat => ((2 ^ i : Nat) : Int) := by
      rw [len_vs, List.take_length]
    rcases hS with hS | hS
    · refine ⟨_, (pss_cons (ps_if (pt_not (pt_val (pe_cal C_are_spots (hr.mono (by decide)) (by rfl) (pa_cons (pe_glob (v := .int 24) rfl g_MOST_PLACES ⟨_, rfl⟩) (pa_cons (pv 0) pa_nil))))) (pss_one ps_never) pss_nil)
    (pss_one (ps_ret (pe_callB (cr_sum rfl) (by rfl) m_sum (by decide +kernel) (pa_cons (pe_lc (own := [("spot", 1)]) (g := gName 1) (by rfl) sc_word_of.nd (pi_list (pv 0)) (blkOk_by (own := [("spot", 1)]) (N := N_word_of) (sc := defScope s_word_of) (by decide +kernel)) (fun _ _ _ _ _ => pg_name (i := 1) sc_word_of.nd rfl (Or.inl rfl)) (fun _ _ _ _ _ => pts_nil) (fun _ _ _ _ _ => (pe_op op_pow2 pe_int (pv 1)))) pa_nil))))), ?_⟩
      refine ⟨.ref a, rfl, a, l, rfl, .inl hS, nd, h24, hl, fun H1 s1 => ⟨true, rfl, iteF ?_⟩⟩
      have hL : SqL K H1 a (Vf.vs l) := .inl (.inl (s1 _ _ hS))
      refine ⟨.ref a, rfl, a, rfl, ⟨_, hL⟩, fun D hD => ?_⟩
      refine lc_list (K := K) (a := a) (xs := Vf.vs l) (fun i H' => Same H1 H' ∧ H' D = some (.lst (((l.take i).map fun i : Nat => ((2 ^ i : Nat) : Int)).map V.int))) ⟨same_new hD, upd_same⟩
        (fun i H' _ hP => hP.1.seq hL) (fun i x H' hx hP => ?_) fun H' hP => ?_
      · obtain ⟨n, rfl, hn, hz, hN⟩ := turn hD i x H' hx hP
        refine ⟨rfl, yes_ ?_⟩
        refine iteT ?_
        exact ⟨.int n, rfl, n, rfl, rfl, by omega, _, hP.2, hz, hN⟩
      · obtain ⟨sm, eD⟩ := hP
        rw [fin] at eD
        refine ⟨D, _, rfl, .inl (.inl eD), ?_⟩
        rw [sum_cast]
        exact q _ (s1.trans sm)
    · refine ⟨_, (pss_cons (ps_if (pt_not (pt_val (pe_cal C_are_spots (hr.mono (by decide)) (by rfl) (pa_cons (pe_glob (v := .int 24) rfl g_MOST_PLACES ⟨_, rfl⟩) (pa_cons (pv 0) pa_nil))))) (pss_one ps_never) pss_nil)
    (pss_one (ps_ret (pe_callB (cr_sum rfl) (by rfl) m_sum (by decide +kernel) (pa_cons (pe_lc (own := [("spot", 1)]) (g := gName 1) (by rfl) sc_word_of.nd (pi_tup (pv 0)) (blkOk_by (own := [("spot", 1)]) (N := N_word_of) (sc := defScope s_word_of) (by decide +kernel)) (fun _ _ _ _ _ => pg_name (i := 1) sc_word_of.nd rfl (Or.inl rfl)) (fun _ _ _ _ _ => pts_nil) (fun _ _ _ _ _ => (pe_op op_pow2 pe_int (pv 1)))) pa_nil))))), ?_⟩
      refine ⟨.ref a, rfl, a, l, rfl, .inr hS, nd, h24, hl, fun H1 s1 => ⟨true, rfl, iteF ?_⟩⟩
      have keep : ∀ H', Same H1 H' → SqT K H' a (Vf.vs l) := fun H' sm => .inl (.inl (sm _ _ (s1 _ _ hS)))
      refine ⟨.ref a, rfl, a, rfl, ⟨_, keep H1 (Same.refl _)⟩, fun D hD => ?_⟩
      refine lc_tup (K := K) (a := a) (xs := Vf.vs l) (fun i H' => Same H1 H' ∧ H' D = some (.lst (((l.take i).map fun i : Nat => ((2 ^ i : Nat) : Int)).map V.int))) ⟨same_new hD, upd_same⟩
        (fun i H' _ hP => keep H' hP.1) (fun i x H' hx hP => ?_) fun H' hP => ?_
      · obtain ⟨n, rfl, hn, hz, hN⟩ := turn hD i x H' hx hP
        refine ⟨rfl, yes_ ?_⟩
        refine iteT ?_
        exact ⟨.int n, rfl, n, rfl, rfl, by omega, _, hP.2, hz, hN⟩
      · obtain ⟨sm, eD⟩ := hP
        rw [fin] at eD
        refine ⟨D, _, rfl, .inl (.inl eD), ?_⟩
        rw [sum_cast]
        exact q _ (s1.trans sm)
end
end K11

set_option Elab.async false
set_option linter.all false
set_option maxRecDepth 100000
set_option maxHeartbeats 2000000
namespace Vf
open PySem PySem.Spec PyProof.Rows L2
section
variable {X : Cx}
theorem call_intN : CallR X (.type "int") (fun xs H Q => ∃ n : Nat, xs = [.int (n : Int)] ∧ Q (.int (n : Int)) H) := by
  rintro pins s σ H xs us Q I r ⟨n, rfl, q⟩
  exact call_int1 pins s σ H _ us Q I r (.inl ⟨n, rfl, q⟩)
theorem call_divmodN : CallR X (.builtin "divmod") (fun xs H Q => ∃ a b : Nat, xs = [.int (a : Int), .int (b : Int)] ∧ 0 < b ∧ b < 1073741824 ∧
    ∀ p, H p = none → Q (.ref p) (upd H p (.tup [.int ((a / b : Nat) : Int), .int ((a % b : Nat) : Int)]))) := by
  rintro pins s σ H xs us Q I r ⟨a, b, rfl, h1, h2, q⟩
  refine call_divmod pins s σ H _ us Q I r ⟨a, b, rfl, ⟨by omega, by omega⟩, fun p hp => ?_⟩
  have e1 : (a : Int) / b = ((a / b : Nat) : Int) := (Int.natCast_ediv _ _).symm
  have e2 : (a : Int) % b = ((a % b : Nat) : Int) := (Int.natCast_emod _ _).symm
  rw [e1, e2]
  exact q p hp
end
/-- a pot: what is left of the cell's own digits, and the mixed number -/
def Pot (H : Hp) (p : Addr) : Prop := ∃ x y : Nat, H p = some (.lst [.int (x : Int), .int (y : Int)]) ∧ y < 2147483648
theorem Pot.same {H H' : Hp} {p : Addr} (s : Same H H') (h : Pot H p) : Pot H' p := by
  obtain ⟨x, y, e, l⟩ := h
  exact ⟨x, y, s _ _ e, l⟩
theorem Pot.upd {H : Hp} {p q : Addr} {o : HO} (n : p ≠ q) (h : Pot H p) : Pot (upd H q o) p := by
  obtain ⟨x, y, e, l⟩ := h
  exact ⟨x, y, by rw [upd_ne n]; exact e, l⟩
theorem Pot.some {H : Hp} {p : Addr} (h : Pot H p) : ∃ o, H p = some o := by
  obtain ⟨x, y, e, l⟩ := h
  exact ⟨_, e⟩
/-- changes at a new place alone -/
theorem But.new {p q : Addr} {H H' : Hp} {o : HO} (s : But p H H') (h : H q = none) : But p H (L2.upd H' q o) := fun b x n e => by
  show L2.upd H' q o b = _
  rw [upd_ne (ne_of_none e h)]
  exact s b x n e
end Vf
namespace K11
open PySem PySem.Spec PyProof.Rows L2 Vf
abbrev s_law_pot : Stmt := topS 21
abbrev N_law_pot : List Str := ["_law_script", "_law_k", "_law_cell"]
theorem sc_law_pot : FnScope N_law_pot ["_law_script", "_law_k"] (defScope s_law_pot) := ⟨rfl, rfl, rfl, by decide +kernel, rfl, by decide +kernel, by decide +kernel⟩
abbrev s_law_draw : Stmt := topS 22
abbrev N_law_draw : List Str := ["_law_pot_here", "_law_size", "_law_digit"]
theorem sc_law_draw : FnScope N_law_draw ["_law_pot_here", "_law_size"] (defScope s_law_draw) := ⟨rfl, rfl, rfl, by decide +kernel, rfl, by decide +kernel, by decide +kernel⟩
abbrev s_law_weight : Stmt := topS 23
abbrev N_law_weight : List Str := ["_law_word", "_law_found", "_law_left", "_law_bit"]
theorem sc_law_weight : FnScope N_law_weight ["_law_word"] (defScope s_law_weight) := ⟨rfl, rfl, rfl, by decide +kernel, rfl, by decide +kernel, by decide +kernel⟩
abbrev s_law_mixed : Stmt := topS 24
abbrev N_law_mixed : List Str := ["_law_pot_here", "_law_some", "_law_left", "_law_found", "_law_turn"]
theorem sc_law_mixed : FnScope N_law_mixed ["_law_pot_here", "_law_some"] (defScope s_law_mixed) := ⟨rfl, rfl, rfl, by decide +kernel, rfl, by decide +kernel, by decide +kernel⟩
abbrev s_law_spots : Stmt := topS 25
abbrev N_law_spots : List Str := ["_law_word", "_law_place"]
theorem sc_law_spots : FnScope N_law_spots ["_law_word"] (defScope s_law_spots) := ⟨rfl, rfl, rfl, by decide +kernel, rfl, by decide +kernel, by decide +kernel⟩
theorem fm_lo (a : Int) {b : Int} (h : 0 < b) : 0 ≤ a.fmod b := by
  rw [Int.fmod_eq_emod_of_nonneg _ (by omega)]
  exact Int.emod_nonneg _ (by omega)
section
variable {P : Program} {w : World} {K : PySem.W.Frag} {mg : Str → Option Value} {base : Heap}
theorem pot_new {H : Hp} {p : Addr} {c : Int} {y : Nat} (h : y < 2147483648) : Pot (upd H p (.lst [.int (if c > 0 then c else 0), .int (y : Int)])) p := by
  refine ⟨c.toNat, y, ?_, h⟩
  have e : (if c > 0 then c else 0) = ((c.toNat : Nat) : Int) := by
    split <;> omega
  rw [upd_same, e]
def sp_pot (K : PySem.W.Frag) : Sp := fun vs0 H Q _ => ∃ (a : Addr) (ns : List Int) (k : Nat), vs0 = [.ref a, .int (k : Int)] ∧ SqL K H a (ns.map V.int) ∧ k < 1000 ∧
  ∀ H' p, Same H H' → H p = none → Pot H' p → Q (.ref p) H'
theorem ok_law_pot {f : Addr} {fd : FuncData} (F : Fun K "_law_pot" "_law_pot" s_law_pot f fd) (m_len : mg "len" = none) (m_abs : mg "abs" = none) (m_max : mg "max" = none) (m_int : mg "int" = none) :
    FnOk P w K mg base CX0 1 f fd ["_law_script", "_law_k"] (sp_pot K) := by
  refine F.ok sc_law_pot (fun vs H Q E h => ?_) (fun cdv A outer s H vs Q E hr h => ?_)
  · obtain ⟨a, ns, k, rfl, _⟩ := h
    rfl
  · obtain ⟨a, ns, k, rfl, hS, hk, q⟩ := h
    refine ⟨_, (pss_cons (ps_set (i := 2) sc_law_pot.nd rfl (Or.inl rfl) (pe_op op_addN (pe_op op_mulN pe_int (pv 1)) pe_int))
    (pss_cons (ps_if (pt_cmpR op_ltN (pv 1) (pe_callB call_len_seq (by rfl) m_len (by decide +kernel) (pa_cons (pv 0) pa_nil)) (nomark _)) (pss_one (ps_set (i := 2) sc_law_pot.nd rfl (Or.inl rfl) (pe_callB call_abs (by rfl) m_abs (by decide +kernel) (pa_cons (pe_ix ix_list (pv 0) (pv 1) (fun _ _ => rfl)) pa_nil)))) pss_nil)
    (pss_one (ps_ret (pe_lst (pa_cons (pe_callB (call_max2 rfl) (by rfl) m_max (by decide +kernel) (pa_cons pe_int (pa_cons (pe_op op_sub (pv 2) (pe_op op_pow pe_int pe_int)) pa_nil))) (pa_cons (pe_op op_addN (pe_op op_modNN (pe_callTy call_intN (by rfl) m_int (by decide +kernel) (pa_cons (pe_op op_addN (pe_op op_mulN (pe_op op_modNN (pe_callTy call_intN (by rfl) m_int (by decide +kernel) (pa_cons (pv 2) pa_nil)) pe_int) (pe_op op_addN (pe_op op_mulN pe_int (pv 1)) pe_int)) pe_int) pa_nil)) pe_int) pe_int) pa_nil))))))), ?_⟩
    refine ⟨.int k, rfl, 653, k, rfl, rfl, by decide, 653 * k, 389, rfl, rfl, ?_⟩
    refine ⟨.int k, rfl, .ref a, rfl, a, _, rfl, .inl hS, k, ns.length, rfl, ?_, _, rfl, ite2 (fun hb => ?_) (fun hb => ?_)⟩
    · rw [List.length_map]
    · have hl : k < ns.length := of_decide_eq_true hb
      refine ⟨.ref a, rfl, .int k, rfl, a, _, k, .int (ns[k]), rfl, rfl, hS, atI_nat (j := k) (by rw [List.getElem?_map, List.getElem?_eq_getElem hl]; rfl), ns[k], rfl, ?_⟩
      have e : V.int (if ns[k] < 0 then -ns[k] else ns[k]) = V.int ((ns[k].natAbs : Nat) : Int) := by
        congr 1
        split <;> omega
      rw [e]
      refine ⟨.int (((ns[k].natAbs) : Nat) : Int), rfl, 10, 18, rfl, rfl, ⟨by decide, by decide, by decide⟩, (((ns[k].natAbs) : Nat) : Int), _, rfl, rfl, 0, _, rfl, ?_⟩
      refine ⟨.int (((ns[k].natAbs) : Nat) : Int), rfl, (ns[k].natAbs), rfl, (ns[k].natAbs), 2147483549, rfl, rfl, by decide, .int k, rfl, 2, k, rfl, rfl, by decide, 2 * k, 331, rfl, rfl, (ns[k].natAbs) % 2147483549, 2 * k + 331, rfl, rfl, ?_, ?_⟩
      · have := Nat.mod_lt (ns[k].natAbs) (show 0 < 2147483549 by decide)
        omega
      refine ⟨_, 1063, rfl, rfl, _, rfl, _, 2147483543, rfl, rfl, by decide, _, 1, rfl, rfl, (by show 2 ≤ sizeLine; decide), fun p hp => q _ p (same_new hp) hp (pot_new ?_)⟩
      have := Nat.mod_lt ((ns[k].natAbs) % 2147483549 * (2 * k + 331) + 1063) (show 0 < 2147483543 by decide)
      omega
    · skip
      refine ⟨.int (((653 * k + 389) : Nat) : Int), rfl, 10, 18, rfl, rfl, ⟨by decide, by decide, by decide⟩, (((653 * k + 389) : Nat) : Int), _, rfl, rfl, 0, _, rfl, ?_⟩
      refine ⟨.int (((653 * k + 389) : Nat) : Int), rfl, (653 * k + 389), rfl, (653 * k + 389), 2147483549, rfl, rfl, by decide, .int k, rfl, 2, k, rfl, rfl, by decide, 2 * k, 331, rfl, rfl, (653 * k + 389) % 2147483549, 2 * k + 331, rfl, rfl, ?_, ?_⟩
      · have := Nat.mod_lt (653 * k + 389) (show 0 < 2147483549 by decide)
        omega
      refine ⟨_, 1063, rfl, rfl, _, rfl, _, 2147483543, rfl, rfl, by decide, _, 1, rfl, rfl, (by show 2 ≤ sizeLine; decide), fun p hp => q _ p (same_new hp) hp (pot_new ?_)⟩
      have := Nat.mod_lt ((653 * k + 389) % 2147483549 * (2 * k + 331) + 1063) (show 0 < 2147483543 by decide)
      omega
end
end K11

set_option Elab.async false
set_option linter.all false
set_option maxRecDepth 100000
set_option maxHeartbeats 2000000
namespace K11
open PySem PySem.Spec PyProof.Rows L2 Vf
theorem erase_perm {α : Type} : ∀ (l : List α) (d : Nat) (h : d < l.length), (l[d] :: l.eraseIdx d).Perm l
  | x :: l, 0, _ => .refl _
  | x :: l, d + 1, h => by
    have h2 : d < l.length := Nat.lt_of_succ_lt_succ h
    exact (List.Perm.swap x l[d] (l.eraseIdx d)).trans (.cons x (erase_perm l d h2))
section
variable {P : Program} {w : World} {K : PySem.W.Frag} {mg : Str → Option Value} {base : Heap}
def sp_draw : Sp := fun vs0 H Q _ => ∃ (p : Addr) (n : Nat), vs0 = [.ref p, .int (n : Int)] ∧ Pot H p ∧ 0 < n ∧ n < 1073741824 ∧
  ∀ (H' : Hp) (d : Nat), But p H H' → Pot H' p → d < n → Q (.int (d : Int)) H'
theorem ok_law_draw {f : Addr} {fd : FuncData} (F : Fun K "_law_draw" "_law_draw" s_law_draw f fd) (m_divmod : mg "divmod" = none) (m_int : mg "int" = none) :
    FnOk P w K mg base CX0 1 f fd ["_law_pot_here", "_law_size"] sp_draw := by
  refine F.ok sc_law_draw (fun vs H Q E h => ?_) (fun cdv A outer s H vs Q E hr h => ?_)
  · obtain ⟨a, n, rfl, _⟩ := h
    rfl
  · obtain ⟨p, n, rfl, hP, h1, h2, q⟩ := h
    obtain ⟨x, y, eP, ly⟩ := hP
    have hL : SqL K H p [.int (x : Int), .int (y : Int)] := .inl (.inl eP)
    refine ⟨_, (pss_cons (ps_if (pt_cmpR op_gtN (pe_ix ix_list (pv 0) pe_int (fun _ _ => rfl)) pe_int (nomark _)) (pss_cons (ps_asg (pe_callB call_divmodN (by rfl) m_divmod (by decide +kernel) (pa_cons (pe_ix ix_list (pv 0) pe_int (fun _ _ => rfl)) (pa_cons (pv 1) pa_nil))) (pg_tup rfl (pgs_cons (pg_sub (pv 0) pe_int set_list) (pgs_cons (pg_name (i := 2) sc_law_draw.nd rfl (Or.inl rfl)) pgs_nil))))
    (pss_one (ps_ret (pv 2)))) pss_nil)
    (pss_cons (ps_asg (pe_op op_modNN (pe_callTy call_intN (by rfl) m_int (by decide +kernel) (pa_cons (pe_op op_addN (pe_op op_mulN (pe_ix ix_list (pv 0) pe_int (fun _ _ => rfl)) pe_int) pe_int) pa_nil)) pe_int) (pg_sub (pv 0) pe_int set_list))
    (pss_one (ps_ret (pe_op op_modNN (pe_callTy call_intN (by rfl) m_int (by decide +kernel) (pa_cons (pe_op op_fdivNN (pe_op op_modNN (pe_callTy call_intN (by rfl) m_int (by decide +kernel) (pa_cons (pe_op op_mulN (pe_ix ix_list (pv 0) pe_int (fun _ _ => rfl)) (pe_ix ix_list (pv 0) pe_int (fun _ _ => rfl))) pa_nil)) pe_int) pe_int) pa_nil)) (pv 1)))))), ?_⟩
    refine ⟨.ref p, rfl, p, _, 0, .int x, rfl, rfl, hL, atI_nat (j := 0) rfl, x, 0, rfl, rfl, _, rfl, ite2 (fun hb => ?_) (fun hb => ?_)⟩
    · refine ⟨.ref p, rfl, p, _, 0, .int x, rfl, rfl, hL, atI_nat (j := 0) rfl, .int n, rfl, x, n, rfl, h1, h2, fun t ht => ?_⟩
      have np : p ≠ t := ne_of_none eP ht
      refine ⟨t, _, rfl, .inl (.inl upd_same), rfl, _, _, rfl, .ref p, rfl, p, [.int x, .int y], 0, 0, rfl, rfl, ?_, rfl, _, _, rfl, rfl, ?_⟩
      · rw [upd_ne np]
        exact eP
      · refine ⟨.int ((x % n : Nat) : Int), rfl, q _ (x % n) (fun b o nb e => ?_) ⟨x / n, y, upd_same, ly⟩ (Nat.mod_lt _ h1)⟩
        rw [upd_ne nb, upd_ne (ne_of_none e ht)]
        exact e
    · have l1 := Nat.mod_lt (y * 48271 + 18257) (show 0 < 2147483587 by decide)
      refine ⟨.ref p, rfl, p, _, 1, .int y, rfl, rfl, hL, atI_nat (j := 1) rfl, y, 48271, rfl, rfl, by omega, _, 18257, rfl, rfl, _, rfl, _, 2147483587, rfl, rfl, by decide,
        .ref p, rfl, p, [.int x, .int y], 1, 1, rfl, rfl, eP, rfl, ?_⟩
      have e2 : (upd H p (.lst ([V.int x, V.int y].set 1 (V.int (((y * 48271 + 18257) % 2147483587 : Nat) : Int))))) p = some (.lst [.int (x : Int), .int (((y * 48271 + 18257) % 2147483587 : Nat) : Int)]) := upd_same
      have hL2 := SqL.of (K := K) e2
      refine ⟨.ref p, rfl, p, _, 1, _, rfl, rfl, hL2, atI_nat (j := 1) rfl, .ref p, rfl, p, _, 1, _, rfl, rfl, hL2, atI_nat (j := 1) rfl, _, _, rfl, rfl, by omega, _, rfl, _, 2147483549, rfl, rfl, by decide,
        _, 13, rfl, rfl, ⟨by decide, by decide⟩, _, rfl, .int n, rfl, _, n, rfl, rfl, h1, ?_⟩
      exact q _ _ (fun b o nb e => by rw [upd_ne nb]; exact e) ⟨x, _, e2, by omega⟩ (Nat.mod_lt _ h1)
def sp_law_weight : Sp := fun vs0 H Q _ => ∃ m : Nat, vs0 = [.int (m : Int)] ∧ m < 2 ^ 24 ∧ ∀ H', Same H H' → Q (.int ((pc m : Nat) : Int)) H'
theorem ok_law_weight {f : Addr} {fd : FuncData} (F : Fun K "_law_weight" "_law_weight" s_law_weight f fd) (m_divmod : mg "divmod" = none) :
    FnOk P w K mg base CX0 1 f fd ["_law_word"] sp_law_weight := by
  refine F.ok sc_law_weight (fun vs H Q E h => ?_) (fun cdv A outer s H vs Q E hr h => ?_)
  · obtain ⟨m, rfl, _⟩ := h
    rfl
  · obtain ⟨m, rfl, h1, q⟩ := h
    refine ⟨_, (pss_cons (ps_par (i := 1) (j := 2) (by rfl) sc_law_weight.nd rfl rfl (by decide) rfl rfl (pa_cons pe_int (pa_cons (pv 0) pa_nil)) (by rfl))
    (pss_cons (ps_while PassesOwn.never (pt_cmpR op_gtN (pv 2) pe_int (nomark _)) (pss_cons (ps_asg (pe_callB call_divmodN (by rfl) m_divmod (by decide +kernel) (pa_cons (pv 2) (pa_cons pe_int pa_nil))) (pg_tup rfl (pgs_cons (pg_name (i := 2) sc_law_weight.nd rfl (Or.inl rfl)) (pgs_cons (pg_name (i := 3) sc_law_weight.nd rfl (Or.inl rfl)) pgs_nil))))
    (pss_one (ps_set (i := 1) sc_law_weight.nd rfl (Or.inl rfl) (pe_op op_addN (pv 1) (pv 3))))))
    (pss_one (ps_ret (pv 1))))), ?_⟩
    refine ⟨.int m, rfl, _, _, rfl, ?_⟩
    refine while_by (fun σ H' => ∃ (f l : Nat) (z : Option V), σ = [some (.int m), some (.int f), some (.int l), z] ∧ f + pc l = pc m ∧ l < 2 ^ 24 ∧ Same H H')
      (fun σ _ => match σ with | [_, _, some (.int l), _] => l.toNat | _ => 0) ⟨0, m, none, rfl, by omega, h1, Same.refl H⟩ ?_
      (fun σ H Q Q' f ⟨v, e, i, j, e1, e2, k, e3, q⟩ => ⟨v, e, i, j, e1, e2, k, e3, f _ _ q⟩)
    rintro σ H1 ⟨f, l, z, rfl, e, l1, sm⟩
    refine ⟨.int l, rfl, l, 0, rfl, rfl, _, rfl, ite2 (fun hb => ?_) (fun hb => ?_)⟩
    · have l0 : 0 < l := of_decide_eq_true hb
      have e2 := pc_half l1
      refine ⟨.int l, rfl, l, 2, rfl, by decide, by decide, fun t ht => ?_⟩
      refine ⟨t, _, rfl, .inl (.inl upd_same), rfl, _, _, rfl, _, _, rfl, rfl, .int f, rfl, .int ((l % 2 : Nat) : Int), rfl, f, l % 2, rfl, rfl, ⟨f + l % 2, l / 2, _, rfl, by omega, by omega, sm.trans (same_new ht)⟩, ?_⟩
      show ((l / 2 : Nat) : Int).toNat < ((l : Nat) : Int).toNat
      omega
    · have l0 : l = 0 := by
        have : ¬ 0 < l := fun z => hb (decide_eq_true z)
        omega
      subst l0
      rw [pc_zero, Nat.add_zero] at e
      refine ⟨.int f, rfl, ?_⟩
      rw [e]
      exact q _ sm
theorem ok_law_spots {f : Addr} {fd : FuncData} (F : Fun K "_law_spots" "_law_spots" s_law_spots f fd) (m_range : mg "range" = none) : FnOk P w K mg base CX0 1 f fd ["_law_word"] sp_places := by
  refine F.ok sc_law_spots (fun vs H Q E h => ?_) (fun cdv A outer s H vs Q E hr h => ?_)
  · obtain ⟨a, rfl, _⟩ := h
    rfl
  · obtain ⟨m, rfl, h1, q⟩ := h
    refine ⟨_, (pss_one (ps_ret (pe_lc (own := [("_law_place", 1)]) (g := gName 1) (by rfl) sc_law_spots.nd (pi_range1 (by rfl) m_range (pa_cons pe_int pa_nil)) (blkOk_by (own := [("_law_place", 1)]) (N := N_law_spots) (sc := defScope s_law_spots) (by decide +kernel)) (fun _ _ _ _ _ => pg_name (i := 1) sc_law_spots.nd rfl (Or.inl rfl)) (fun _ _ _ _ _ => (pts_one (pt_cmpR op_eqN (pe_op op_andN (pe_op op_shrNN (pv 0) (pv 1)) pe_int) pe_int (nomark _)))) (fun _ _ _ _ _ => (pv 1))))), ?_⟩
    refine ⟨24, rfl, by decide, by decide, fun D hD => ?_⟩
    refine lc_range (lo := 0) (n := 24) (fun i H' => Same H H' ∧ H' D = some (.lst (Vf.vs ((List.range i).filter fun j => m.testBit j)))) ⟨same_new hD, upd_same⟩
      (fun i H' hi hP => ?_) fun H' hP => q H' D hP.1 hD hP.2
    obtain ⟨sm, eD⟩ := hP
    refine ⟨rfl, .int m, rfl, .int (0 + (i : Int)), rfl, m, i, rfl, int_zero_add i, m / 2 ^ i, 1, rfl, rfl, (m / 2 ^ i) &&& 1, 1, rfl, rfl, _, rfl, ?_⟩
    have eb : decide ((m / 2 ^ i) &&& 1 = 1) = m.testBit i := by
      rw [Nat.testBit_eq_decide_div_mod_eq, Nat.and_one_is_mod]
    rw [eb]
    have key : Vf.vs ((List.range (i + 1)).filter fun j => m.testBit j) = Vf.vs ((List.range i).filter fun j => m.testBit j) ++ (if m.testBit i = true then [V.int (i : Nat)] else []) := by
      unfold Vf.vs
      rw [List.range_succ, List.filter_append, List.map_append]
      congr 1
      by_cases hb : m.testBit i = true <;> simp [hb]
    refine ite2 (fun hb => ?_) (fun hb => ?_)
    · refine ⟨.int (0 + (i : Int)), rfl, _, eD, ?_, fun b o e => ?_, ?_⟩
      · unfold Vf.vs
        rw [List.length_map]
        exact sl_lt (Nat.le_trans (List.length_filter_le _ _) (by rw [List.length_range]; omega))
      · rw [upd_ne (ne_of_none e hD)]
        exact sm b o e
      · rw [upd_same, key, if_pos hb, int_zero_add]
    · refine ⟨sm, ?_⟩
      rw [key, if_neg hb, List.append_nil]
      exact eD
def sp_mixed : Sp := fun vs0 H Q _ => ∃ (p a : Addr) (l : List V), vs0 = [.ref p, .ref a] ∧ Pot H p ∧ a ≠ p ∧ H a = some (.lst l) ∧ l.length ≤ 1000 ∧
  ∀ (H' : Hp) (r : Addr) (l' : List V), But p H H' → Pot H' p → H r = none → H' r = some (.lst l') → l'.Perm l → Q (.ref r) H'
theorem ok_law_mixed {f : Addr} {fd : FuncData} (F : Fun K "_law_mixed" "_law_mixed" s_law_mixed f fd) (C_law_draw : Cal P w K mg base "_law_draw" 1 ["_law_pot_here", "_law_size"] [] sp_draw)
    (m_list : mg "list" = none) (m_range : mg "range" = none) (m_len : mg "len" = none) : FnOk P w K mg base CX0 2 f fd ["_law_pot_here", "_law_some"] sp_mixed := by
  refine F.ok sc_law_mixed (fun vs H Q E h => ?_) (fun cdv A outer s H vs Q E hr h => ?_)
  · obtain ⟨p, a, l, rfl, _⟩ := h
    rfl
  · obtain ⟨p, a, l, rfl, hP, nap, eA, hl, q⟩ := h
    refine ⟨_, (pss_cons (ps_par (i := 2) (j := 3) (by rfl) sc_law_mixed.nd rfl rfl (by decide) rfl rfl (pa_cons (pe_callTy call_list_of (by rfl) m_list (by decide +kernel) (pa_cons (pv 1) pa_nil)) (pa_cons (pe_lst pa_nil) pa_nil)) (by rfl))
    (pss_cons (ps_for PassesOwn.never rfl (pi_range1 (by rfl) m_range (pa_cons (pe_callB call_len_seq (by rfl) m_len (by decide +kernel) (pa_cons (pv 2) pa_nil)) pa_nil)) (pg_name (i := 4) sc_law_mixed.nd rfl (Or.inl rfl))
      (pss_one (ps_expr (pe_bm PySem.F.plainAttrs_list PySem.F.slot_list_append PySem.F.type_list_append mt_append (pv 3) (pa_cons (pe_bm PySem.F.plainAttrs_list PySem.F.slot_list_pop PySem.F.type_list_pop mt_popAt (pv 2) (pa_cons (pe_cal C_law_draw (hr.mono (by decide)) (by rfl) (pa_cons (pv 0) (pa_cons (pe_callB call_len_seq (by rfl) m_len (by decide +kernel) (pa_cons (pv 2) pa_nil)) pa_nil))) pa_nil)) pa_nil)))))
    (pss_one (ps_ret (pv 3))))), ?_⟩
    refine ⟨.ref a, rfl, a, l, rfl, .inl (.inl (.inl eA)), fun L hL => ⟨Nat.zero_le _, fun G hG => ⟨_, _, rfl, ?_⟩⟩⟩
    obtain ⟨op, ep⟩ := hP.some
    have s1 : Same H (upd H L (.lst l)) := same_new hL
    have s2 : Same (upd H L (.lst l)) (upd (upd H L (.lst l)) G (.lst [])) := same_new hG
    have eL : (upd (upd H L (.lst l)) G (.lst [])) L = some (.lst l) := s2 _ _ upd_same
    have nLG : L ≠ G := ne_of_none (upd_same (H := H) (a := L) (o := .lst l)) hG
    have nG : H G = none := s1.free hG
    have npL : p ≠ L := ne_of_none ep hL
    have npG : p ≠ G := ne_of_none ep nG
    refine ⟨.ref L, rfl, L, l, rfl, .inl (.inl (.inl eL)), (l.length : Int), rfl, by omega, by omega, ?_⟩
    refine for_range (lo := 0) (n := (l.length : Int).toNat) (fun i σ H' => ∃ (cur fnd : List V) (z : Option V), σ = [some (.ref p), some (.ref a), some (.ref L), some (.ref G), z] ∧ H' L = some (.lst cur) ∧ H' G = some (.lst fnd) ∧
      (fnd ++ cur).Perm l ∧ cur.length + i = l.length ∧ Pot H' p ∧ But p H H') ⟨l, [], none, rfl, eL, upd_same, .refl _, rfl, (hP.same s1).same s2, .of (s1.trans s2)⟩ (fun i σ H1 hi hI => ?_) fun σ H1 hI => ?_
    · obtain ⟨cur, fnd, z, rfl, e1, e2, pm, hc, hP1, b1⟩ := hI
      rw [Int.toNat_natCast] at hi
      refine ⟨.ref G, rfl, .inl ⟨rfl, _, .inl (.inl e2)⟩, .ref L, rfl, .inl ⟨rfl, _, .inl (.inl e1)⟩, .ref p, rfl, .ref L, rfl, L, cur, rfl, .inl (.inl (.inl e1)), ?_⟩
      refine ⟨p, cur.length, rfl, hP1, by omega, by omega, fun H2 d b2 hP2 hd => ?_⟩
      have e3 : H2 L = some (.lst cur) := b2 _ _ npL.symm e1
      have e4 : H2 G = some (.lst fnd) := b2 _ _ npG.symm e2
      have gd : cur[d]? = some cur[d] := List.getElem?_eq_getElem hd
      refine ⟨L, cur, d, d, cur[d], rfl, rfl, e3, by omega, by omega, ?_, gd, ?_⟩
      · exact (ixN_seq (show ixN cur.length (d : Int) = some d by
          unfold ixN
          rw [if_pos (by omega), if_pos (by omega)]
          rfl)).1
      · have e5 : (upd H2 L (.lst (cur.eraseIdx d))) G = some (.lst fnd) := by
          rw [upd_ne nLG.symm]
          exact e4
        have lf : fnd.length ≤ l.length := by
          have := pm.length_eq
          rw [List.length_append] at this
          omega
        refine ⟨G, fnd, cur[d], rfl, rfl, e5, sl_lt (by omega), cur.eraseIdx d, fnd ++ [cur[d]], _, rfl, ?_, upd_same, ?_, ?_, (hP2.upd npL).upd npG, ((b1.trans b2).new hL).new nG⟩
        · rw [upd_ne nLG]
          exact upd_same
        · rw [List.append_assoc]
          exact (List.Perm.append_left fnd (erase_perm cur d hd)).trans pm
        · rw [List.length_eraseIdx_of_lt hd]
          omega
    · obtain ⟨cur, fnd, z, rfl, e1, e2, pm, hc, hP1, b1⟩ := hI
      rw [Int.toNat_natCast] at hc
      have c0 : cur = [] := List.eq_nil_of_length_eq_zero (by omega)
      subst c0
      rw [List.append_nil] at pm
      exact ⟨.ref G, rfl, q H1 G fnd b1 hP1 nG e2 pm⟩
end
end K11

set_option Elab.async false
set_option linter.all false
set_option maxRecDepth 100000
set_option maxHeartbeats 2000000
namespace Vf
open PySem PySem.Spec PyProof.Rows L2
/-! ### flat lists as data -/
def toD : V → PyData
  | .bl b => .bool b
  | .int i => .int i
  | _ => .none
def flat : V → Bool
  | .bl _ => true
  | .int _ => true
  | _ => false
def small : V → Bool
  | .bl _ => true
  | .int i => decide (0 ≤ i ∧ i ≤ 24)
  | _ => false
theorem flat_of_small {x : V} (h : small x = true) : flat x = true := by
  cases x <;> first | rfl | exact h
theorem dp_flat {K : PySem.W.Frag} {H : Hp} {x : V} (h : flat x = true) : Dp K H x (toD x) := by
  cases x with
  | bl b => exact .bl b
  | int i => exact .int i
  | _ => cases h
theorem dp_all {K : PySem.W.Frag} {H : Hp} : ∀ {xs : List V}, (∀ x ∈ xs, flat x = true) → DpAll K H xs (xs.map toD)
  | [], _ => .nil
  | x :: xs, h => .cons (dp_flat (h x List.mem_cons_self)) (dp_all fun y hy => h y (List.mem_cons_of_mem _ hy))
theorem canLay_all : ∀ {xs : List V}, (∀ x ∈ xs, flat x = true) → PyData.canLayAll0 (xs.map toD) = true
  | [], _ => rfl
  | x :: xs, h => by
    have h1 := h x List.mem_cons_self
    have h2 := canLay_all (xs := xs) fun y hy => h y (List.mem_cons_of_mem _ hy)
    rw [List.map_cons, PyData.canLayAll0, h2]
    cases x <;> first | rfl | cases h1
theorem depth_all : ∀ xs : List V, PyData.depthAll (xs.map toD) = 0
  | [] => rfl
  | x :: xs => by
    rw [List.map_cons, PyData.depthAll, depth_all xs]
    cases x <;> rfl
theorem shaped_flat {xs : List V} (h : ∀ x ∈ xs, flat x = true) : SeqAt.shaped (.list (xs.map toD)) = true := by
  unfold SeqAt.shaped
  rw [PyData.canLay0, canLay_all h, PyData.depth, depth_all]
  rfl
theorem eqv_flat {xs : List V} (h : ∀ x ∈ xs, flat x = true) : PyData.eqv (.list (xs.map toD)) (.list (xs.map toD)) = true :=
  SeqAt.eqv_refl _ (by rw [PyData.canLay0]; exact canLay_all h)
theorem flat_vs (l : List Nat) : ∀ x ∈ vs l, flat x = true := fun x hx => by
  obtain ⟨i, _, rfl⟩ := List.mem_map.mp hx
  rfl
/-- two equal flat lists are not unlike -/
theorem neD_same {K : PySem.W.Frag} {H : Hp} {Q : VK} {a b : Addr} {xs : List V} (ha : SqL K H a xs) (hb : SqL K H b xs) (h : ∀ x ∈ xs, flat x = true) (q : Q (.bl false) H) : rNeD K (.ref a) (.ref b) H Q := by
  refine ⟨_, _, .lst ha (dp_all h), .lst hb (dp_all h), shaped_flat h, shaped_flat h, ?_⟩
  rw [eqv_flat h]
  exact q
/-! ### their texts -/
theorem text_len : ∀ (ts : List Str) (k : Nat) (acc : Str), (textFrom k acc ts).length ≤ acc.length + (ts.map fun t => t.length + 2).sum
  | [], k, acc => Nat.le_refl _
  | t :: r, k, acc => by
    have h := text_len r (k + 1) (acc ++ (if k > 0 then ", " else "" : String) ++ t)
    rw [strLen_append, strLen_append] at h
    have e : ((if k > 0 then ", " else "" : String) : Str).length ≤ 2 := by
      split
      · exact Nat.le_refl 2
      · exact Nat.zero_le 2
    show (textFrom (k + 1) _ r).length ≤ _
    rw [List.map_cons, List.sum_cons]
    exact Nat.le_trans h (by omega)
theorem small_len {x : V} (h : small x = true) : (toD x).shown.length ≤ 5 := by
  cases x with
  | bl b => cases b <;> decide +kernel
  | int i =>
    have h2 : 0 ≤ i ∧ i ≤ 24 := of_decide_eq_true h
    obtain ⟨n, rfl⟩ := Int.eq_ofNat_of_zero_le h2.1
    have hn : n < 25 := by omega
    have all : ∀ m : Fin 25, ((PyData.int (m.val : Int)).shown).length ≤ 5 := by decide +kernel
    exact all ⟨n, hn⟩
  | _ => cases h
theorem small_show {x : V} (h : small x = true) : (toD x).showable = true ∧ (toD x).hasDict = false := by
  cases x with
  | bl b => exact ⟨rfl, rfl⟩
  | int i =>
    have h2 : 0 ≤ i ∧ i ≤ 24 := of_decide_eq_true h
    obtain ⟨n, rfl⟩ := Int.eq_ofNat_of_zero_le h2.1
    have hn : n < 25 := by omega
    have all : ∀ m : Fin 25, (PyData.int (m.val : Int)).showable = true := by decide +kernel
    exact ⟨all ⟨n, hn⟩, rfl⟩
  | _ => cases h
theorem shown_all : ∀ {xs : List V}, (∀ x ∈ xs, small x = true) → PyData.showableAll (xs.map toD) = true ∧ PyData.hasDictAll (xs.map toD) = false ∧
    ((PyData.shownAll (xs.map toD)).map fun t => t.length + 2).sum ≤ 7 * xs.length
  | [], _ => ⟨rfl, rfl, Nat.le_refl _⟩
  | x :: xs, h => by
    obtain ⟨a, b, c⟩ := shown_all (xs := xs) fun y hy => h y (List.mem_cons_of_mem _ hy)
    have h1 := h x List.mem_cons_self
    have h2 := small_len h1
    rw [List.map_cons, PyData.showableAll, PyData.hasDictAll, PyData.shownAll, a, b, (small_show h1).1, (small_show h1).2, List.map_cons, List.sum_cons, List.length_cons]
    exact ⟨rfl, rfl, by omega⟩
/-- the text of such a list -/
def txt (xs : List V) : Str := (PyData.list (xs.map toD)).shown
theorem repr_small {K : PySem.W.Frag} {H : Hp} {Q : VK} {a : Addr} {xs : List V} (ha : SqL K H a xs) (h : ∀ x ∈ xs, small x = true) (hl : xs.length ≤ 1000) (q : Q (.str (txt xs)) H) : rRepr K [.ref a] H Q := by
  obtain ⟨h1, h2, h3⟩ := shown_all h
  refine ⟨⟨a, _, rfl, .lst ha (dp_all fun x hx => flat_of_small (h x hx)), ?_, ?_, ?_, ?_, q⟩⟩
  · rw [PyData.showable]
    exact h1
  · rw [PyData.hasDict]
    exact h2
  · rw [PyData.depth, depth_all]
    decide
  · rw [PyData.shown]
    unfold listText
    rw [strLen_append]
    have h4 := text_len (PyData.shownAll (xs.map toD)) 0 "["
    have e1 : (("[" : String) : Str).length = 1 := rfl
    have e2 : (("]" : String) : Str).length = 1 := rfl
    have e3 : sizeLine = 16777216 := sizeLine_eq
    omega
/-- two equal texts are not unlike -/
theorem ne_str {H : Hp} {Q : VK} {x : Str} (q : Q (.bl false) H) : rNe (.str x) (.str x) H Q := by
  refine ⟨rfl, ?_⟩
  rw [decide_eq_true rfl]
  exact q
theorem perm_vs {l' : List V} {l : List Nat} (h : l'.Perm (vs l)) : ∃ l2 : List Nat, l' = vs l2 ∧ l2.Perm l := by
  let g : V → Nat := fun x => match x with | .int i => i.toNat | _ => 0
  refine ⟨l'.map g, ?_, ?_⟩
  · have e : ∀ x ∈ l', V.int ((g x : Nat) : Int) = x := fun x hx => by
      obtain ⟨i, _, rfl⟩ := List.mem_map.mp (h.mem_iff.mp hx)
      rfl
    unfold vs
    rw [List.map_map]
    exact ((List.map_congr_left (g := id) e).trans (List.map_id l')).symm
  · have p := h.map g
    unfold vs at p
    rw [List.map_map] at p
    have e : (l.map (g ∘ fun i : Nat => V.int (i : Int))) = l := by
      rw [show (g ∘ fun i : Nat => V.int (i : Int)) = id from rfl, List.map_id]
    rw [e] at p
    exact p
end Vf

set_option Elab.async false
set_option linter.all false
set_option maxRecDepth 100000
set_option maxHeartbeats 4000000
set_option pp.maxSteps 300
namespace Vf
open PySem PySem.Spec PyProof.Rows L2
def CalG (P : Program) (w : World) (K : PySem.W.Frag) (mg : Str → Option Value) (base : Heap) (x : Str) (k : Nat) (ps : List Str) (sp : Sp) : Prop :=
  ∃ (f : Addr) (fd : FuncData), GnOk P w K mg base k f fd ps sp ∧ mg x = some (.ref f) ∧ PySem.W.keepIn K (.ref f) = true ∧ Binds K fd ps []
def tGn (sp : Sp) (t : TA) : TE := fun σ H Q => t σ H fun vs H1 => sp vs H1 Q E0
theorem pe_calG {X : Cx} {k : Nat} {ps : List Str} {sp : Sp} {x : Str} {p pos : Pos} {e : Expr} {es : List Expr} {t : TA} (C : CalG X.prog X.w X.K X.mg X.base x k ps sp)
    (gg : X.A.guards = some []) (hr : Room k X.A) (hg : Gl X x) (ha : PA X (e :: es) t)
    (hdb : (x == ("__debug__" : Str)) = false := by decide) (he : starEach (e :: es) X.env = (false, eval e X.env) :: starEach es X.env := by rfl)
    (hpl : (backTo pos (starEach es X.env)).any (·.1) = false := by rfl) : PE X (.Call (.Name x p) (e :: es) [] pos) (tGn sp t) := by
  obtain ⟨f, fd, F, gm, kp, b⟩ := C
  exact pe_gn F gg hr hg gm kp b ha hdb he hpl
theorem But.free {p q : Addr} {H H' : Hp} (b : But p H H') (hp : Pot H' p) (h : H' q = none) : H q = none := by
  cases e : H q with
  | none => rfl
  | some o =>
    by_cases n : q = p
    · subst n
      obtain ⟨o2, e2⟩ := hp.some
      rw [h] at e2
      cases e2
    · rw [b q o n e] at h
      cases h
theorem ne_strE {H : Hp} {Q : VK} {x y : Str} (e : x = y) (q : Q (.bl false) H) : rNe (.str x) (.str y) H Q := by
  subst e
  exact ne_str q
theorem nbl_f {p : Prop} [Decidable p] (h : p) : V.bl (!decide p) = V.bl false := by rw [decide_eq_true h]; rfl
end Vf
namespace K11
open PySem PySem.Spec PyProof.Rows L2 Vf
abbrev s_law_right : Stmt := topS 26
abbrev N_law_right : List Str := ["_law_pot_here", "_law_places", "_law_one", "_law_two", "_law_three", "_law_word", "_law_spots_here", "_law_told", "_law_many", "_law_due"]
theorem sc_law_right : FnScope N_law_right ["_law_pot_here"] (defScope s_law_right) := ⟨rfl, rfl, rfl, by decide +kernel, rfl, by decide +kernel, by decide +kernel⟩
theorem due_eq (one two three : Nat) : V.bl (!decide (V.bl (decide (pc ((one ^^^ three) &&& two) % 2 = 0)) = V.bl (decide (V.bl (decide (pc (one &&& two) % 2 = 0)) = V.bl (decide (pc (two &&& three) % 2 = 0)))))) = V.bl false := by
  have e := pc_dist one two three
  rw [Nat.and_comm two three]
  generalize pc ((one ^^^ three) &&& two) = a at *
  generalize pc (one &&& two) = b at *
  generalize pc (three &&& two) = c at *
  refine nbl_f (congrArg V.bl (decide_eq_decide.mpr ⟨fun z => congrArg V.bl (decide_eq_decide.mpr (by omega)), fun z => ?_⟩))
  injection z with z
  have := decide_eq_decide.mp z
  omega
section
variable {P : Program} {w : World} {K : PySem.W.Frag} {mg : Str → Option Value} {base : Heap}
abbrev kw1 : List V → List V → List V := fun _ zs => zs
abbrev kw2 : List V → List V → List V := fun _ zs => zs.reverse
def sp_right : Sp := fun vs0 H Q _ => ∃ p : Addr, vs0 = [.ref p] ∧ Pot H p ∧ ∀ H', But p H H' → Q (.bl true) H'
theorem sm_int2 {a b : Nat} (ha : a ≤ 24) (hb : b ≤ 24) : ∀ x ∈ [V.int (a : Int), V.int (b : Int)], small x = true := by
  intro x hx
  rcases List.mem_cons.mp hx with rfl | hx
  · exact decide_eq_true (by omega)
  · rcases List.mem_cons.mp hx with rfl | hx
    · exact decide_eq_true (by omega)
    · cases hx
theorem sm_bl (l : List Bool) : ∀ x ∈ l.map V.bl, small x = true := fun x hx => by
  obtain ⟨b, _, rfl⟩ := List.mem_map.mp hx
  rfl
theorem ok_law_right {f : Addr} {fd : FuncData} (F : Fun K "_law_right" "_law_right" s_law_right f fd)
    (C_law_draw : Cal P w K mg base "_law_draw" 1 ["_law_pot_here", "_law_size"] [] sp_draw) (C_law_spots : Cal P w K mg base "_law_spots" 1 ["_law_word"] [] sp_places)
    (C_places_of : Cal P w K mg base "places_of" 6 ["word"] [] sp_places) (K_places_of_word : CalK P w K mg base "places_of" 6 ["word"] ["word"] kw1 sp_places)
    (C_weight : Cal P w K mg base "weight" 6 ["word"] [] sp_weight) (K_weight_word : CalK P w K mg base "weight" 6 ["word"] ["word"] kw1 sp_weight)
    (C_law_weight : Cal P w K mg base "_law_weight" 1 ["_law_word"] [] sp_law_weight) (C_law_mixed : Cal P w K mg base "_law_mixed" 2 ["_law_pot_here", "_law_some"] [] sp_mixed)
    (C_word_of : Cal P w K mg base "word_of" 4 ["spots"] [] sp_word_of) (K_word_of_spots : CalK P w K mg base "word_of" 4 ["spots"] ["spots"] kw1 sp_word_of)
    (C_is_word : Cal P w K mg base "is_word" 4 ["places", "value"] [] sp_is_word) (K_is_word_value_places : CalK P w K mg base "is_word" 4 ["places", "value"] ["value", "places"] kw2 sp_is_word)
    (C_are_even : Cal P w K mg base "are_even" 7 ["word", "other"] [] sp_are_even) (K_are_even_other_word : CalK P w K mg base "are_even" 7 ["word", "other"] ["other", "word"] kw2 sp_are_even)
    (m_repr : mg "repr" = none) (m_len : mg "len" = none) (m_tuple : mg "tuple" = none) : GnOk P w K mg base 8 f fd ["_law_pot_here"] sp_right := by
  refine gn_ok F sc_law_right (fun vs H Q E h => ?_) (fun cdv A outer s H vs Q E hg hr h => ?_)
  · obtain ⟨p, rfl, _⟩ := h
    rfl
  · obtain ⟨p, rfl, hP, q⟩ := h
    refine ⟨_, (pss_cons (ps_set (i := 1) sc_law_right.nd rfl (Or.inl rfl) (pe_op op_addN pe_int (pe_cal C_law_draw (hr.mono (by decide)) (by rfl) (pa_cons (pv 0) (pa_cons pe_int pa_nil)))))
    (pss_cons (ps_par3 (i := 2) (j := 3) (l := 4) (by rfl) sc_law_right.nd rfl rfl rfl (by decide) (by decide) (by decide) rfl rfl rfl (pa_cons (pe_cal C_law_draw (hr.mono (by decide)) (by rfl) (pa_cons (pv 0) (pa_cons (pe_op op_pow2 pe_int (pv 1)) pa_nil))) (pa_cons (pe_cal C_law_draw (hr.mono (by decide)) (by rfl) (pa_cons (pv 0) (pa_cons (pe_op op_pow2 pe_int pe_int) pa_nil))) (pa_cons (pe_cal C_law_draw (hr.mono (by decide)) (by rfl) (pa_cons (pv 0) (pa_cons (pe_op op_pow2 pe_int (pv 1)) pa_nil))) pa_nil))) (by rfl))
    (pss_cons (ps_for PassesOwn.never rfl (pi_list (pe_lst (pa_cons (pv 2) (pa_cons (pv 3) (pa_cons (pv 4) (pa_cons (pe_op op_xorN (pv 2) (pv 3)) (pa_cons (pe_op op_andN (pv 2) (pv 3)) (pa_cons (pe_op op_subN (pe_op op_pow2 pe_int (pv 1)) pe_int) (pa_cons pe_int pa_nil))))))))) (pg_name (i := 5) sc_law_right.nd rfl (Or.inl rfl))
      (pss_cons (ps_set (i := 6) sc_law_right.nd rfl (Or.inl rfl) (pe_cal C_law_spots (hr.mono (by decide)) (by rfl) (pa_cons (pv 5) pa_nil)))
    (pss_cons (ps_set (i := 7) sc_law_right.nd rfl (Or.inl rfl) (pe_cal C_places_of (hr.mono (by decide)) (by rfl) (pa_cons (pv 5) pa_nil)))
    (pss_cons (ps_if (PW.pt (pw_or (pt_cmpR (op_neD hr.units) (pv 7) (pv 6) (nomark _)) (pw_or (pt_cmpR (op_neD hr.units) (pe_calKw K_places_of_word (hr.mono (by decide)) (by rfl) (pk_cons (pv 5) pk_nil)) (pv 6) (nomark _)) (pw_or1 (pt_cmpR op_ne (pe_callB (call_repr hg hr.units) (by rfl) m_repr (by decide +kernel) (pa_cons (pe_lst (pa_cons (pe_cal C_weight (hr.mono (by decide)) (by rfl) (pa_cons (pv 5) pa_nil)) (pa_cons (pe_calKw K_weight_word (hr.mono (by decide)) (by rfl) (pk_cons (pv 5) pk_nil)) pa_nil))) pa_nil)) (pe_callB (call_repr hg hr.units) (by rfl) m_repr (by decide +kernel) (pa_cons (pe_lst (pa_cons (pe_callB call_len_seq (by rfl) m_len (by decide +kernel) (pa_cons (pv 6) pa_nil)) (pa_cons (pe_cal C_law_weight (hr.mono (by decide)) (by rfl) (pa_cons (pv 5) pa_nil)) pa_nil))) pa_nil)) (nomark _)))))) (pss_one (ps_ret pe_bl)) pss_nil)
    (pss_cons (ps_expr (pe_bm PySem.F.plainAttrs_list PySem.F.slot_list_append PySem.F.type_list_append mt_append (pv 7) (pa_cons pe_int pa_nil)))
    (pss_cons (ps_if (PW.pt (pw_or (pt_cmpR op_neN (pe_cal C_word_of (hr.mono (by decide)) (by rfl) (pa_cons (pe_cal C_law_mixed (hr.mono (by decide)) (by rfl) (pa_cons (pv 0) (pa_cons (pv 6) pa_nil))) pa_nil)) (pv 5) (nomark _)) (pw_or (pt_cmpR op_neN (pe_calKw K_word_of_spots (hr.mono (by decide)) (by rfl) (pk_cons (pe_callTy call_tuple_of (by rfl) m_tuple (by decide +kernel) (pa_cons (pv 6) pa_nil)) pk_nil)) (pv 5) (nomark _)) (pw_or1 (pt_cmpR (op_neD hr.units) (pe_cal C_places_of (hr.mono (by decide)) (by rfl) (pa_cons (pv 5) pa_nil)) (pv 6) (nomark _)))))) (pss_one (ps_ret pe_bl)) pss_nil)
    (pss_one (ps_for PassesOwn.never rfl (pi_list (pe_lst (pa_cons pe_int (pa_cons (pv 1) (pa_cons pe_int (pa_cons pe_int pa_nil)))))) (pg_name (i := 8) sc_law_right.nd rfl (Or.inl rfl))
      (pss_cons (ps_set (i := 9) sc_law_right.nd rfl (Or.inl rfl) (pe_cmpR op_ltN (pv 5) (pe_op op_pow2 pe_int (pv 8)) (nomark _)))
    (pss_one (ps_if (pt_cmpR op_ne (pe_callB (call_repr hg hr.units) (by rfl) m_repr (by decide +kernel) (pa_cons (pe_lst (pa_cons (pe_cal C_is_word (hr.mono (by decide)) (by rfl) (pa_cons (pv 8) (pa_cons (pv 5) pa_nil))) (pa_cons (pe_calKw K_is_word_value_places (hr.mono (by decide)) (by rfl) (pk_cons (pv 5) (pk_cons (pv 8) pk_nil))) pa_nil))) pa_nil)) (pe_callB (call_repr hg hr.units) (by rfl) m_repr (by decide +kernel) (pa_cons (pe_lst (pa_cons (pv 9) (pa_cons (pv 9) pa_nil))) pa_nil)) (nomark _)) (pss_one (ps_ret pe_bl)) pss_nil)))))))))))
    (pss_cons (ps_set (i := 9) sc_law_right.nd rfl (Or.inl rfl) (pe_lst (pa_cons (pe_cmpR op_eqN (pe_op op_modNN (pe_cal C_law_weight (hr.mono (by decide)) (by rfl) (pa_cons (pe_op op_andN (pv 2) (pv 3)) pa_nil)) pe_int) pe_int (nomark _)) (pa_cons (pe_cmpR op_eqN (pe_op op_modNN (pe_cal C_law_weight (hr.mono (by decide)) (by rfl) (pa_cons (pe_op op_andN (pv 3) (pv 4)) pa_nil)) pe_int) pe_int (nomark _)) pa_nil))))
    (pss_cons (ps_if (pt_cmpR op_ne (pe_callB (call_repr hg hr.units) (by rfl) m_repr (by decide +kernel) (pa_cons (pe_lst (pa_cons (pe_cal C_are_even (hr.mono (by decide)) (by rfl) (pa_cons (pv 2) (pa_cons (pv 3) pa_nil))) (pa_cons (pe_calKw K_are_even_other_word (hr.mono (by decide)) (by rfl) (pk_cons (pv 3) (pk_cons (pv 2) pk_nil))) (pa_cons (pe_cal C_are_even (hr.mono (by decide)) (by rfl) (pa_cons (pv 3) (pa_cons (pv 2) pa_nil))) (pa_cons (pe_cal C_are_even (hr.mono (by decide)) (by rfl) (pa_cons (pv 4) (pa_cons (pv 3) pa_nil))) pa_nil))))) pa_nil)) (pe_callB (call_repr hg hr.units) (by rfl) m_repr (by decide +kernel) (pa_cons (pe_lst (pa_cons (pe_ix ix_list (pv 9) pe_int (fun _ _ => rfl)) (pa_cons (pe_ix ix_list (pv 9) pe_int (fun _ _ => rfl)) (pa_cons (pe_ix ix_list (pv 9) pe_int (fun _ _ => rfl)) (pa_cons (pe_ix ix_list (pv 9) pe_int (fun _ _ => rfl)) pa_nil))))) pa_nil)) (nomark _)) (pss_one (ps_ret pe_bl)) pss_nil)
    (pss_cons (ps_if (PW.pt (pw_or (pt_cmpR op_ne (pe_cal C_are_even (hr.mono (by decide)) (by rfl) (pa_cons (pe_op op_xorN (pv 2) (pv 4)) (pa_cons (pv 3) pa_nil))) (pe_cmpR op_eq (pe_ix ix_list (pv 9) pe_int (fun _ _ => rfl)) (pe_ix ix_list (pv 9) pe_int (fun _ _ => rfl)) (nomark _)) (nomark _)) (pw_or1 (pt_cmpR op_neN (pe_op op_addN (pe_cal C_weight (hr.mono (by decide)) (by rfl) (pa_cons (pv 2) pa_nil)) (pe_cal C_weight (hr.mono (by decide)) (by rfl) (pa_cons (pv 3) pa_nil))) (pe_op op_addN (pe_cal C_weight (hr.mono (by decide)) (by rfl) (pa_cons (pe_op op_xorN (pv 2) (pv 3)) pa_nil)) (pe_op op_mulN pe_int (pe_cal C_weight (hr.mono (by decide)) (by rfl) (pa_cons (pe_op op_andN (pv 2) (pv 3)) pa_nil)))) (nomark _))))) (pss_one (ps_ret pe_bl)) pss_nil)
    (pss_one (ps_ret (pe_and (pe_cmpR op_eq (pe_cal C_are_even (hr.mono (by decide)) (by rfl) (pa_cons (pv 2) (pa_cons (pv 2) pa_nil))) (pe_cmpR op_eqN (pe_op op_modNN (pe_cal C_weight (hr.mono (by decide)) (by rfl) (pa_cons (pv 2) pa_nil)) pe_int) pe_int (nomark _)) (nomark _)) (pe_one (pe_cmpR op_isBl (pe_cal C_are_even (hr.mono (by decide)) (by rfl) (pa_cons pe_int (pa_cons (pv 3) pa_nil))) pe_bl (nomark _)))))))))))), ?_⟩
    refine ⟨.ref p, rfl, p, 24, rfl, hP, by decide, by decide, fun H1 d0 b1 hP1 hd0 => ⟨1, d0, rfl, rfl, ?_⟩⟩
    generalize hn : 1 + d0 = n
    have n1 : 1 ≤ n := by omega
    have n24 : n ≤ 24 := by omega
    have pw : 2 ^ n ≤ 2 ^ 24 := Nat.pow_le_pow_right (by decide) n24
    have pw1 : 0 < 2 ^ n := Nat.two_pow_pos n
    refine ⟨.ref p, rfl, .int n, rfl, n, rfl, rfl, by omega, p, 2 ^ n, rfl, hP1, pw1, by omega, fun H2 one b2 hP2 h1 => ?_⟩
    refine ⟨.ref p, rfl, 24, rfl, rfl, by omega, p, 2 ^ 24, rfl, hP2, by decide, by decide, fun H3 two b3 hP3 h2 => ?_⟩
    refine ⟨.ref p, rfl, .int n, rfl, n, rfl, rfl, by omega, p, 2 ^ n, rfl, hP3, pw1, by omega, fun H4 three b4 hP4 h3 => ⟨_, _, _, rfl, ?_⟩⟩
    have l1 : one < 2 ^ 24 := Nat.lt_of_lt_of_le h1 pw
    have l3 : three < 2 ^ 24 := Nat.lt_of_lt_of_le h3 pw
    have la : one &&& two < 2 ^ 24 := Nat.lt_of_le_of_lt Nat.and_le_left l1
    have lx : one ^^^ two < 2 ^ 24 := Nat.xor_lt_two_pow l1 h2
    have b5 : But p H H4 := ((b1.trans b2).trans b3).trans b4
    refine ⟨.int one, rfl, .int two, rfl, .int three, rfl, .int one, rfl, .int two, rfl, one, two, rfl, rfl, .int one, rfl, .int two, rfl, one, two, rfl, rfl, .int n, rfl, n, rfl, rfl, by omega, 2 ^ n, 1, rfl, rfl, pw1,
      (by show 7 ≤ sizeLine; decide), fun L hL => ⟨L, rfl, ⟨_, SqL.of upd_same⟩, ?_⟩⟩
    have pL : ∃ o, H4 p = some o := hP4.some
    obtain ⟨oP, eP4⟩ := pL
    have npL : p ≠ L := ne_of_none eP4 hL
    have fL : H L = none := b5.free hP4 hL
    have hws : ∀ v ∈ [one, two, three, one ^^^ two, one &&& two, 2 ^ n - 1, 0], v < 2 ^ 24 := by
      intro v hv
      simp only [List.mem_cons, List.not_mem_nil, or_false] at hv
      rcases hv with rfl | rfl | rfl | rfl | rfl | rfl | rfl
      · exact l1
      · exact h2
      · exact l3
      · exact lx
      · exact la
      · omega
      · decide
    have s1000 : (2 : Nat) ≤ 1000 := by decide
    refine for_list (K := K) (a := L) (xs := Vf.vs [one, two, three, one ^^^ two, one &&& two, 2 ^ n - 1, 0])
      (fun i σ H' => ∃ z5 z6 z7 z8 z9 : Option V, σ = [some (.ref p), some (.int n), some (.int one), some (.int two), some (.int three), z5, z6, z7, z8, z9] ∧ Pot H' p ∧ But p H H' ∧
        H' L = some (.lst (Vf.vs [one, two, three, one ^^^ two, one &&& two, 2 ^ n - 1, 0])))
      ⟨none, none, none, none, none, rfl, hP4.upd npL, b5.new fL, upd_same⟩ (fun i σ H' _ hI => ?_) (fun i x σ H' hx hI => ?_) (fun σ H' hI => ?_)
    · obtain ⟨_, _, _, _, _, _, _, _, e⟩ := hI
      exact SqL.of e
    · obtain ⟨z5, z6, z7, z8, z9, rfl, hP5, b6, eL⟩ := hI
      obtain ⟨v, ev, rfl⟩ := get_vs hx
      have hv : v < 2 ^ 24 := hws v (List.mem_of_getElem? ev)
      have lp := pc_le v
      -- the spots, told
      refine ⟨.int v, rfl, v, rfl, hv, fun G1 S s1 nS eS => ?_⟩
      refine ⟨.int v, rfl, v, rfl, hv, fun G2 T s2 nT eT => ?_⟩
      have eS2 := s2 _ _ eS
      have sA := s1.trans s2
      -- the first three tests
      refine ⟨.ref T, rfl, .ref S, rfl, neD_same (SqL.of eT) (SqL.of eS2) (flat_vs _) ⟨false, rfl, iteF ?_⟩⟩
      refine ⟨.int v, rfl, rfl, v, rfl, hv, fun G3 T2 s3 nT2 eT2 => ⟨.ref S, rfl, neD_same (SqL.of eT2) (SqL.of (s3 _ _ eS2)) (flat_vs _) ⟨false, rfl, iteF ?_⟩⟩⟩
      have sB := sA.trans s3
      refine ⟨.int v, rfl, v, rfl, hv, .int v, rfl, rfl, v, rfl, hv, (by show 2 ≤ sizeLine; decide), fun R1 nR1 => ?_⟩
      refine repr_small (xs := [V.int (pc v : Nat), V.int (pc v : Nat)]) (SqL.of upd_same) (sm_int2 lp lp) s1000 ?_
      have sC := sB.trans (same_new (o := .lst [V.int (pc v : Nat), V.int (pc v : Nat)]) nR1)
      have eS3 := s3 _ _ eS2
      have eS4 := (same_new (o := .lst [V.int (pc v : Nat), V.int (pc v : Nat)]) nR1) _ _ eS3
      refine ⟨.ref S, rfl, S, _, rfl, .inl (SqL.of eS4), .int v, rfl, v, rfl, hv, fun G4 s4 => ⟨(by show 2 ≤ sizeLine; decide), fun R2 nR2 => ?_⟩⟩
      refine repr_small (xs := [V.int ((Vf.vs (spots v)).length : Nat), V.int (pc v : Nat)]) (SqL.of upd_same) (by rw [len_vs, spots_len]; exact sm_int2 lp lp) s1000 ?_
      refine ne_strE (by rw [len_vs, spots_len]) ⟨false, rfl, iteF ?_⟩
      have sD := (sC.trans s4).trans (same_new (o := .lst [V.int ((Vf.vs (spots v)).length : Nat), V.int (pc v : Nat)]) nR2)
      have eT5 := ((s3.trans (same_new (o := .lst [V.int (pc v : Nat), V.int (pc v : Nat)]) nR1)).trans s4).trans (same_new (o := .lst [V.int ((Vf.vs (spots v)).length : Nat), V.int (pc v : Nat)]) nR2) _ _ eT
      have eS5 := ((same_new (o := .lst [V.int (pc v : Nat), V.int (pc v : Nat)]) nR1).trans s4).trans (same_new (o := .lst [V.int ((Vf.vs (spots v)).length : Nat), V.int (pc v : Nat)]) nR2) _ _ eS3
      generalize upd G4 R2 (.lst [V.int ((Vf.vs (spots v)).length : Nat), V.int (pc v : Nat)]) = G5 at sD eT5 eS5 ⊢
      have hP6 := hP5.same sD
      obtain ⟨oP6, eP6⟩ := hP5.some
      have nS' : H' S = none := nS
      have nT' : H' T = none := s1.free nT
      have npS : p ≠ S := ne_of_none eP6 nS'
      have npT : p ≠ T := ne_of_none eP6 nT'
      have nST : S ≠ T := ne_of_none eS nT
      have nLT : L ≠ T := ne_of_none eL nT'
      have lS : (spots v).length ≤ 24 := by rw [spots_len]; exact lp
      -- told.append(0)
      refine ⟨.ref T, rfl, .inl ⟨rfl, _, SqL.of eT5⟩, T, _, .int 0, rfl, rfl, eT5, by rw [len_vs]; exact sl_lt (by omega), ?_⟩
      have b7 : But p H (upd G5 T (.lst (Vf.vs (spots v) ++ [V.int 0]))) := (b6.trans (.of sD)).new (b6.free hP5 nT')
      have hP7 := hP6.upd (o := .lst (Vf.vs (spots v) ++ [V.int 0])) npT
      have eS7 : (upd G5 T (.lst (Vf.vs (spots v) ++ [V.int 0]))) S = some (.lst (Vf.vs (spots v))) := by
        rw [upd_ne nST]
        exact eS5
      have eL7 : (upd G5 T (.lst (Vf.vs (spots v) ++ [V.int 0]))) L = some (.lst (Vf.vs [one, two, three, one ^^^ two, one &&& two, 2 ^ n - 1, 0])) := by
        rw [upd_ne nLT]
        exact sD _ _ eL
      generalize upd G5 T (.lst (Vf.vs (spots v) ++ [V.int 0])) = G6 at b7 hP7 eS7 eL7 ⊢
      -- the next three tests
      refine ⟨.ref p, rfl, .ref S, rfl, p, S, Vf.vs (spots v), rfl, hP7, npS.symm, eS7, by rw [len_vs]; omega, fun G7 R l' b8 hP8 nR eR pm => ?_⟩
      obtain ⟨l2, rfl, pm2⟩ := perm_vs pm
      have nd2 : l2.Nodup := pm2.nodup_iff.mpr (spots_nd v)
      have sum2 : (l2.map (2 ^ ·)).sum = v := (perm_sum pm2).trans (spots_sum hv)
      have lt2 : ∀ i ∈ l2, i < 24 := fun i hi => spots_lt (pm2.mem_iff.mp hi)
      have len2 : l2.length ≤ 24 := by rw [pm2.length_eq]; exact lS
      refine ⟨R, l2, rfl, .inl eR, nd2, lt2, len2, fun G8 s8 => ⟨.int v, rfl, _, v, rfl, rfl, false, nbl_f sum2, iteF ?_⟩⟩
      have eS8 := s8 _ _ (b8 _ _ npS.symm eS7)
      refine ⟨.ref S, rfl, S, Vf.vs (spots v), rfl, .inl ⟨SqL.of eS8, fun U nU => ?_⟩⟩
      refine ⟨rfl, U, spots v, rfl, .inr upd_same, spots_nd v, fun i hi => spots_lt hi, lS, fun G9 s9 => ⟨.int v, rfl, _, v, rfl, rfl, false, nbl_f (spots_sum hv), iteF ?_⟩⟩
      have s89 := (same_new (o := .tup (Vf.vs (spots v))) nU).trans s9
      refine ⟨.int v, rfl, v, rfl, hv, fun GA T3 sA3 nT3 eT3 => ⟨.ref S, rfl, neD_same (SqL.of eT3) (SqL.of (sA3 _ _ (s89 _ _ eS8))) (flat_vs _) ⟨false, rfl, iteF ?_⟩⟩⟩
      have sE := (s8.trans s89).trans sA3
      have b9 : But p H GA := (b7.trans b8).trans (.of sE)
      have hP9 := hP8.same sE
      have eL9 := sE _ _ (b8 _ _ (fun z => by subst z; exact npL rfl) eL7)
      -- the inner loop
      refine ⟨.int n, rfl, (by show 4 ≤ sizeLine; decide), fun M nM => ⟨M, rfl, ⟨_, SqL.of upd_same⟩, ?_⟩⟩
      obtain ⟨oP9, eP9⟩ := hP9.some
      have npM : p ≠ M := ne_of_none eP9 nM
      refine for_list (K := K) (a := M) (xs := Vf.vs [1, n, 12, 24])
        (fun j σ H' => ∃ z8 z9 : Option V, σ = [some (.ref p), some (.int n), some (.int one), some (.int two), some (.int three), some (.int v), some (.ref S), some (.ref T), z8, z9] ∧ Pot H' p ∧ But p H H' ∧
          H' L = some (.lst (Vf.vs [one, two, three, one ^^^ two, one &&& two, 2 ^ n - 1, 0])) ∧ H' M = some (.lst (Vf.vs [1, n, 12, 24])))
        ⟨_, _, rfl, hP9.upd npM, b9.new (b9.free hP9 nM), same_new nM _ _ eL9, upd_same⟩ (fun j σ H' _ hI => ?_) (fun j x σ H' hx hI => ?_) (fun σ H' hI => ?_)
      · obtain ⟨_, _, _, _, _, _, e⟩ := hI
        exact SqL.of e
      · obtain ⟨y8, y9, rfl, hPa, ba, eLa, eMa⟩ := hI
        obtain ⟨m, em, rfl⟩ := get_vs hx
        have hm : 1 ≤ m ∧ m ≤ 24 := by
          have := List.mem_of_getElem? em
          simp only [List.mem_cons, List.not_mem_nil, or_false] at this
          rcases this with rfl | rfl | rfl | rfl <;> omega
        refine ⟨.int v, rfl, .int m, rfl, m, rfl, rfl, by omega, v, 2 ^ m, rfl, rfl, ?_⟩
        refine ⟨.int m, rfl, .int v, rfl, m, v, rfl, hm.1, hm.2, .int v, rfl, .int m, rfl, rfl, m, v, rfl, hm.1, hm.2, (by show 2 ≤ sizeLine; decide), fun Q1 nQ1 => ?_⟩
        refine repr_small (xs := [V.bl (decide (v < 2 ^ m)), V.bl (decide (v < 2 ^ m))]) (SqL.of upd_same) (sm_bl [_, _]) s1000 ?_
        refine ⟨.bl (decide (v < 2 ^ m)), rfl, .bl (decide (v < 2 ^ m)), rfl, (by show 2 ≤ sizeLine; decide), fun Q2 nQ2 => ?_⟩
        refine repr_small (xs := [V.bl (decide (v < 2 ^ m)), V.bl (decide (v < 2 ^ m))]) (SqL.of upd_same) (sm_bl [_, _]) s1000 ?_
        have sF := (same_new (o := .lst [V.bl (decide (v < 2 ^ m)), V.bl (decide (v < 2 ^ m))]) nQ1).trans (same_new (o := .lst [V.bl (decide (v < 2 ^ m)), V.bl (decide (v < 2 ^ m))]) nQ2)
        exact ne_str ⟨false, rfl, iteF ⟨_, _, rfl, hPa.same sF, ba.trans (.of sF), sF _ _ eLa, sF _ _ eMa⟩⟩
      · obtain ⟨y8, y9, rfl, hPa, ba, eLa, _⟩ := hI
        exact ⟨_, _, _, _, _, rfl, hPa, ba, eLa⟩
    · obtain ⟨z5, z6, z7, z8, z9, rfl, hP5, b6, eL⟩ := hI
      have lb : two &&& three < 2 ^ 24 := Nat.lt_of_le_of_lt Nat.and_le_left h2
      have ly : one ^^^ three < 2 ^ 24 := Nat.xor_lt_two_pow l1 l3
      refine ⟨.int one, rfl, .int two, rfl, one, two, rfl, rfl, one &&& two, rfl, la, fun J1 t1 => ⟨_, 2, rfl, rfl, by decide, _, 0, rfl, rfl, ?_⟩⟩
      refine ⟨.int two, rfl, .int three, rfl, two, three, rfl, rfl, two &&& three, rfl, lb, fun J2 t2 => ⟨_, 2, rfl, rfl, by decide, _, 0, rfl, rfl, (by show 2 ≤ sizeLine; decide), fun D nD => ?_⟩⟩
      refine ⟨.int one, rfl, .int two, rfl, one, two, rfl, l1, h2, .int two, rfl, .int one, rfl, rfl, one, two, rfl, l1, h2, .int two, rfl, .int one, rfl, two, one, rfl, h2, l1, .int three, rfl, .int two, rfl, three, two, rfl, l3, h2, (by show 4 ≤ sizeLine; decide), fun R1 nR1 => ?_⟩
      refine repr_small (xs := [V.bl (decide (pc (one &&& two) % 2 = 0)), V.bl (decide (pc (one &&& two) % 2 = 0)), V.bl (decide (pc (two &&& one) % 2 = 0)), V.bl (decide (pc (three &&& two) % 2 = 0))]) (SqL.of upd_same) (sm_bl [_, _, _, _]) (show 4 ≤ 1000 by decide) ?_
      have eD : ∀ {o : HO} {R : Addr}, (upd J2 D (.lst [V.bl (decide (pc (one &&& two) % 2 = 0)), V.bl (decide (pc (two &&& three) % 2 = 0))])) R = none →
          (upd (upd J2 D (.lst [V.bl (decide (pc (one &&& two) % 2 = 0)), V.bl (decide (pc (two &&& three) % 2 = 0))])) R o) D = some (.lst [V.bl (decide (pc (one &&& two) % 2 = 0)), V.bl (decide (pc (two &&& three) % 2 = 0))]) :=
        fun {o R} e => same_new e _ _ upd_same
      have eD1 := eD (o := .lst [V.bl (decide (pc (one &&& two) % 2 = 0)), V.bl (decide (pc (one &&& two) % 2 = 0)), V.bl (decide (pc (two &&& one) % 2 = 0)), V.bl (decide (pc (three &&& two) % 2 = 0))]) nR1
      refine ⟨.ref D, rfl, D, _, 0, _, rfl, rfl, SqL.of eD1, atI_nat (j := 0) rfl, .ref D, rfl, D, _, 0, _, rfl, rfl, SqL.of eD1, atI_nat (j := 0) rfl, .ref D, rfl, D, _, 0, _, rfl, rfl, SqL.of eD1, atI_nat (j := 0) rfl,
        .ref D, rfl, D, _, 1, _, rfl, rfl, SqL.of eD1, atI_nat (j := 1) rfl, (by show 4 ≤ sizeLine; decide), fun R2 nR2 => ?_⟩
      refine repr_small (xs := [V.bl (decide (pc (one &&& two) % 2 = 0)), V.bl (decide (pc (one &&& two) % 2 = 0)), V.bl (decide (pc (one &&& two) % 2 = 0)), V.bl (decide (pc (two &&& three) % 2 = 0))]) (SqL.of upd_same) (sm_bl [_, _, _, _]) (show 4 ≤ 1000 by decide) ?_
      refine ne_strE (by rw [Nat.and_comm two one, Nat.and_comm three two]) ⟨false, rfl, iteF ?_⟩
      have eD2 := same_new (o := .lst [V.bl (decide (pc (one &&& two) % 2 = 0)), V.bl (decide (pc (one &&& two) % 2 = 0)), V.bl (decide (pc (one &&& two) % 2 = 0)), V.bl (decide (pc (two &&& three) % 2 = 0))]) nR2 _ _ eD1
      have bE : But p H (upd (upd (upd J2 D (.lst [V.bl (decide (pc (one &&& two) % 2 = 0)), V.bl (decide (pc (two &&& three) % 2 = 0))])) R1 (.lst [V.bl (decide (pc (one &&& two) % 2 = 0)), V.bl (decide (pc (one &&& two) % 2 = 0)), V.bl (decide (pc (two &&& one) % 2 = 0)), V.bl (decide (pc (three &&& two) % 2 = 0))])) R2 (.lst [V.bl (decide (pc (one &&& two) % 2 = 0)), V.bl (decide (pc (one &&& two) % 2 = 0)), V.bl (decide (pc (one &&& two) % 2 = 0)), V.bl (decide (pc (two &&& three) % 2 = 0))])) :=
        b6.trans (.of ((((t1.trans t2).trans (same_new nD)).trans (same_new nR1)).trans (same_new nR2)))
      generalize (upd (upd (upd J2 D (.lst [V.bl (decide (pc (one &&& two) % 2 = 0)), V.bl (decide (pc (two &&& three) % 2 = 0))])) R1 (.lst [V.bl (decide (pc (one &&& two) % 2 = 0)), V.bl (decide (pc (one &&& two) % 2 = 0)), V.bl (decide (pc (two &&& one) % 2 = 0)), V.bl (decide (pc (three &&& two) % 2 = 0))])) R2 (.lst [V.bl (decide (pc (one &&& two) % 2 = 0)), V.bl (decide (pc (one &&& two) % 2 = 0)), V.bl (decide (pc (one &&& two) % 2 = 0)), V.bl (decide (pc (two &&& three) % 2 = 0))])) = GE at eD2 bE ⊢
      refine ⟨.int one, rfl, .int three, rfl, one, three, rfl, rfl, .int two, rfl, one ^^^ three, two, rfl, ly, h2, .ref D, rfl, D, _, 0, _, rfl, rfl, SqL.of eD2, atI_nat (j := 0) rfl, .ref D, rfl, D, _, 1, _, rfl, rfl, SqL.of eD2, atI_nat (j := 1) rfl, rfl, rfl, false, ?_, iteF ?_⟩
      · exact due_eq one two three
      · refine ⟨.int one, rfl, one, rfl, l1, .int two, rfl, two, rfl, h2, pc one, pc two, rfl, rfl, .int one, rfl, .int two, rfl, one, two, rfl, rfl, one ^^^ two, rfl, lx, .int one, rfl, .int two, rfl, one, two, rfl, rfl, one &&& two, rfl, la,
          2, pc (one &&& two), rfl, rfl, by decide, pc (one ^^^ two), 2 * pc (one &&& two), rfl, rfl, _, _, rfl, rfl, false, nbl_f (pc_two one two), iteF ?_⟩
        refine ⟨.int one, rfl, .int one, rfl, one, one, rfl, l1, l1, .int one, rfl, one, rfl, l1, pc one, 2, rfl, rfl, by decide, _, 0, rfl, rfl, rfl, true, ?_, iteT ?_⟩
        · rw [Nat.and_self]
          exact bl_t rfl
        · refine ⟨.int two, rfl, 0, two, rfl, by decide, h2, _, true, rfl, rfl, ?_⟩
          have e : decide (decide (pc (0 &&& two) % 2 = 0) = true) = true := by
            rw [Nat.zero_and, pc_zero]
            rfl
          rw [e]
          exact q _ bE
end
end K11

set_option Elab.async false
set_option linter.all false
set_option maxRecDepth 100000
set_option maxHeartbeats 4000000
set_option pp.maxSteps 400
namespace K11
open PySem PySem.Spec PyProof.Rows L2 Vf
abbrev s_law : Stmt := topS 27
abbrev N_law : List Str := ["_law_script", "_law_k"]
theorem sc_law : FnScope N_law ["_law_script"] (defScope s_law) := ⟨rfl, rfl, rfl, by decide +kernel, rfl, by decide +kernel, by decide +kernel⟩
theorem vals_rev : ∀ {xs : List V} {us : List Value}, Vals xs us → Vals xs.reverse us.reverse
  | [], _, .nil => .nil
  | x :: xs, u :: us, .cons r t => by
    rw [List.reverse_cons, List.reverse_cons]
    exact (vals_rev t).append (.cons r .nil)
section
variable {P : Program} {w : World} {K : PySem.W.Frag} {mg : Str → Option Value} {base : Heap}
def sp_law (K : PySem.W.Frag) : Sp := fun vs0 H Q _ => ∃ (a : Addr) (ns : List Int), vs0 = [.ref a] ∧ SqL K H a (ns.map V.int) ∧ ∀ H', Q (.bl true) H'
theorem ok_law {f : Addr} {fd : FuncData} (F : Fun K "law" "law" s_law f fd) (C_law_right : CalG P w K mg base "_law_right" 8 ["_law_pot_here"] sp_right)
    (C_law_pot : Cal P w K mg base "_law_pot" 1 ["_law_script", "_law_k"] [] (sp_pot K)) (m_all : mg "all" = none) (m_range : mg "range" = none) (m_max : mg "max" = none) (m_min : mg "min" = none) (m_len : mg "len" = none) :
    GnOk P w K mg base 9 f fd ["_law_script"] (sp_law K) := by
  refine gn_ok F sc_law (fun vs H Q E h => ?_) (fun cdv A outer s H vs Q E hg hr h => ?_)
  · obtain ⟨a, ns, rfl, _⟩ := h
    rfl
  · obtain ⟨a, ns, rfl, hS, q⟩ := h
    refine ⟨_, (pss_one (ps_ret (pe_callB (cr_all rfl) (by rfl) m_all (by decide +kernel) (pa_cons (pe_lc (own := [("_law_k", 1)]) (g := gName 1) (by rfl) sc_law.nd (pi_range1 (by rfl) m_range (pa_cons (pe_callB (call_max2 rfl) (by rfl) m_max (by decide +kernel) (pa_cons pe_int (pa_cons (pe_callB (call_min2 rfl) (by rfl) m_min (by decide +kernel) (pa_cons pe_int (pa_cons (pe_callB call_len_seq (by rfl) m_len (by decide +kernel) (pa_cons (pv 0) pa_nil)) pa_nil))) pa_nil))) pa_nil)) (blkOk_by (own := [("_law_k", 1)]) (N := N_law) (sc := defScope s_law) (by decide +kernel)) (fun _ _ _ _ _ => pg_name (i := 1) sc_law.nd rfl (Or.inl rfl)) (fun _ _ _ _ _ => pts_nil) (fun _ _ _ _ _ => (pe_calG C_law_right hg (hr.mono (by decide)) (by rfl) (pa_cons (pe_cal C_law_pot (hr.mono (by decide)) (by rfl) (pa_cons (pv 0) (pa_cons (pv 1) pa_nil))) pa_nil)))) pa_nil)))), ?_⟩
    obtain ⟨J, hJ, j1, j2⟩ : ∃ J : Int, (if (if (((ns.map V.int).length : Nat) : Int) < 2 then (((ns.map V.int).length : Nat) : Int) else 2) > 1 then (if (((ns.map V.int).length : Nat) : Int) < 2 then (((ns.map V.int).length : Nat) : Int) else 2) else 1) = J ∧ 1 ≤ J ∧ J ≤ 2 :=
      ⟨_, rfl, by split <;> (try split) <;> omega, by split <;> (try split) <;> omega⟩
    refine ⟨.ref a, rfl, a, _, rfl, .inl hS, 2, _, rfl, 1, _, rfl, J, by rw [hJ], by omega, by omega, fun D hD => ?_⟩
    refine lc_range (lo := 0) (n := J.toNat) (fun i H' => Same H H' ∧ H' D = some (.lst ((List.replicate i true).map V.bl))) ⟨same_new hD, upd_same⟩ (fun i H' hi hP => ?_) fun H' hP => ?_
    · obtain ⟨sm, eD⟩ := hP
      refine ⟨rfl, yes_ ?_⟩
      refine iteT ?_
      refine ⟨.ref a, rfl, .int (0 + (i : Int)), rfl, a, ns, i, by rw [Int.zero_add]; rfl, sm.seq hS, by omega, fun H1 p s1 np hP => ?_⟩
      have nD : D ≠ p := ne_of_none eD np
      refine ⟨p, rfl, hP, fun H2 b2 => ⟨_, b2 _ _ nD (s1 _ _ eD), ?_, fun b o e => ?_, ?_⟩⟩
      · rw [List.length_map, List.length_replicate]
        exact sl_lt (by omega)
      · have e1 := sm b o e
        rw [upd_ne (ne_of_none e hD)]
        exact b2 b o (ne_of_none e1 np) (s1 _ _ e1)
      · rw [upd_same, List.replicate_succ', List.map_append]
        rfl
    · refine ⟨D, _, rfl, SqL.of hP.2, ?_⟩
      rw [all_true]
      exact q _
end
theorem all_mk {l : PySem.W.OpenLaw} {w : World} {K : PySem.W.Frag} {h : Heap} {mg : Str → Option Value} {fa T fP f1 f2 f3 f4 f5 f6 f7 f8 f9 f10 f11 f12 f13 f14 f15 f16 f17 f18 : Addr} (X : K.In h) (G : h.Ns mainGlobals mg) (hfa : mg "law" = some (.ref fa))
    {odP anP od1 an1 od2 an2 od3 an3 od4 an4 od5 an5 od6 an6 od7 an7 od8 an8 od9 an9 od10 an10 od11 an11 od12 an12 od13 an13 od14 an14 od15 an15 od16 an16 od17 an17 od18 an18 dT : Option Addr} {slP sl1 sl2 sl3 sl4 sl5 sl6 sl7 sl8 sl9 sl10 sl11 sl12 sl13 sl14 sl15 sl16 sl17 sl18 sT : Array (Option Value)} {ocP kVP dcP pmP cdP ctP oc1 kV1 dc1 pm1 cd1 ct1 oc2 kV2 dc2 pm2 cd2 ct2 oc3 kV3 dc3 pm3 cd3 ct3 oc4 kV4 dc4 pm4 cd4 ct4 oc5 kV5 dc5 pm5 cd5 ct5 oc6 kV6 dc6 pm6 cd6 ct6 oc7 kV7 dc7 pm7 cd7 ct7 oc8 kV8 dc8 pm8 cd8 ct8 oc9 kV9 dc9 pm9 cd9 ct9 oc10 kV10 dc10 pm10 cd10 ct10 oc11 kV11 dc11 pm11 cd11 ct11 oc12 kV12 dc12 pm12 cd12 ct12 oc13 kV13 dc13 pm13 cd13 ct13 oc14 kV14 dc14 pm14 cd14 ct14 oc15 kV15 dc15 pm15 cd15 ct15 oc16 kV16 dc16 pm16 cd16 ct16 oc17 kV17 dc17 pm17 cd17 ct17 oc18 kV18 dc18 pm18 cd18 ct18 oT : Value} {nT : Nat} {tT tM : Tok}
    (a1 : PySem.W.nsIn K mainGlobals "is_integer" = some (some (.ref f1)))
    (l1 : K.lookup f1 = some ⟨oc1, od1, .func (PySem.W.fnOf "is_integer" "is_integer" (defArgs s_is_integer) (defBody s_is_integer) (defScope s_is_integer) .none kV1 dc1 pm1 an1 cd1 ct1), sl1⟩)
    (c1 : PySem.W.codeIn K cd1 "is_integer" = true) (k1 : PySem.W.keepIn K (.ref f1) = true)
    (a2 : PySem.W.nsIn K mainGlobals "is_count" = some (some (.ref f2)))
    (l2 : K.lookup f2 = some ⟨oc2, od2, .func (PySem.W.fnOf "is_count" "is_count" (defArgs s_is_count) (defBody s_is_count) (defScope s_is_count) .none kV2 dc2 pm2 an2 cd2 ct2), sl2⟩)
    (c2 : PySem.W.codeIn K cd2 "is_count" = true) (k2 : PySem.W.keepIn K (.ref f2) = true)
    (a3 : PySem.W.nsIn K mainGlobals "is_list" = some (some (.ref f3)))
    (l3 : K.lookup f3 = some ⟨oc3, od3, .func (PySem.W.fnOf "is_list" "is_list" (defArgs s_is_list) (defBody s_is_list) (defScope s_is_list) .none kV3 dc3 pm3 an3 cd3 ct3), sl3⟩)
    (c3 : PySem.W.codeIn K cd3 "is_list" = true) (k3 : PySem.W.keepIn K (.ref f3) = true)
    (aP : PySem.W.nsIn K mainGlobals "is_places" = some (some (.ref fP)))
    (lP : K.lookup fP = some ⟨ocP, odP, .func (PySem.W.fnOf "is_places" "is_places" (defArgs s_is_places) (defBody s_is_places) (defScope s_is_places) .none kVP dcP pmP anP cdP ctP), slP⟩)
    (cP : PySem.W.codeIn K cdP "is_places" = true) (kP : PySem.W.keepIn K (.ref fP) = true)
    (a4 : PySem.W.nsIn K mainGlobals "check_places" = some (some (.ref f4)))
    (l4 : K.lookup f4 = some ⟨oc4, od4, .func (PySem.W.fnOf "check_places" "check_places" (defArgs s_check_places) (defBody s_check_places) (defScope s_check_places) .none kV4 dc4 pm4 an4 cd4 ct4), sl4⟩)
    (c4 : PySem.W.codeIn K cd4 "check_places" = true) (k4 : PySem.W.keepIn K (.ref f4) = true)
    (a5 : PySem.W.nsIn K mainGlobals "is_word" = some (some (.ref f5)))
    (l5 : K.lookup f5 = some ⟨oc5, od5, .func (PySem.W.fnOf "is_word" "is_word" (defArgs s_is_word) (defBody s_is_word) (defScope s_is_word) .none kV5 dc5 pm5 an5 cd5 ct5), sl5⟩)
    (c5 : PySem.W.codeIn K cd5 "is_word" = true) (k5 : PySem.W.keepIn K (.ref f5) = true)
    (a6 : PySem.W.nsIn K mainGlobals "check_word" = some (some (.ref f6)))
    (l6 : K.lookup f6 = some ⟨oc6, od6, .func (PySem.W.fnOf "check_word" "check_word" (defArgs s_check_word) (defBody s_check_word) (defScope s_check_word) (.ref T) kV6 dc6 pm6 an6 cd6 ct6), sl6⟩)
    (c6 : PySem.W.codeIn K cd6 "check_word" = true) (k6 : PySem.W.keepIn K (.ref f6) = true)
    (a7 : PySem.W.nsIn K mainGlobals "weight" = some (some (.ref f7)))
    (l7 : K.lookup f7 = some ⟨oc7, od7, .func (PySem.W.fnOf "weight" "weight" (defArgs s_weight) (defBody s_weight) (defScope s_weight) .none kV7 dc7 pm7 an7 cd7 ct7), sl7⟩)
    (c7 : PySem.W.codeIn K cd7 "weight" = true) (k7 : PySem.W.keepIn K (.ref f7) = true)
    (a8 : PySem.W.nsIn K mainGlobals "are_even" = some (some (.ref f8)))
    (l8 : K.lookup f8 = some ⟨oc8, od8, .func (PySem.W.fnOf "are_even" "are_even" (defArgs s_are_even) (defBody s_are_even) (defScope s_are_even) .none kV8 dc8 pm8 an8 cd8 ct8), sl8⟩)
    (c8 : PySem.W.codeIn K cd8 "are_even" = true) (k8 : PySem.W.keepIn K (.ref f8) = true)
    (a9 : PySem.W.nsIn K mainGlobals "places_of" = some (some (.ref f9)))
    (l9 : K.lookup f9 = some ⟨oc9, od9, .func (PySem.W.fnOf "places_of" "places_of" (defArgs s_places_of) (defBody s_places_of) (defScope s_places_of) .none kV9 dc9 pm9 an9 cd9 ct9), sl9⟩)
    (c9 : PySem.W.codeIn K cd9 "places_of" = true) (k9 : PySem.W.keepIn K (.ref f9) = true)
    (a10 : PySem.W.nsIn K mainGlobals "are_spots" = some (some (.ref f10)))
    (l10 : K.lookup f10 = some ⟨oc10, od10, .func (PySem.W.fnOf "are_spots" "are_spots" (defArgs s_are_spots) (defBody s_are_spots) (defScope s_are_spots) .none kV10 dc10 pm10 an10 cd10 ct10), sl10⟩)
    (c10 : PySem.W.codeIn K cd10 "are_spots" = true) (k10 : PySem.W.keepIn K (.ref f10) = true)
    (a11 : PySem.W.nsIn K mainGlobals "word_of" = some (some (.ref f11)))
    (l11 : K.lookup f11 = some ⟨oc11, od11, .func (PySem.W.fnOf "word_of" "word_of" (defArgs s_word_of) (defBody s_word_of) (defScope s_word_of) .none kV11 dc11 pm11 an11 cd11 ct11), sl11⟩)
    (c11 : PySem.W.codeIn K cd11 "word_of" = true) (k11 : PySem.W.keepIn K (.ref f11) = true)
    (a12 : PySem.W.nsIn K mainGlobals "_law_pot" = some (some (.ref f12)))
    (l12 : K.lookup f12 = some ⟨oc12, od12, .func (PySem.W.fnOf "_law_pot" "_law_pot" (defArgs s_law_pot) (defBody s_law_pot) (defScope s_law_pot) .none kV12 dc12 pm12 an12 cd12 ct12), sl12⟩)
    (c12 : PySem.W.codeIn K cd12 "_law_pot" = true) (k12 : PySem.W.keepIn K (.ref f12) = true)
    (a13 : PySem.W.nsIn K mainGlobals "_law_draw" = some (some (.ref f13)))
    (l13 : K.lookup f13 = some ⟨oc13, od13, .func (PySem.W.fnOf "_law_draw" "_law_draw" (defArgs s_law_draw) (defBody s_law_draw) (defScope s_law_draw) .none kV13 dc13 pm13 an13 cd13 ct13), sl13⟩)
    (c13 : PySem.W.codeIn K cd13 "_law_draw" = true) (k13 : PySem.W.keepIn K (.ref f13) = true)
    (a14 : PySem.W.nsIn K mainGlobals "_law_weight" = some (some (.ref f14)))
    (l14 : K.lookup f14 = some ⟨oc14, od14, .func (PySem.W.fnOf "_law_weight" "_law_weight" (defArgs s_law_weight) (defBody s_law_weight) (defScope s_law_weight) .none kV14 dc14 pm14 an14 cd14 ct14), sl14⟩)
    (c14 : PySem.W.codeIn K cd14 "_law_weight" = true) (k14 : PySem.W.keepIn K (.ref f14) = true)
    (a15 : PySem.W.nsIn K mainGlobals "_law_mixed" = some (some (.ref f15)))
    (l15 : K.lookup f15 = some ⟨oc15, od15, .func (PySem.W.fnOf "_law_mixed" "_law_mixed" (defArgs s_law_mixed) (defBody s_law_mixed) (defScope s_law_mixed) .none kV15 dc15 pm15 an15 cd15 ct15), sl15⟩)
    (c15 : PySem.W.codeIn K cd15 "_law_mixed" = true) (k15 : PySem.W.keepIn K (.ref f15) = true)
    (a16 : PySem.W.nsIn K mainGlobals "_law_spots" = some (some (.ref f16)))
    (l16 : K.lookup f16 = some ⟨oc16, od16, .func (PySem.W.fnOf "_law_spots" "_law_spots" (defArgs s_law_spots) (defBody s_law_spots) (defScope s_law_spots) .none kV16 dc16 pm16 an16 cd16 ct16), sl16⟩)
    (c16 : PySem.W.codeIn K cd16 "_law_spots" = true) (k16 : PySem.W.keepIn K (.ref f16) = true)
    (a17 : PySem.W.nsIn K mainGlobals "_law_right" = some (some (.ref f17)))
    (l17 : K.lookup f17 = some ⟨oc17, od17, .func (PySem.W.fnOf "_law_right" "_law_right" (defArgs s_law_right) (defBody s_law_right) (defScope s_law_right) .none kV17 dc17 pm17 an17 cd17 ct17), sl17⟩)
    (c17 : PySem.W.codeIn K cd17 "_law_right" = true) (k17 : PySem.W.keepIn K (.ref f17) = true)
    (a18 : PySem.W.nsIn K mainGlobals "law" = some (some (.ref f18)))
    (l18 : K.lookup f18 = some ⟨oc18, od18, .func (PySem.W.fnOf "law" "law" (defArgs s_law) (defBody s_law) (defScope s_law) .none kV18 dc18 pm18 an18 cd18 ct18), sl18⟩)
    (c18 : PySem.W.codeIn K cd18 "law" = true) (k18 : PySem.W.keepIn K (.ref f18) = true)
    (lT : K.lookup T = some ⟨oT, dT, .seq [Value.int 24 tT].toArray nT, sT⟩)
    (aM : PySem.W.nsIn K mainGlobals "MOST_PLACES" = some (some (.int 24 tM)))
    (z_isinstance : PySem.W.nsIn K mainGlobals "isinstance" = some none)
    (z_int : PySem.W.nsIn K mainGlobals "int" = some none)
    (z_bool : PySem.W.nsIn K mainGlobals "bool" = some none)
    (z_list : PySem.W.nsIn K mainGlobals "list" = some none)
    (z_tuple : PySem.W.nsIn K mainGlobals "tuple" = some none)
    (z_range : PySem.W.nsIn K mainGlobals "range" = some none)
    (z_all : PySem.W.nsIn K mainGlobals "all" = some none)
    (z_len : PySem.W.nsIn K mainGlobals "len" = some none)
    (z_set : PySem.W.nsIn K mainGlobals "set" = some none)
    (z_sum : PySem.W.nsIn K mainGlobals "sum" = some none)
    (z_abs : PySem.W.nsIn K mainGlobals "abs" = some none)
    (z_max : PySem.W.nsIn K mainGlobals "max" = some none)
    (z_min : PySem.W.nsIn K mainGlobals "min" = some none)
    (z_divmod : PySem.W.nsIn K mainGlobals "divmod" = some none)
    (z_repr : PySem.W.nsIn K mainGlobals "repr" = some none)
    : ∃ fd : FuncData, (∀ (s : Shared) (v : Value), BindsTo s fd ⟨[v], []⟩ [("_law_script", v)]) ∧ ∀ base : Heap, K.In base → base.Ns mainGlobals mg → GnOk l.prog w K mg base 9 fa fd ["_law_script"] (sp_law K) := by
  have e := hfa.symm.trans (PySem.W.mg_of X G a18)
  cases e
  have F1 := fun_mk (st := s_is_integer) l1 c1 k1
  have b1 := F1.binds (ps := ["value"]) fun _ _ _ _ _ _ us hl => match us, hl with | [_], _ => rfl
  have g1 := PySem.W.mg_of X G a1
  have F2 := fun_mk (st := s_is_count) l2 c2 k2
  have b2 := F2.binds (ps := ["value"]) fun _ _ _ _ _ _ us hl => match us, hl with | [_], _ => rfl
  have g2 := PySem.W.mg_of X G a2
  have F3 := fun_mk (st := s_is_list) l3 c3 k3
  have b3 := F3.binds (ps := ["value"]) fun _ _ _ _ _ _ us hl => match us, hl with | [_], _ => rfl
  have g3 := PySem.W.mg_of X G a3
  have FP := fun_mk (st := s_is_places) lP cP kP
  have bP := FP.binds (ps := ["value"]) fun _ _ _ _ _ _ us hl => match us, hl with | [_], _ => rfl
  have gP := PySem.W.mg_of X G aP
  have F4 := fun_mk (st := s_check_places) l4 c4 k4
  have b4 := F4.binds (ps := ["places"]) fun _ _ _ _ _ _ us hl => match us, hl with | [_], _ => rfl
  have g4 := PySem.W.mg_of X G a4
  have F5 := fun_mk (st := s_is_word) l5 c5 k5
  have b5 := F5.binds (ps := ["places", "value"]) fun _ _ _ _ _ _ us hl => match us, hl with | [_, _], _ => rfl
  have g5 := PySem.W.mg_of X G a5
  have F6 : FunD K "check_word" "check_word" (defArgs s_check_word) (defBody s_check_word) (defScope s_check_word) [.int 24] [] f6 _ := ⟨⟨_, _, _, _, _, _, _, _, _, _, rfl, l6, c6, .inr ⟨by simp, T, _, _, _, rfl, lT, rfl, .cons ⟨_, rfl⟩ .nil⟩, .inl rfl⟩, k6⟩
  obtain ⟨ds6, hv6, b6⟩ := F6.binds1 (ps := ["word", "places"]) 1 0 (by simp) rfl fun _ _ _ _ _ _ _ us its h1 h2 => match us, its, h1, h2 with | [_], [_], _, _ => ⟨_, rfl, rfl⟩
  have g6 := PySem.W.mg_of X G a6
  have F7 := fun_mk (st := s_weight) l7 c7 k7
  have b7 := F7.binds (ps := ["word"]) fun _ _ _ _ _ _ us hl => match us, hl with | [_], _ => rfl
  have g7 := PySem.W.mg_of X G a7
  have F8 := fun_mk (st := s_are_even) l8 c8 k8
  have b8 := F8.binds (ps := ["word", "other"]) fun _ _ _ _ _ _ us hl => match us, hl with | [_, _], _ => rfl
  have g8 := PySem.W.mg_of X G a8
  have F9 := fun_mk (st := s_places_of) l9 c9 k9
  have b9 := F9.binds (ps := ["word"]) fun _ _ _ _ _ _ us hl => match us, hl with | [_], _ => rfl
  have g9 := PySem.W.mg_of X G a9
  have F10 := fun_mk (st := s_are_spots) l10 c10 k10
  have b10 := F10.binds (ps := ["places", "value"]) fun _ _ _ _ _ _ us hl => match us, hl with | [_, _], _ => rfl
  have g10 := PySem.W.mg_of X G a10
  have F11 := fun_mk (st := s_word_of) l11 c11 k11
  have b11 := F11.binds (ps := ["spots"]) fun _ _ _ _ _ _ us hl => match us, hl with | [_], _ => rfl
  have g11 := PySem.W.mg_of X G a11
  have F12 := fun_mk (st := s_law_pot) l12 c12 k12
  have b12 := F12.binds (ps := ["_law_script", "_law_k"]) fun _ _ _ _ _ _ us hl => match us, hl with | [_, _], _ => rfl
  have g12 := PySem.W.mg_of X G a12
  have F13 := fun_mk (st := s_law_draw) l13 c13 k13
  have b13 := F13.binds (ps := ["_law_pot_here", "_law_size"]) fun _ _ _ _ _ _ us hl => match us, hl with | [_, _], _ => rfl
  have g13 := PySem.W.mg_of X G a13
  have F14 := fun_mk (st := s_law_weight) l14 c14 k14
  have b14 := F14.binds (ps := ["_law_word"]) fun _ _ _ _ _ _ us hl => match us, hl with | [_], _ => rfl
  have g14 := PySem.W.mg_of X G a14
  have F15 := fun_mk (st := s_law_mixed) l15 c15 k15
  have b15 := F15.binds (ps := ["_law_pot_here", "_law_some"]) fun _ _ _ _ _ _ us hl => match us, hl with | [_, _], _ => rfl
  have g15 := PySem.W.mg_of X G a15
  have F16 := fun_mk (st := s_law_spots) l16 c16 k16
  have b16 := F16.binds (ps := ["_law_word"]) fun _ _ _ _ _ _ us hl => match us, hl with | [_], _ => rfl
  have g16 := PySem.W.mg_of X G a16
  have F17 := fun_mk (st := s_law_right) l17 c17 k17
  have b17 := F17.binds (ps := ["_law_pot_here"]) fun _ _ _ _ _ _ us hl => match us, hl with | [_], _ => rfl
  have g17 := PySem.W.mg_of X G a17
  have F18 := fun_mk (st := s_law) l18 c18 k18
  have b18 := F18.binds (ps := ["_law_script"]) fun _ _ _ _ _ _ us hl => match us, hl with | [_], _ => rfl
  have g18 := PySem.W.mg_of X G a18
  have m_isinstance := PySem.W.mg_none_of X G z_isinstance
  have m_int := PySem.W.mg_none_of X G z_int
  have m_bool := PySem.W.mg_none_of X G z_bool
  have m_list := PySem.W.mg_none_of X G z_list
  have m_tuple := PySem.W.mg_none_of X G z_tuple
  have m_range := PySem.W.mg_none_of X G z_range
  have m_all := PySem.W.mg_none_of X G z_all
  have m_len := PySem.W.mg_none_of X G z_len
  have m_set := PySem.W.mg_none_of X G z_set
  have m_sum := PySem.W.mg_none_of X G z_sum
  have m_abs := PySem.W.mg_none_of X G z_abs
  have m_max := PySem.W.mg_none_of X G z_max
  have m_min := PySem.W.mg_none_of X G z_min
  have m_divmod := PySem.W.mg_none_of X G z_divmod
  have m_repr := PySem.W.mg_none_of X G z_repr
  have g_M := PySem.W.mg_of X G aM
  refine ⟨PySem.W.fnOf "law" "law" (defArgs s_law) (defBody s_law) (defScope s_law) .none kV18 dc18 pm18 an18 cd18 ct18, fun s v => .of_eq rfl, fun base _ _ => ?_⟩
  have C_is_integer : Cal l.prog w K mg base "is_integer" 1 ["value"] [] sp_is_integer := ⟨f1, _, [], ok_is_integer F1 m_isinstance m_int m_bool, g1, k1, b1, .nil⟩
  have C_is_count : Cal l.prog w K mg base "is_count" 2 ["value"] [] sp_is_count := ⟨f2, _, [], ok_is_count F2 C_is_integer, g2, k2, b2, .nil⟩
  have C_is_list : Cal l.prog w K mg base "is_list" 1 ["value"] [] sp_is_list := ⟨f3, _, [], ok_is_list F3 m_isinstance m_list m_tuple, g3, k3, b3, .nil⟩
  have C_is_places : Cal l.prog w K mg base "is_places" 2 ["value"] [] sp_is_places := ⟨fP, _, [], ok_is_places FP C_is_integer g_M, gP, kP, bP, .nil⟩
  have C_check_places : Cal l.prog w K mg base "check_places" 3 ["places"] [] sp_check_places := ⟨f4, _, [], ok_check_places F4 C_is_places, g4, k4, b4, .nil⟩
  have ok_is_word_ := ok_is_word F5 C_check_places C_is_count
  have C_is_word : Cal l.prog w K mg base "is_word" 4 ["places", "value"] [] sp_is_word := ⟨f5, _, [], ok_is_word_, g5, k5, b5, .nil⟩
  have C_check_word : Cal l.prog w K mg base "check_word" 5 ["word", "places"] [.int 24] sp_check_word := ⟨f6, _, ds6, ok_check_word F6 C_is_word, g6, k6, b6, hv6⟩
  have ok_weight_ := ok_weight F7 C_check_word
  have C_weight : Cal l.prog w K mg base "weight" 6 ["word"] [] sp_weight := ⟨f7, _, [], ok_weight_, g7, k7, b7, .nil⟩
  have ok_are_even_ := ok_are_even F8 C_check_word C_weight
  have C_are_even : Cal l.prog w K mg base "are_even" 7 ["word", "other"] [] sp_are_even := ⟨f8, _, [], ok_are_even_, g8, k8, b8, .nil⟩
  have ok_places_of_ := ok_places_of F9 C_check_word g_M m_range
  have C_places_of : Cal l.prog w K mg base "places_of" 6 ["word"] [] sp_places := ⟨f9, _, [], ok_places_of_, g9, k9, b9, .nil⟩
  have C_are_spots : Cal l.prog w K mg base "are_spots" 3 ["places", "value"] [] sp_are_spots := ⟨f10, _, [], ok_are_spots F10 C_is_list C_is_count m_all m_len m_set, g10, k10, b10, .nil⟩
  have ok_word_of_ := ok_word_of F11 C_are_spots g_M m_sum
  have C_word_of : Cal l.prog w K mg base "word_of" 4 ["spots"] [] sp_word_of := ⟨f11, _, [], ok_word_of_, g11, k11, b11, .nil⟩
  have C_law_pot : Cal l.prog w K mg base "_law_pot" 1 ["_law_script", "_law_k"] [] (sp_pot K) := ⟨f12, _, [], ok_law_pot F12 m_len m_abs m_max m_int, g12, k12, b12, .nil⟩
  have C_law_draw : Cal l.prog w K mg base "_law_draw" 1 ["_law_pot_here", "_law_size"] [] sp_draw := ⟨f13, _, [], ok_law_draw F13 m_divmod m_int, g13, k13, b13, .nil⟩
  have C_law_weight : Cal l.prog w K mg base "_law_weight" 1 ["_law_word"] [] sp_law_weight := ⟨f14, _, [], ok_law_weight F14 m_divmod, g14, k14, b14, .nil⟩
  have C_law_mixed : Cal l.prog w K mg base "_law_mixed" 2 ["_law_pot_here", "_law_some"] [] sp_mixed := ⟨f15, _, [], ok_law_mixed F15 C_law_draw m_list m_range m_len, g15, k15, b15, .nil⟩
  have C_law_spots : Cal l.prog w K mg base "_law_spots" 1 ["_law_word"] [] sp_places := ⟨f16, _, [], ok_law_spots F16 m_range, g16, k16, b16, .nil⟩
  have K_places_of_word : CalK l.prog w K mg base "places_of" 6 ["word"] ["word"] kw1 sp_places := by
    obtain ⟨f, fd, ds, F, gm, kp, b, hv⟩ := C_places_of
    cases (g9.symm.trans gm)
    exact ⟨f9, _, fun _ ws => ws, ok_places_of_, g9, k9, ⟨fun s us ws X h1 h2 => match us, ws, h1, h2 with | [], [_], _, _ => .of_eq rfl, fun _ r2 => r2⟩⟩
  have K_weight_word : CalK l.prog w K mg base "weight" 6 ["word"] ["word"] kw1 sp_weight := by
    obtain ⟨f, fd, ds, F, gm, kp, b, hv⟩ := C_weight
    cases (g7.symm.trans gm)
    exact ⟨f7, _, fun _ ws => ws, ok_weight_, g7, k7, ⟨fun s us ws X h1 h2 => match us, ws, h1, h2 with | [], [_], _, _ => .of_eq rfl, fun _ r2 => r2⟩⟩
  have K_word_of_spots : CalK l.prog w K mg base "word_of" 4 ["spots"] ["spots"] kw1 sp_word_of := by
    obtain ⟨f, fd, ds, F, gm, kp, b, hv⟩ := C_word_of
    cases (g11.symm.trans gm)
    exact ⟨f11, _, fun _ ws => ws, ok_word_of_, g11, k11, ⟨fun s us ws X h1 h2 => match us, ws, h1, h2 with | [], [_], _, _ => .of_eq rfl, fun _ r2 => r2⟩⟩
  have K_is_word_value_places : CalK l.prog w K mg base "is_word" 4 ["places", "value"] ["value", "places"] kw2 sp_is_word := by
    obtain ⟨f, fd, ds, F, gm, kp, b, hv⟩ := C_is_word
    cases (g5.symm.trans gm)
    exact ⟨f5, _, fun _ ws => ws.reverse, ok_is_word_, g5, k5, ⟨fun s us ws X h1 h2 => match us, ws, h1, h2 with | [], [_, _], _, _ => .of_eq rfl, fun _ r2 => vals_rev r2⟩⟩
  have K_are_even_other_word : CalK l.prog w K mg base "are_even" 7 ["word", "other"] ["other", "word"] kw2 sp_are_even := by
    obtain ⟨f, fd, ds, F, gm, kp, b, hv⟩ := C_are_even
    cases (g8.symm.trans gm)
    exact ⟨f8, _, fun _ ws => ws.reverse, ok_are_even_, g8, k8, ⟨fun s us ws X h1 h2 => match us, ws, h1, h2 with | [], [_, _], _, _ => .of_eq rfl, fun _ r2 => vals_rev r2⟩⟩
  have C_law_right : CalG l.prog w K mg base "_law_right" 8 ["_law_pot_here"] sp_right := ⟨f17, _, ok_law_right F17 C_law_draw C_law_spots C_places_of K_places_of_word C_weight K_weight_word C_law_weight C_law_mixed C_word_of K_word_of_spots C_is_word K_is_word_value_places C_are_even K_are_even_other_word m_repr m_len m_tuple, g17, k17, b17⟩
  exact ok_law F18 C_law_right C_law_pot m_all m_range m_max m_min m_len

end K11

open PySem PySem.W PyProof.Rows
set_option Elab.async false
set_option maxRecDepth 100000 in
set_option maxHeartbeats 0 in
theorem PySem.Challenge.cw_owncontraries_k11_whole_words_holds : PySem.Challenge.rw_owncontraries_k11_whole_words.Holds := by
  w_on; o_law; k_head; (case hw => w_witness2)
  k_fill
  refine Vf.walk_gn (l := PySem.Challenge.rw_owncontraries_k11_whole_words) (n := 63) (k := 9) (x := "_law_script") (sp := fun w => K11.sp_law _) rfl (by decide) rfl ⟨rfl, by decide, by decide⟩ (fun w h Y => PySem.W.kIn_of Y) ?F (fun _ _ a ns _ _ _ hS => ⟨a, ns, rfl, hS, fun _ => rfl⟩)
  case F =>
    intro w mg fa h KX G hmg
    refine' K11.all_mk KX G hmg ?a1 ?l1 ?c1 ?k1 ?a2 ?l2 ?c2 ?k2 ?a3 ?l3 ?c3 ?k3 ?aP ?lP ?cP ?kP ?a4 ?l4 ?c4 ?k4 ?a5 ?l5 ?c5 ?k5 ?a6 ?l6 ?c6 ?k6 ?a7 ?l7 ?c7 ?k7 ?a8 ?l8 ?c8 ?k8 ?a9 ?l9 ?c9 ?k9 ?a10 ?l10 ?c10 ?k10 ?a11 ?l11 ?c11 ?k11 ?a12 ?l12 ?c12 ?k12 ?a13 ?l13 ?c13 ?k13 ?a14 ?l14 ?c14 ?k14 ?a15 ?l15 ?c15 ?k15 ?a16 ?l16 ?c16 ?k16 ?a17 ?l17 ?c17 ?k17 ?a18 ?l18 ?c18 ?k18 ?lT ?aM ?z_isinstance ?z_int ?z_bool ?z_list ?z_tuple ?z_range ?z_all ?z_len ?z_set ?z_sum ?z_abs ?z_max ?z_min ?z_divmod ?z_repr
    (case a1 => k_is)
    (case l1 => k_is)
    (case c1 => k_is)
    (case k1 => k_is)
    (case a2 => k_is)
    (case l2 => k_is)
    (case c2 => k_is)
    (case k2 => k_is)
    (case a3 => k_is)
    (case l3 => k_is)
    (case c3 => k_is)
    (case k3 => k_is)
    (case aP => k_is)
    (case lP => k_is)
    (case cP => k_is)
    (case kP => k_is)
    (case a4 => k_is)
    (case l4 => k_is)
    (case c4 => k_is)
    (case k4 => k_is)
    (case a5 => k_is)
    (case l5 => k_is)
    (case c5 => k_is)
    (case k5 => k_is)
    (case a6 => k_is)
    (case l6 => k_is)
    (case c6 => k_is)
    (case k6 => k_is)
    (case a7 => k_is)
    (case l7 => k_is)
    (case c7 => k_is)
    (case k7 => k_is)
    (case a8 => k_is)
    (case l8 => k_is)
    (case c8 => k_is)
    (case k8 => k_is)
    (case a9 => k_is)
    (case l9 => k_is)
    (case c9 => k_is)
    (case k9 => k_is)
    (case a10 => k_is)
    (case l10 => k_is)
    (case c10 => k_is)
    (case k10 => k_is)
    (case a11 => k_is)
    (case l11 => k_is)
    (case c11 => k_is)
    (case k11 => k_is)
    (case a12 => k_is)
    (case l12 => k_is)
    (case c12 => k_is)
    (case k12 => k_is)
    (case a13 => k_is)
    (case l13 => k_is)
    (case c13 => k_is)
    (case k13 => k_is)
    (case a14 => k_is)
    (case l14 => k_is)
    (case c14 => k_is)
    (case k14 => k_is)
    (case a15 => k_is)
    (case l15 => k_is)
    (case c15 => k_is)
    (case k15 => k_is)
    (case a16 => k_is)
    (case l16 => k_is)
    (case c16 => k_is)
    (case k16 => k_is)
    (case a17 => k_is)
    (case l17 => k_is)
    (case c17 => k_is)
    (case k17 => k_is)
    (case a18 => k_is)
    (case l18 => k_is)
    (case c18 => k_is)
    (case k18 => k_is)
    (case lT => k_is)
    (case aM => k_is)
    (case z_isinstance => k_is)
    (case z_int => k_is)
    (case z_bool => k_is)
    (case z_list => k_is)
    (case z_tuple => k_is)
    (case z_range => k_is)
    (case z_all => k_is)
    (case z_len => k_is)
    (case z_set => k_is)
    (case z_sum => k_is)
    (case z_abs => k_is)
    (case z_max => k_is)
    (case z_min => k_is)
    (case z_divmod => k_is)
    (case z_repr => k_is)

