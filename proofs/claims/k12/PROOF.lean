import PyProof.Rows.All
import Wide.All
import OpenK.AllK
import Wide.FinOn
import HandS.ForMost
import HandS.IsInst
import HandS.Defaults
import HandS.Zip
import HandS.Strs
import HandS.Style
import HandS.Flow
import HandS.WideBits
import HandS.EndBits
import HandS.SetFor
import HandS.SortKw
import HandS.SortInts
import HandS.Property
import HandS.OwnEq
import HandS.FStr
import PyProof.ReprRoads
import PyProof.InstNe
import KE.GoesEnum
import HandS.MakeKwOnly
import PySem.Challenge.RW_owncontraries_k12_whole_rooms_made
set_option Elab.async false
set_option linter.all false
set_option maxRecDepth 100000
set_option maxHeartbeats 4000000

namespace Vf
open PySem PySem.Spec PyProof.Rows L2
/-! ### defs that ask that no repr is under way -/
/-- a def's promise, kept where no guard is up -/
structure GnOk (P : Program) (w : World) (K : PySem.W.Frag) (mg : Str → Option Value) (base : Heap)
    (k : Nat) (f : Addr) (fd : FuncData) (ps : List Str) (sp : Sp) : Prop where
  len : ∀ vs H Q E, sp vs H Q E → vs.length = ps.length
  go : ∀ (A : Around) (outer : List Env) (s : Shared) (H : Hp) (args : Args) (us : List Value) (vs : List V) (Q : VK) (E : XK),
    A.guards = some [] → Room k A → Env0 P w K mg base A outer s H → BindsTo s fd args (ps.zip us) → Vals vs us →
    sp vs H Q E → codeAny (model P w) A (.call (.ref f) args) (CR CX0 outer P w H s Q E) s
theorem GnOk.of {P : Program} {w : World} {K : PySem.W.Frag} {mg : Str → Option Value} {base : Heap} {k : Nat} {f : Addr} {fd : FuncData} {ps : List Str} {sp : Sp}
    (F : FnOk P w K mg base CX0 k f fd ps sp) : GnOk P w K mg base k f fd ps sp :=
  ⟨F.len, fun A outer s H args us vs Q E _ => F.run A outer s H args us vs Q E⟩
theorem deeper_guards {A : Around} {env : Env} (h : A.guards = some []) : (A.deeper env).guards = some [] := by
  first | exact h | simpa [Around.deeper] using h
section
variable {P : Program} {w : World} {K : PySem.W.Frag} {mg : Str → Option Value} {base : Heap}
/-- a def of the text by its body, its guards told -/
theorem gn_ok {x qual : Str} {st : Stmt} {f : Addr} {fd : FuncData} {N ps : List Str} {k : Nat} {sp : Sp}
    (F : Fun K x qual st f fd) (S : FnScope N ps (defScope st)) (len : ∀ vs H Q E, sp vs H Q E → vs.length = ps.length)
    (hb : ∀ (cdv : Value) (A : Around) (outer : List Env) (s : Shared) (H : Hp) (vs : List V) (Q : VK) (E : XK),
      (A.deeper (envOfC qual (defScope st) s.heap.objs.size f cdv)).guards = some [] →
      Room k (A.deeper (envOfC qual (defScope st) s.heap.objs.size f cdv)) → sp vs H Q E →
      ∃ t, PSs (cxOf CX0 P w K mg base N qual (defScope st) f cdv A outer s H E).nox (defBody st) t ∧
        t { nx := fun _ H' => Q .non H', rt := Q } (start N vs) H) : GnOk P w K mg base (k + 1) f fd ps sp := by
  refine ⟨len, fun A outer s H args us vs Q E hg hr e0 hbd rv hs => ?_⟩
  -- the body is walked at this around alone
  obtain ⟨oc, od, kV, doc, pm, an, cdv, ct, osl, rfl, lk, hcd⟩ := F.ex
  let sp1 : Sp := fun vs' H' Q' E' => sp vs' H' Q' E'
  have lenU : vs.length = ps.length := len _ _ _ _ hs
  have kin : K.In s.heap := e0.mod.kin.keeps fun b o e => (e0.bs b o e).1
  have nolim : s.heap.NoLimit := e0.mod.nolimit.keeps fun b o e => (e0.bs b o e).1
  have kinds : ∀ y ∈ ps.zip us, (defScope st).names.lookup y.1 = some .local ∨
      ((defScope st).names.lookup y.1 = some .cell ∧
        ((cellsFrom (s.heap.objs.size + 1) (defScope st).names []).lookup y.1).isSome = true) := by
    rintro ⟨n, v⟩ hy
    cases S.par n (List.of_mem_zip hy).1 with
    | inl q => exact .inl q
    | inr q => exact .inr ⟨q, PySem.W.cellsFrom_some _ _ _ (.inl q)⟩
  refine codeAny_call_function hr.depth (kin _ _ lk) rfl S.co S.gen rfl
    (PySem.W.codeRec_of kin hcd) (hbd _ _ _ _ ?_)
  refine wpAny_newFunctionEnv_cells S.kind kinds fun env he s1 y => ?_
  subst he
  refine ⟨nolim.keeps y.toInCall.keep, codeAny_func ?_⟩
  obtain ⟨t, ht, hq⟩ := hb cdv A outer s H vs Q E (deeper_guards hg) (hr.deeper _) hs
  have I0 := inv_start (CX := CX0) (P := P) (w := w) (K := K) (mg := mg) (base := base) (N := N) (qual := qual)
    (f := f) (cd := cdv) (A := A) (outer := outer) (s := s) (H := H) (E := E) S hr.hd e0 lenU rv y
  refine wpAny_mono (ht.nox.run [] s1 (start N vs) H _ I0 hq) (fun fl s' hh => ?_) fun e s' hh => hh
  cases fl with
  | next =>
    obtain ⟨σ', H', J, q⟩ := hh
    exact ⟨V.non, H', J.os, J.bare, J.base, J.hok, rfl, q⟩
  | ret u =>
    obtain ⟨v, σ', H', J, r2, q⟩ := hh
    exact ⟨v, H', J.os, J.bare, J.base, J.hok, r2, q⟩
  | brk => obtain ⟨_, _, _, q⟩ := hh; exact q.elim
  | cont => obtain ⟨_, _, _, q⟩ := hh; exact q.elim
end
section
variable {X : Cx} {k : Nat} {f : Addr} {fd : FuncData} {ps ks : List Str} {sp : Sp} {E : XK} {x : Str} {p pos : Pos}
  {e : Expr} {es : List Expr} {kws : List Keyword} {t tk : TA} {g : List Value → List Value → List Value} {gV : List V → List V → List V}
theorem run_gn {pins : List (Addr × Obj)} {σ : L2.St} {H : Hp} {s : Shared} {Q : VK} {us : List Value} {vs : List V}
    (F : GnOk X.prog X.w X.K X.mg X.base k f fd ps sp) (hg : X.A.guards = some []) (hr : Room k X.A) (hb : Binds X.K fd ps [])
    (I : Inv X pins σ H s) (r : Vals vs us) (h : sp vs H Q E0) :
    wpAny (model X.prog X.w) X.A (call (.ref f) us) (EP X pins σ Q) X.xe s := by
  have ln : (us ++ ([] : List Value)).length = ps.length := by
    rw [List.append_nil, ← r.length]
    exact F.len _ _ _ _ h
  have bb := hb s us I.kIn ln
  rw [List.append_nil] at bb
  refine wpAny_call (codeAny_mono (F.go X.A X.stack s H ⟨us, []⟩ us vs Q E0 hg hr I.env0 bb r h) fun res s' hq => ?_)
  cases res with
  | error e => exact hq.elim
  | ok fl =>
    cases fl with
    | next => exact hq.elim
    | brk => exact hq.elim
    | cont => exact hq.elim
    | ret u => exact I.after hq
/-- f(e, ..) of such a def -/
theorem pe_gn (F : GnOk X.prog X.w X.K X.mg X.base k f fd ps sp) (gg : X.A.guards = some []) (hr : Room k X.A) (hg : Gl X x)
    (hm : X.mg x = some (.ref f)) (hk : PySem.W.keepIn X.K (.ref f) = true) (hb : Binds X.K fd ps [])
    (ha : PA X (e :: es) t) (hdb : (x == ("__debug__" : Str)) = false := by decide)
    (he : starEach (e :: es) X.env = (false, eval e X.env) :: starEach es X.env := by rfl)
    (hpl : (backTo pos (starEach es X.env)).any (·.1) = false := by rfl) :
    PE X (.Call (.Name x p) (e :: es) [] pos) (fun σ H Q => t σ H fun vs H1 => sp vs H1 Q E0) := by
  refine ⟨fun pins s σ H Q I h => wpAny_Call_Name_kw (ld_glob I hg hm ?_ hdb)⟩
  exact PySem.W.callWith_K (h₀ := X.base) I.ok.mod.kin hk
    (thn (ha.run pos pins s σ H _ I h) fun us s1 ⟨vs, H1, I1, r, q⟩ => ⟨I1.kIn, run_gn F gg hr hb I1 r q⟩) he hpl
/-- f(k = v, ..): keywords alone -/
theorem pe_callKw {CX : CXT} (F : FnOk X.prog X.w X.K X.mg X.base CX k f fd ps sp) (hr : Room k X.A) (hg : Gl X x)
    (hm : X.mg x = some (.ref f)) (hk : PySem.W.keepIn X.K (.ref f) = true) (hb : KBn X.K fd ps 0 ks g gV) (hx : Passes CX X E)
    (hkw : PK X kws tk) (hall : (backToKw pos (keywordEach kws X.env)).all (·.1.isSome) = true := by rfl)
    (hks : (backToKw pos (keywordEach kws X.env)).filterMap (·.1) = ks := by rfl)
    (hdb : (x == ("__debug__" : Str)) = false := by decide)
    (hpl : ((backTo pos (starEach [] X.env)).any (·.1) || (backToKw pos (keywordEach kws X.env)).any (·.1.isNone)) = false := by rfl) :
    PE X (.Call (.Name x p) [] kws pos) (fun σ H Q => tk σ H fun zs H1 => zs.length = ks.length ∧ sp (gV [] zs) H1 Q E) := by
  refine ⟨fun pins s σ H Q I h => wpAny_Call_Name_kw (ld_glob I hg hm ?_ hdb)⟩
  refine PySem.W.callWith_KW0 (h₀ := X.base) I.ok.mod.kin hk hall ?_ hpl
  refine thn (hkw.run pos pins s σ H _ I h) fun ws s2 ⟨zs, H2, I2, rz, l2, q2⟩ => ⟨I2.kIn, ?_⟩
  rw [hks]
  exact run_fnN (us := []) (vs := []) F hr hb hx I2 .nil rz rfl l2 q2
/-- repr of data -/
structure rRepr (K : PySem.W.Frag) (xs : List V) (H : Hp) (Q : VK) : Prop where
  ex : ∃ a d, xs = [.ref a] ∧ Dp K H (.ref a) d ∧ d.showable = true ∧ d.hasDict = false ∧ d.depth ≤ 60 ∧
    d.shown.length ≤ sizeLine ∧ Q (.str d.shown) H
theorem call_repr (hg : X.A.guards = some []) (hu : X.A.units + 64 < cLine) : CallR X (.builtin "repr") (rRepr X.K) := by
  intro pins s σ H xs us Q I r h
  obtain ⟨a, d, rfl, hD, hs, hn, hd, hz, q⟩ := h.ex
  obtain ⟨u1, rfl, r1⟩ := vals1 r
  cases (show u1 = Value.ref a from r1)
  obtain ⟨as, rd⟩ := Dp.reads I d _ _ hD rfl
  refine repr_of_reads' rd hs (fun z => ?_) hg (by omega) (fun _ _ e => e) (fun h' u tk hk => ?_) hz
  · rw [hn] at z
    cases z
  · exact ⟨.str d.shown, H, I.kept (fun b o e => hk b o e), ⟨u, rfl⟩, q⟩
end
end Vf

namespace Vf
open PySem PySem.Spec PyProof.Rows L2
/-! ### the end of a law whose promise wants the guards -/
theorem law_run {P : Program} {w : World} {K : PySem.W.Frag} {mg mb : Str → Option Value} {k : Nat} {fa a : Addr} {fd : FuncData}
    {x : Str} {sp : Sp} {s₁ : Shared} {vs : List Value} {ns : List Int} (kin : K.In s₁.heap)
    (hns : s₁.heap.Ns mainGlobals mg) (hb : s₁.heap.Ns builtinsNs mb) (hbb : ∀ x : Str, x ≠ "__name__" → mb x = bootBuiltins x)
    (hlim : s₁.heap.NoLimit) (hg : s₁.gens = #[]) (ha : s₁.heap.get? a = some { cls := .type "list", data := .seq vs.toArray })
    (hi : IntsAre vs ns) (hl : ns.length ≤ sizeLine) (hr : Room k callerA)
    (F : ∀ base : Heap, K.In base → base.Ns mainGlobals mg → GnOk P w K mg base k fa fd [x] sp)
    (hbind : ∀ (s : Shared) (u : Value), BindsTo s fd ⟨[u], []⟩ [(x, u)])
    (hsp : ∀ H : Hp, Only H → SqL K H a (ns.map V.int) → sp [.ref a] H (fun v _ => v = .bl true) E0) :
    codeAny (model P w) callerA (.call (.ref fa) ⟨[.ref a], []⟩)
      (fun r s' => r = .ok (.ret (.bool true)) ∧ OldK s₁.heap s'.heap ∧ s'.os = s₁.os ∧ AllBare s'.gens) s₁ := by
  have rv : Vals (ns.map V.int) vs := vals_ints hi
  have hlen : vs.length = ns.length := hi.length
  -- once the tracked heap is chosen
  have main : ∀ H : Hp, Only H → SqL K H a (ns.map V.int) → HOk P w H s₁.heap → (∀ b u, H b = some u → b = a) →
      (∀ u, H a = some u → K.lookup a = none) → codeAny (model P w) callerA (.call (.ref fa) ⟨[.ref a], []⟩)
      (fun r s' => r = .ok (.ret (.bool true)) ∧ OldK s₁.heap s'.heap ∧ s'.os = s₁.os ∧ AllBare s'.gens) s₁ := by
    intro H only seq ok onlyA notK
    have free : ∀ {b : Addr}, b ≠ a → H b = none := fun {b} nb => by
      cases q : H b with
      | none => rfl
      | some u => exact absurd (onlyA b u q) nb
    have seen : ∀ {b : Addr} {m : Str → Option Value}, s₁.heap.Ns b m → (hidT s₁.heap H).Ns b m := by
      rintro b m ⟨o, es, ep, e, d, r⟩
      refine ⟨o, es, ep, hidT_get e (free ?_), d, r⟩
      rintro rfl
      rw [ha] at e
      cases e
      exact absurd (show Data.seq vs.toArray _ = Data.dict es ep from d) (by intro z; cases z)
    have kinb : K.In (hidT s₁.heap H) := by
      intro b o e
      refine hidT_get (kin b o e) ?_
      cases q : H b with
      | none => rfl
      | some u =>
        obtain rfl := onlyA b u q
        rw [notK u q] at e
        cases e
    have md : Mod K mg (hidT s₁.heap H) := by
      obtain ⟨mc, h1, h2⟩ := hlim
      exact ⟨kinb, seen hns, ⟨mb, seen hb, hbb⟩, ⟨mc, seen h1, h2⟩⟩
    have e0 : Env0 P w K mg (hidT s₁.heap H) callerA [] s₁ H :=
      ⟨rfl, md, fun b o e => of_hidT e, Nat.le_of_eq (hidT_size _ _), trivial, fun b z => (List.not_mem_nil z).elim, ok, .of_eq hg⟩
    have run := (F _ kinb (seen hns)).go callerA [] s₁ H ⟨[.ref a], []⟩ [.ref a] [.ref a] _ _ rfl hr e0 (hbind s₁ (.ref a))
      (.cons rfl .nil) (hsp H only seq)
    refine codeAny_mono run fun r s' h => ?_
    cases r with
    | error e => exact h.elim
    | ok fl =>
      cases fl with
      | ret u =>
        obtain ⟨v, H', os, bare, un, ok', r', q⟩ := h
        obtain rfl : v = .bl true := q
        obtain rfl : u = Value.bool true := r'
        refine ⟨rfl, .of_keep fun b o e => ?_, os, bare⟩
        cases only b with
        | inl z => exact un.keep b o e z (fun z => (List.not_mem_nil z).elim) (fun z => (List.not_mem_nil z).elim)
        | inr z =>
          obtain ⟨ob, xs, z⟩ := z
          have f1 := (ok b _ z).1
          have f2 := (ok' b _ (un.frzs b ob _ z)).1
          rw [e] at f1
          cases f1
          exact f2
      | next => exact h.elim
      | brk => exact h.elim
      | cont => exact h.elim
  cases hk : K.lookup a with
  | none =>
    refine main (fun b => if b = a then some (.frz { cls := .type "list", data := .seq vs.toArray } (.lst (ns.map V.int))) else none)
      (fun b => ?_) (.inl (.inr ⟨_, if_pos rfl⟩)) (fun b u z => ?_) (fun b u z => ?_) fun _ _ => hk
    · by_cases hb : b = a
      · exact .inr ⟨_, _, if_pos hb⟩
      · exact .inl (if_neg hb)
    · by_cases hb : b = a
      · subst hb
        cases (if_pos rfl).symm.trans z
        refine ⟨ha, ?_, vs, _, rv, ha⟩
        rw [List.length_map]
        exact hl
      · cases (if_neg hb).symm.trans z
    · by_cases hb : b = a
      · exact hb
      · cases (if_neg hb).symm.trans z
  | some o =>
    have e := kin a o hk
    rw [ha] at e
    cases e
    refine main (fun _ => none) (fun _ => .inl rfl) (.inr ⟨_, vs.toArray, _, hk, rfl, rfl, rfl, ?_, by simpa using rv⟩)
      (fun b u z => ?_) (fun b u z => ?_) fun u z => ?_
    · rw [List.size_toArray, hlen]
      exact hl
    · cases (show (none : Option HO) = some u from z)
    · cases (show (none : Option HO) = some u from z)
    · cases (show (none : Option HO) = some u from z)
theorem walk_gn {l : PySem.W.OpenLaw} {n k : Nat} {q : Program} {loose : List Str} {XP : (Str → Option Value) → Heap → Prop}
    {YP : World → Heap → Prop} {d : DefRec} {K : Params → PySem.W.Frag} {sp : World → Sp} {x : Str}
    (hn : l.most = some n) (hn2 : n ≤ sizeLine) (hdf : d.params.defaults = []) (hr : Room k callerA)
    (hY : ∀ (w : World) (h : Heap), YP w h → (K w.params).In h)
    (F : ∀ (w : World) (mg : Str → Option Value) (fa : Addr) (h : Heap), (K w.params).In h → h.Ns mainGlobals mg → mg d.name = some (.ref fa) →
      ∃ fd : FuncData, (∀ (s : Shared) (u : Value), BindsTo s fd ⟨[u], []⟩ [(x, u)]) ∧
        ∀ base : Heap, (K w.params).In base → base.Ns mainGlobals mg → GnOk l.prog w (K w.params) mg base k fa fd [x] (sp w))
    (hsp : ∀ (w : World) (H : Hp) (a : Addr) (ns : List Int), ns.length ≤ n → (∀ k ∈ ns, Builtin.Int.intBits k ≤ 1048576) → Only H →
      SqL (K w.params) H a (ns.map V.int) → sp w [.ref a] H (fun v _ => v = .bl true) E0) :
    PySem.W.WalkO q loose XP YP l.row.toRowW d [] (fun f vs => PySem.call f vs) := by
  refine Att.attach_callB hn hdf fun w s₀ s₁ mg mb fa o pm cd doc a vs ns G Y ho hd hcd hmg hobj hints hlen hbits hg => ?_
  obtain ⟨fd, hb, hF⟩ := F w mg fa _ (hY w _ Y) G.T.g hmg
  exact law_run (hY w _ Y) G.T.g G.T.b G.T.builtins G.T.nolimit hg hobj hints (Nat.le_trans hlen hn2) hr hF hb
    fun H hO hS => hsp w H a ns hlen hbits hO hS
end Vf

namespace Vf
/-! ### how many places are on -/
def pcK : Nat → Nat → Nat
  | 0, _ => 0
  | k + 1, n => n % 2 + pcK k (n / 2)
def spotsK (k n : Nat) : List Nat := (List.range k).filter fun i => n.testBit i
theorem spotsK_succ (k n : Nat) : spotsK (k + 1) n = (if n % 2 = 1 then [0] else []) ++ (spotsK k (n / 2)).map (· + 1) := by
  unfold spotsK
  rw [List.range_succ_eq_map, List.filter_cons, List.filter_map]
  have e : ((fun i => n.testBit i) ∘ Nat.succ) = fun i => (n / 2).testBit i := by
    funext i
    show n.testBit (i + 1) = _
    rw [Nat.testBit_succ]
  rw [e]
  rw [Nat.testBit_zero]
  by_cases h : n % 2 = 1
  · simp [h]
  · simp [h]
theorem spotsK_len : ∀ k n, (spotsK k n).length = pcK k n
  | 0, _ => rfl
  | k + 1, n => by
    rw [spotsK_succ, List.length_append, List.length_map, spotsK_len k]
    show _ = n % 2 + pcK k (n / 2)
    by_cases h : n % 2 = 1
    · rw [if_pos h, h]; rfl
    · rw [if_neg h]
      have : n % 2 = 0 := by omega
      rw [this]; rfl
theorem sum_double : ∀ l : List Nat, ((l.map (· + 1)).map (2 ^ ·)).sum = 2 * (l.map (2 ^ ·)).sum
  | [] => rfl
  | x :: l => by
    rw [List.map_cons, List.map_cons, List.sum_cons, sum_double l, List.map_cons, List.sum_cons, Nat.pow_succ]
    omega
theorem spotsK_sum : ∀ k n, ((spotsK k n).map (2 ^ ·)).sum = n % 2 ^ k
  | 0, n => by
    show 0 = n % 1
    omega
  | k + 1, n => by
    rw [spotsK_succ, List.map_append, List.sum_append, sum_double, spotsK_sum k]
    have e := Nat.mod_mul (x := n) (a := 2) (b := 2 ^ k)
    rw [Nat.pow_succ, Nat.mul_comm (2 ^ k) 2, e]
    by_cases h : n % 2 = 1
    · rw [if_pos h, h]; rfl
    · rw [if_neg h]
      have : n % 2 = 0 := by omega
      rw [this]; rfl
theorem pcK_zero : ∀ k, pcK k 0 = 0
  | 0 => rfl
  | k + 1 => by
    show 0 % 2 + pcK k (0 / 2) = 0
    rw [show (0 : Nat) / 2 = 0 from rfl, pcK_zero k]
theorem pcK_more : ∀ k n, n < 2 ^ k → pcK (k + 1) n = pcK k n
  | 0, n, h => by
    have : n = 0 := by omega
    subst this; rfl
  | k + 1, n, h => by
    show n % 2 + pcK (k + 1) (n / 2) = n % 2 + pcK k (n / 2)
    rw [pcK_more k (n / 2) (by rw [Nat.pow_succ] at h; omega)]
theorem pcK_half (k n : Nat) (h : n < 2 ^ (k + 1)) : n % 2 + pcK (k + 1) (n / 2) = pcK (k + 1) n := by
  rw [pcK_more k (n / 2) (by rw [Nat.pow_succ] at h; omega)]
  rfl
theorem and_mod2 (a b : Nat) : (a &&& b) % 2 = (a % 2) * (b % 2) := by
  have h := Nat.testBit_and a b 0
  rw [Nat.testBit_zero, Nat.testBit_zero, Nat.testBit_zero] at h
  rcases Nat.mod_two_eq_zero_or_one (a &&& b) with hc | hc <;> rcases Nat.mod_two_eq_zero_or_one a with ha | ha <;>
    rcases Nat.mod_two_eq_zero_or_one b with hb | hb <;> rw [hc, ha, hb] at h <;> rw [hc, ha, hb] <;> first | rfl | exact absurd h (by decide)
theorem xor_mod2 (a b : Nat) : (a ^^^ b) % 2 = (a + b) % 2 := by
  have h := Nat.testBit_xor a b 0
  rw [Nat.testBit_zero, Nat.testBit_zero, Nat.testBit_zero] at h
  rcases Nat.mod_two_eq_zero_or_one (a ^^^ b) with hc | hc <;> rcases Nat.mod_two_eq_zero_or_one a with ha | ha <;>
    rcases Nat.mod_two_eq_zero_or_one b with hb | hb <;> rw [hc, ha, hb] at h <;> first | omega | exact absurd h (by decide)
theorem and_div2 (a b : Nat) : (a &&& b) / 2 = (a / 2) &&& (b / 2) := by
  apply Nat.eq_of_testBit_eq
  intro i
  rw [← Nat.testBit_succ, Nat.testBit_and, Nat.testBit_and, Nat.testBit_succ, Nat.testBit_succ]
theorem xor_div2 (a b : Nat) : (a ^^^ b) / 2 = (a / 2) ^^^ (b / 2) := by
  apply Nat.eq_of_testBit_eq
  intro i
  rw [← Nat.testBit_succ, Nat.testBit_xor, Nat.testBit_xor, Nat.testBit_succ, Nat.testBit_succ]
theorem pcK_two : ∀ k a b, pcK k a + pcK k b = pcK k (a ^^^ b) + 2 * pcK k (a &&& b)
  | 0, _, _ => rfl
  | k + 1, a, b => by
    have ih := pcK_two k (a / 2) (b / 2)
    show a % 2 + pcK k (a / 2) + (b % 2 + pcK k (b / 2)) = (a ^^^ b) % 2 + pcK k ((a ^^^ b) / 2) + 2 * ((a &&& b) % 2 + pcK k ((a &&& b) / 2))
    rw [and_mod2, xor_mod2, and_div2, xor_div2]
    rcases Nat.mod_two_eq_zero_or_one a with ha | ha <;> rcases Nat.mod_two_eq_zero_or_one b with hb | hb <;> rw [ha, hb] <;> omega
theorem pcK_off : ∀ k n, 0 < n → n < 2 ^ k → pcK k (n &&& (n - 1)) + 1 = pcK k n
  | 0, n, h0, h => by
    have : n < 1 := h
    omega
  | k + 1, n, h0, h => by
    rw [Nat.pow_succ] at h
    show (n &&& (n - 1)) % 2 + pcK k ((n &&& (n - 1)) / 2) + 1 = n % 2 + pcK k (n / 2)
    rw [and_mod2, and_div2]
    rcases Nat.mod_two_eq_zero_or_one n with hn | hn
    · have e1 : (n - 1) / 2 = n / 2 - 1 := by omega
      have ih := pcK_off k (n / 2) (by omega) (by omega)
      rw [hn, e1]
      omega
    · have e1 : (n - 1) / 2 = n / 2 := by omega
      have e2 : (n - 1) % 2 = 0 := by omega
      rw [hn, e1, e2, Nat.and_self]
      omega
theorem off_lt {n : Nat} (h : 0 < n) : n &&& (n - 1) < n := Nat.lt_of_le_of_lt Nat.and_le_right (by omega)
/-! ### words of 24 places -/
def pc (n : Nat) : Nat := pcK 24 n
def spots (n : Nat) : List Nat := spotsK 24 n
theorem spots_len (n : Nat) : (spots n).length = pc n := spotsK_len 24 n
theorem spots_sum {n : Nat} (h : n < 2 ^ 24) : ((spots n).map (2 ^ ·)).sum = n := by
  unfold spots
  rw [spotsK_sum]
  exact Nat.mod_eq_of_lt h
theorem spots_lt {n i : Nat} (h : i ∈ spots n) : i < 24 := List.mem_range.mp (List.mem_filter.mp h).1
theorem spots_nd (n : Nat) : (spots n).Nodup := List.Nodup.sublist List.filter_sublist List.nodup_range
theorem pc_le (n : Nat) : pc n ≤ 24 := by
  rw [← spots_len]
  exact Nat.le_trans (List.length_filter_le _ _) (by rw [List.length_range]; exact Nat.le_refl _)
theorem pc_off {n : Nat} (h0 : 0 < n) (h : n < 2 ^ 24) : pc (n &&& (n - 1)) + 1 = pc n := pcK_off 24 n h0 h
theorem pc_half {n : Nat} (h : n < 2 ^ 24) : n % 2 + pc (n / 2) = pc n := pcK_half 23 n h
theorem pc_two (a b : Nat) : pc a + pc b = pc (a ^^^ b) + 2 * pc (a &&& b) := pcK_two 24 a b
theorem pc_zero : pc 0 = 0 := pcK_zero 24
theorem pc_dist (a b c : Nat) : pc ((a ^^^ c) &&& b) % 2 = (pc (a &&& b) + pc (c &&& b)) % 2 := by
  have e : (a ^^^ c) &&& b = (a &&& b) ^^^ (c &&& b) := by
    apply Nat.eq_of_testBit_eq
    intro i
    simp only [Nat.testBit_and, Nat.testBit_xor]
    cases a.testBit i <;> cases b.testBit i <;> cases c.testBit i <;> rfl
  have := pc_two (a &&& b) (c &&& b)
  rw [e]
  omega
theorem perm_sum {l l' : List Nat} (h : l.Perm l') : (l.map (2 ^ ·)).sum = (l'.map (2 ^ ·)).sum := (h.map _).sum_nat
end Vf

namespace Vf
/-! ### rooms: words under ^^^ -/
def Lin (S : Nat → Prop) : Prop := S 0 ∧ ∀ a b, S a → S b → S (a ^^^ b)
/-- the room that the words make -/
def span (ws : List Nat) (v : Nat) : Prop := ∀ S : Nat → Prop, Lin S → (∀ w ∈ ws, S w) → S v
theorem span_zero (ws : List Nat) : span ws 0 := fun _ h _ => h.1
theorem span_xor {ws : List Nat} {a b : Nat} (ha : span ws a) (hb : span ws b) : span ws (a ^^^ b) := fun S h k => h.2 _ _ (ha S h k) (hb S h k)
theorem span_mem {ws : List Nat} {a : Nat} (h : a ∈ ws) : span ws a := fun _ _ k => k a h
theorem span_lin (ws : List Nat) : Lin (span ws) := ⟨span_zero ws, fun _ _ => span_xor⟩
theorem span_sub {ws vs : List Nat} (h : ∀ w ∈ ws, span vs w) {a : Nat} (ha : span ws a) : span vs a := ha _ (span_lin vs) h
theorem span_iff {ws vs : List Nat} (h : ∀ w ∈ ws, span vs w) (h' : ∀ w ∈ vs, span ws w) (a : Nat) : span ws a ↔ span vs a := ⟨span_sub h, span_sub h'⟩
theorem span_perm {ws vs : List Nat} (h : ws.Perm vs) (a : Nat) : span ws a ↔ span vs a := span_iff (fun _ k => span_mem (h.mem_iff.mp k)) (fun _ k => span_mem (h.mem_iff.mpr k)) a
theorem xor_cancel (a b : Nat) : (a ^^^ b) ^^^ b = a := by rw [Nat.xor_assoc, Nat.xor_self, Nat.xor_zero]
theorem span_nil {a : Nat} (h : span [] a) : a = 0 := h (fun v => v = 0) ⟨rfl, fun a b h1 h2 => by rw [h1, h2]; rfl⟩ (fun _ k => (List.not_mem_nil k).elim)
theorem span_cons {w : Nat} {ws : List Nat} {a : Nat} : span (w :: ws) a ↔ span ws a ∨ span ws (a ^^^ w) := by
  constructor
  · intro h
    refine h (fun v => span ws v ∨ span ws (v ^^^ w)) ⟨.inl (span_zero ws), fun a b ha hb => ?_⟩ fun v hv => ?_
    · rcases ha with ha | ha <;> rcases hb with hb | hb
      · exact .inl (span_xor ha hb)
      · refine .inr ?_
        rw [Nat.xor_assoc]
        exact span_xor ha hb
      · refine .inr ?_
        rw [Nat.xor_assoc, Nat.xor_comm b w, ← Nat.xor_assoc]
        exact span_xor ha hb
      · refine .inl ?_
        have := span_xor ha hb
        rw [Nat.xor_assoc, Nat.xor_comm b w, ← Nat.xor_assoc w, Nat.xor_self, Nat.zero_xor] at this
        exact this
    · rcases List.mem_cons.mp hv with rfl | hv
      · refine .inr ?_
        rw [Nat.xor_self]
        exact span_zero ws
      · exact .inl (span_mem hv)
  · have up : ∀ {v}, span ws v → span (w :: ws) v := fun h => span_sub (fun v k => span_mem (List.mem_cons_of_mem _ k)) h
    rintro (h | h)
    · exact up h
    · have := span_xor (up h) (span_mem (ws := w :: ws) List.mem_cons_self)
      rwa [xor_cancel] at this
theorem span_append_of {ws vs : List Nat} {a : Nat} (h : ∀ v ∈ vs, span ws v) : span (ws ++ vs) a ↔ span ws a :=
  span_iff (fun w k => (List.mem_append.mp k).elim span_mem (h w)) (fun w k => span_mem (List.mem_append_left _ k)) a
theorem span_lt {ws : List Nat} {n a : Nat} (h : ∀ w ∈ ws, w < 2 ^ n) (ha : span ws a) : a < 2 ^ n :=
  ha (fun v => v < 2 ^ n) ⟨Nat.two_pow_pos n, fun _ _ => Nat.xor_lt_two_pow⟩ h
/-! ### tops -/
theorem top_bit {b : Nat} (h : b ≠ 0) : b.testBit b.log2 = true := by
  have h1 := Nat.log2_self_le h
  have h2 : b < 2 ^ (b.log2 + 1) := (Nat.log2_lt h).mp (Nat.lt_succ_self _)
  rw [Nat.testBit_eq_decide_div_mod_eq]
  have h3 : b / 2 ^ b.log2 = 1 := by
    rw [Nat.pow_succ] at h2
    apply Nat.div_eq_of_lt_le
    · omega
    · omega
  rw [h3]
  rfl
theorem bit_above {b i : Nat} (h : b.log2 < i) : b.testBit i = false := by
  by_cases h0 : b = 0
  · subst h0
    exact Nat.zero_testBit i
  · apply Nat.testBit_lt_two_pow
    exact (Nat.log2_lt h0).mp h
theorem log_of {b i : Nat} (h1 : b.testBit i = true) (h2 : ∀ j, i < j → b.testBit j = false) : b ≠ 0 ∧ b.log2 = i := by
  have h0 : b ≠ 0 := by
    rintro rfl
    rw [Nat.zero_testBit] at h1
    cases h1
  refine ⟨h0, ?_⟩
  have a := top_bit h0
  rcases Nat.lt_trichotomy b.log2 i with h | h | h
  · rw [bit_above h] at h1
    cases h1
  · exact h
  · rw [h2 _ h] at a
    cases a
theorem lt_xor {b u : Nat} (hu : u ≠ 0) (h : b.testBit u.log2 = false) : b < b ^^^ u := by
  have e1 : (b ^^^ u) >>> u.log2 = (b >>> u.log2) ^^^ (u >>> u.log2) := Nat.shiftRight_xor_distrib ..
  have e2 : u >>> u.log2 = 1 := by
    rw [Nat.shiftRight_eq_div_pow]
    have h1 := Nat.log2_self_le hu
    have h2 : u < 2 ^ (u.log2 + 1) := (Nat.log2_lt hu).mp (Nat.lt_succ_self _)
    rw [Nat.pow_succ] at h2
    apply Nat.div_eq_of_lt_le <;> omega
  have e3 : (b >>> u.log2) % 2 = 0 := by
    rw [Nat.testBit_eq_decide_div_mod_eq] at h
    have := of_decide_eq_false h
    rw [Nat.shiftRight_eq_div_pow]
    omega
  rw [e2] at e1
  have m1 := xor_mod2 (b >>> u.log2) 1
  have m2 := xor_div2 (b >>> u.log2) 1
  rw [show 1 / 2 = 0 from rfl, Nat.xor_zero] at m2
  rw [← e1] at m1 m2
  have lt : b >>> u.log2 < (b ^^^ u) >>> u.log2 := by omega
  rw [Nat.shiftRight_eq_div_pow, Nat.shiftRight_eq_div_pow] at lt
  refine Nat.lt_of_not_le fun k => ?_
  have := Nat.div_le_div_right (c := 2 ^ u.log2) k
  omega
theorem lt_pow_log {b n : Nat} (h : b ≠ 0) : b < 2 ^ n ↔ b.log2 < n := (Nat.log2_lt h).symm
/-! ### plain bases -/
def Off (b c : Nat) : Prop := c.testBit b.log2 = false ∧ b.testBit c.log2 = false
/-- each top is off in all others -/
def Piv (B : List Nat) : Prop := B.Pairwise Off ∧ ∀ b ∈ B, b ≠ 0
def Plain (B : List Nat) : Prop := Piv B ∧ B.Pairwise (· > ·)
theorem Off.symm {b c : Nat} (h : Off b c) : Off c b := ⟨h.2, h.1⟩
theorem piv_nodup {B : List Nat} (h : Piv B) : B.Nodup := by
  refine h.1.imp_of_mem fun {a b} ha hb o e => ?_
  subst e
  have := top_bit (h.2 a ha)
  rw [o.1] at this
  cases this
theorem piv_perm {B C : List Nat} (p : B.Perm C) (h : Piv B) : Piv C :=
  ⟨p.pairwise h.1 fun h => h.symm, fun b k => h.2 b (p.mem_iff.mpr k)⟩
theorem piv_off {B : List Nat} (h : Piv B) {b c : Nat} (hb : b ∈ B) (hc : c ∈ B) (n : b ≠ c) : c.testBit b.log2 = false := by
  obtain ⟨i, hi, rfl⟩ := List.getElem_of_mem hb
  obtain ⟨j, hj, rfl⟩ := List.getElem_of_mem hc
  rcases Nat.lt_trichotomy i j with k | k | k
  · exact (List.pairwise_iff_getElem.mp h.1 i j hi hj k).1
  · subst k
    exact absurd rfl n
  · exact (List.pairwise_iff_getElem.mp h.1 j i hj hi k).2
def hiN (b : Nat) : Nat := 2 ^ b.log2
def rest1 (r b : Nat) : Nat := if r.testBit b.log2 = true then r ^^^ b else r
def restOf (w : Nat) (B : List Nat) : Nat := B.foldl rest1 w
/-- the sum of the basis words whose tops are on -/
def comb (v : Nat) : List Nat → Nat
  | [] => 0
  | b :: B => (if v.testBit b.log2 = true then b else 0) ^^^ comb v B
theorem comb_nil (v : Nat) : comb v [] = 0 := rfl
theorem comb_cons (v b : Nat) (B : List Nat) : comb v (b :: B) = (if v.testBit b.log2 = true then b else 0) ^^^ comb v B := rfl
theorem comb_same {v u : Nat} : ∀ {B : List Nat}, (∀ b ∈ B, v.testBit b.log2 = u.testBit b.log2) → comb v B = comb u B
  | [], _ => rfl
  | b :: B, h => by
    rw [comb_cons, comb_cons, h b List.mem_cons_self, comb_same fun c k => h c (List.mem_cons_of_mem _ k)]
theorem rest_eq : ∀ {B : List Nat} (w : Nat), Piv B → restOf w B = w ^^^ comb w B
  | [], w, _ => (Nat.xor_zero w).symm
  | b :: B, w, h => by
    have hB : Piv B := ⟨(List.pairwise_cons.mp h.1).2, fun c k => h.2 c (List.mem_cons_of_mem _ k)⟩
    have ho := (List.pairwise_cons.mp h.1).1
    show restOf (rest1 w b) B = _
    rw [rest_eq _ hB]
    have e : comb (rest1 w b) B = comb w B := comb_same fun c k => by
      unfold rest1
      split
      · rw [Nat.testBit_xor, (ho c k).2, Bool.xor_false]
      · rfl
    rw [e]
    rw [comb_cons]
    unfold rest1
    split
    · rw [Nat.xor_assoc]
    · rw [Nat.zero_xor]
theorem comb_xor (a b : Nat) : ∀ B : List Nat, comb (a ^^^ b) B = comb a B ^^^ comb b B
  | [] => by rw [comb_nil, comb_nil, comb_nil]; rfl
  | c :: B => by
    rw [comb_cons, comb_cons, comb_cons, comb_xor a b B, Nat.testBit_xor]
    apply Nat.eq_of_testBit_eq
    intro i
    cases a.testBit c.log2 <;> cases b.testBit c.log2 <;> simp [Nat.testBit_xor] <;> cases c.testBit i <;> cases (comb a B).testBit i <;> cases (comb b B).testBit i <;> rfl
theorem comb_off {v : Nat} : ∀ {B : List Nat}, (∀ b ∈ B, v.testBit b.log2 = false) → comb v B = 0
  | [], _ => rfl
  | b :: B, h => by
    rw [comb_cons]
    rw [h b List.mem_cons_self, comb_off fun c k => h c (List.mem_cons_of_mem _ k), if_neg (by simp)]
    rfl
theorem comb_self : ∀ {B : List Nat} {b : Nat}, Piv B → b ∈ B → comb b B = b
  | c :: B, b, h, k => by
    have hB : Piv B := ⟨(List.pairwise_cons.mp h.1).2, fun c k => h.2 c (List.mem_cons_of_mem _ k)⟩
    have ho := (List.pairwise_cons.mp h.1).1
    rw [comb_cons]
    rcases List.mem_cons.mp k with rfl | k
    · rw [top_bit (h.2 b List.mem_cons_self), if_pos rfl, comb_off fun d kd => (ho d kd).2, Nat.xor_zero]
    · rw [(ho b k).1, comb_self hB k, if_neg (by simp)]
      exact Nat.zero_xor b
theorem comb_zero (B : List Nat) : comb 0 B = 0 := comb_off fun _ _ => Nat.zero_testBit _
theorem comb_span : ∀ (v : Nat) (B : List Nat), span B (comb v B)
  | _, [] => span_zero []
  | v, b :: B => by
    have up := span_sub (ws := B) (vs := b :: B) (fun w k => span_mem (List.mem_cons_of_mem _ k)) (comb_span v B)
    rw [comb_cons]
    split
    · exact span_xor (span_mem List.mem_cons_self) up
    · rw [Nat.zero_xor]
      exact up
theorem span_comb {B : List Nat} (h : Piv B) {v : Nat} (hv : span B v) : comb v B = v :=
  hv (fun v => comb v B = v) ⟨comb_zero B, fun a b (ha : comb a B = a) (hb : comb b B = b) => by show comb (a ^^^ b) B = a ^^^ b; rw [comb_xor, ha, hb]⟩ fun b k => comb_self h k
theorem rest_zero {B : List Nat} (h : Piv B) (w : Nat) : restOf w B = 0 ↔ span B w := by
  rw [rest_eq w h]
  constructor
  · intro e
    have e2 : w = comb w B := by
      have := congrArg (· ^^^ comb w B) e
      simpa [xor_cancel] using this
    rw [e2]
    exact comb_span w B
  · intro hw
    rw [span_comb h hw, Nat.xor_self]
theorem comb_bit {B : List Nat} (h : Piv B) (w : Nat) {b : Nat} (hb : b ∈ B) : (comb w B).testBit b.log2 = w.testBit b.log2 := by
  induction B with
  | nil => cases hb
  | cons c B ih =>
    have hB : Piv B := ⟨(List.pairwise_cons.mp h.1).2, fun c k => h.2 c (List.mem_cons_of_mem _ k)⟩
    have ho := (List.pairwise_cons.mp h.1).1
    rw [comb_cons]
    rcases List.mem_cons.mp hb with rfl | hb
    · have e : (comb w B).testBit b.log2 = false := by
        have : ∀ C : List Nat, (∀ c ∈ C, c.testBit b.log2 = false) → (comb w C).testBit b.log2 = false := by
          intro C
          induction C with
          | nil => intro _; exact Nat.zero_testBit _
          | cons d C ih2 =>
            intro hC
            rw [comb_cons]
            rw [Nat.testBit_xor, ih2 fun c k => hC c (List.mem_cons_of_mem _ k), Bool.xor_false]
            split
            · exact hC d List.mem_cons_self
            · exact Nat.zero_testBit _
        exact this B fun c k => (ho c k).1
      rw [Nat.testBit_xor, e, Bool.xor_false]
      cases hw : w.testBit b.log2
      · rw [if_neg (by simp)]
        exact Nat.zero_testBit _
      · rw [if_pos rfl]
        exact top_bit (h.2 b List.mem_cons_self)
    · rw [Nat.testBit_xor, ih hB hb]
      split
      · rw [(ho b hb).2, Bool.false_xor]
      · rw [Nat.zero_testBit, Bool.false_xor]
theorem rest_off {B : List Nat} (h : Piv B) (w : Nat) {b : Nat} (hb : b ∈ B) : (restOf w B).testBit b.log2 = false := by
  rw [rest_eq w h, Nat.testBit_xor, comb_bit h w hb, Bool.xor_self]
theorem rest_span {B : List Nat} (h : Piv B) (w : Nat) : span B (w ^^^ restOf w B) := by
  rw [rest_eq w h, ← Nat.xor_assoc, Nat.xor_self, Nat.zero_xor]
  exact comb_span w B
/-! ### a word more -/
def clear1 (r b : Nat) : Nat := if b.testBit r.log2 = true then b ^^^ r else b
theorem clear_log {r b : Nat} (hb : b ≠ 0) (hr : r ≠ 0) (h : r.testBit b.log2 = false) : clear1 r b ≠ 0 ∧ (clear1 r b).log2 = b.log2 := by
  unfold clear1
  split
  · rename_i k
    have l : r.log2 < b.log2 := by
      rcases Nat.lt_trichotomy r.log2 b.log2 with l | l | l
      · exact l
      · have := top_bit hr
        rw [l, h] at this
        cases this
      · rw [bit_above l] at k
        cases k
    refine log_of ?_ fun j hj => ?_
    · rw [Nat.testBit_xor, top_bit hb, h]
      rfl
    · rw [Nat.testBit_xor, bit_above hj, bit_above (Nat.lt_trans l hj)]
      rfl
  · exact ⟨hb, rfl⟩
theorem clear_bit {r b i : Nat} (h : r.testBit i = false) : (clear1 r b).testBit i = b.testBit i := by
  unfold clear1
  split
  · rw [Nat.testBit_xor, h, Bool.xor_false]
  · rfl
theorem clear_off {r b : Nat} (hr : r ≠ 0) : (clear1 r b).testBit r.log2 = false := by
  unfold clear1
  split
  · rename_i k
    rw [Nat.testBit_xor, k, top_bit hr]
    rfl
  · rename_i k
    simpa using k
/-- the basis with the rest put in, in any sequence -/
theorem put_piv {B : List Nat} {r : Nat} (h : Piv B) (hr : r ≠ 0) (ho : ∀ b ∈ B, r.testBit b.log2 = false) : Piv (B.map (clear1 r) ++ [r]) := by
  constructor
  · rw [List.pairwise_append]
    refine ⟨?_, List.pairwise_singleton _ _, fun a ha b hb => ?_⟩
    · rw [List.pairwise_map]
      refine h.1.imp_of_mem fun {a b} ha hb o => ?_
      have la := (clear_log (h.2 a ha) hr (ho a ha)).2
      have lb := (clear_log (h.2 b hb) hr (ho b hb)).2
      exact ⟨by rw [la, clear_bit (ho a ha)]; exact o.1, by rw [lb, clear_bit (ho b hb)]; exact o.2⟩
    · rw [List.mem_singleton.mp hb]
      obtain ⟨c, hc, rfl⟩ := List.mem_map.mp ha
      have lc := (clear_log (h.2 c hc) hr (ho c hc)).2
      exact ⟨by rw [lc]; exact ho c hc, clear_off hr⟩
  · intro b hb
    rcases List.mem_append.mp hb with hb | hb
    · obtain ⟨c, hc, rfl⟩ := List.mem_map.mp hb
      exact (clear_log (h.2 c hc) hr (ho c hc)).1
    · rw [List.mem_singleton.mp hb]
      exact hr
theorem clear_span {C : List Nat} {r b : Nat} (hr : span C r) : span C (clear1 r b) ↔ span C b := by
  unfold clear1
  split
  · constructor
    · intro k
      have := span_xor k hr
      rwa [xor_cancel] at this
    · exact fun k => span_xor k hr
  · exact Iff.rfl
theorem put_span (B : List Nat) (r a : Nat) : span (B.map (clear1 r) ++ [r]) a ↔ span (r :: B) a := by
  refine span_iff (fun w hw => ?_) (fun w hw => ?_) a
  · rcases List.mem_append.mp hw with hw | hw
    · obtain ⟨c, hc, rfl⟩ := List.mem_map.mp hw
      exact (clear_span (span_mem List.mem_cons_self)).mpr (span_mem (List.mem_cons_of_mem _ hc))
    · rw [List.mem_singleton.mp hw]
      exact span_mem List.mem_cons_self
  · have hr : span (B.map (clear1 r) ++ [r]) r := span_mem (List.mem_append_right _ List.mem_cons_self)
    rcases List.mem_cons.mp hw with rfl | hw
    · exact hr
    · exact (clear_span hr).mp (span_mem (List.mem_append_left _ (List.mem_map_of_mem hw)))
/-- the room of the basis with the rest is that with the word -/
theorem rest_room {B : List Nat} (h : Piv B) (w a : Nat) : span (restOf w B :: B) a ↔ span (w :: B) a := by
  have up : ∀ {u v}, span B v → span (u :: B) v := fun k => span_sub (fun v k => span_mem (List.mem_cons_of_mem _ k)) k
  refine span_iff (fun v hv => ?_) (fun v hv => ?_) a
  · rcases List.mem_cons.mp hv with rfl | hv
    · have := span_xor (up (u := w) (rest_span h w)) (span_mem (ws := w :: B) List.mem_cons_self)
      rwa [Nat.xor_comm w, xor_cancel] at this
    · exact up (span_mem hv)
  · rcases List.mem_cons.mp hv with rfl | hv
    · have := span_xor (up (u := restOf v B) (rest_span h v)) (span_mem (ws := restOf v B :: B) List.mem_cons_self)
      rwa [xor_cancel] at this
    · exact up (span_mem hv)
/-! ### a plain basis is told by its room -/
theorem plain_logs {B : List Nat} (h : Plain B) : B.Pairwise fun b c => c.log2 < b.log2 := by
  refine (List.Pairwise.and h.1.1 h.2).imp_of_mem fun {b c} hb hc k => ?_
  obtain ⟨o, gt⟩ := k
  rcases Nat.lt_trichotomy c.log2 b.log2 with l | l | l
  · exact l
  · have := top_bit (h.1.2 c hc)
    rw [l, o.1] at this
    cases this
  · exfalso
    have h1 : b < 2 ^ c.log2 := (lt_pow_log (h.1.2 b hb)).mpr l
    have h2 := Nat.log2_self_le (h.1.2 c hc)
    have h3 : b > c := gt
    omega
theorem comb_log : ∀ {B : List Nat} {u : Nat}, (∀ b ∈ B, b ≠ 0) → B.Pairwise (fun b c => c.log2 < b.log2) → comb u B ≠ 0 → ∃ c ∈ B, u.testBit c.log2 = true ∧ (comb u B).log2 = c.log2
  | [], u, _, _, h => absurd (comb_nil u) h
  | b :: B, u, h0, hp, h => by
    have hp2 := List.pairwise_cons.mp hp
    cases k : u.testBit b.log2 with
    | true =>
      refine ⟨b, List.mem_cons_self, k, ?_⟩
      have small : comb u B < 2 ^ b.log2 := by
        refine span_lt (ws := B) (fun c hc => (lt_pow_log (h0 c (List.mem_cons_of_mem _ hc))).mpr (hp2.1 c hc)) (comb_span u B)
      rw [comb_cons, if_pos k]
      refine (log_of ?_ fun j hj => ?_).2
      · rw [Nat.testBit_xor, top_bit (h0 b List.mem_cons_self), Nat.testBit_lt_two_pow small]
        rfl
      · rw [Nat.testBit_xor, bit_above hj, Nat.testBit_lt_two_pow (Nat.lt_trans small (Nat.pow_lt_pow_right (by decide) hj))]
        rfl
    | false =>
      have e : comb u (b :: B) = comb u B := by
        rw [comb_cons, k, if_neg (by simp), Nat.zero_xor]
      rw [e] at h ⊢
      obtain ⟨c, hc, r⟩ := comb_log (fun c hc => h0 c (List.mem_cons_of_mem _ hc)) hp2.2 h
      exact ⟨c, List.mem_cons_of_mem _ hc, r⟩
theorem span_log {B : List Nat} (h : Plain B) {u : Nat} (hu : span B u) (h0 : u ≠ 0) : ∃ c ∈ B, u.log2 = c.log2 := by
  have e := span_comb h.1 hu
  obtain ⟨c, hc, _, l⟩ := comb_log (u := u) h.1.2 (plain_logs h) (by rw [e]; exact h0)
  rw [e] at l
  exact ⟨c, hc, l⟩
theorem basis_least {B : List Nat} (h : Plain B) {b v : Nat} (hb : b ∈ B) (hv : span B v) (h0 : v ≠ 0) (l : v.log2 = b.log2) : b ≤ v := by
  by_cases e : v = b
  · omega
  · have hu : span B (v ^^^ b) := span_xor hv (span_mem hb)
    have u0 : v ^^^ b ≠ 0 := fun z => e (by
      have := congrArg (· ^^^ b) z
      simpa [xor_cancel] using this)
    obtain ⟨c, hc, lc⟩ := span_log h hu u0
    have n : c ≠ b := by
      rintro rfl
      have t := top_bit u0
      rw [lc, Nat.testBit_xor, top_bit (h.1.2 c hb), ← l, top_bit h0] at t
      cases t
    have off : b.testBit (v ^^^ b).log2 = false := by
      rw [lc]
      exact piv_off h.1 hc hb n
    have := lt_xor u0 off
    rw [Nat.xor_comm v b, ← Nat.xor_assoc, Nat.xor_self, Nat.zero_xor] at this
    omega
/-- the words of a plain basis: of each top the least word of the room -/
theorem basis_iff {B : List Nat} (h : Plain B) (v : Nat) : v ∈ B ↔ span B v ∧ v ≠ 0 ∧ ∀ u, span B u → u < v → u < 2 ^ v.log2 := by
  constructor
  · intro hv
    refine ⟨span_mem hv, h.1.2 v hv, fun u hu lt => ?_⟩
    by_cases u0 : u = 0
    · rw [u0]
      exact Nat.two_pow_pos _
    · refine (lt_pow_log u0).mpr ?_
      rcases Nat.lt_trichotomy u.log2 v.log2 with l | l | l
      · exact l
      · have := basis_least h hv hu u0 l
        omega
      · have h1 : v < 2 ^ u.log2 := (lt_pow_log (h.1.2 v hv)).mpr l
        have h2 := Nat.log2_self_le u0
        omega
  · rintro ⟨hv, h0, least⟩
    obtain ⟨c, hc, l⟩ := span_log h hv h0
    have le := basis_least h hc hv h0 l
    rcases Nat.lt_or_ge c v with lt | ge
    · have := least c (span_mem hc) lt
      have h2 := Nat.log2_self_le (h.1.2 c hc)
      rw [l] at this
      omega
    · have : v = c := by omega
      rw [this]
      exact hc
theorem asc_eq : ∀ {l m : List Nat}, l.Pairwise (· > ·) → m.Pairwise (· > ·) → (∀ x, x ∈ l ↔ x ∈ m) → l = m
  | [], [], _, _, _ => rfl
  | [], x :: m, _, _, h => ((List.not_mem_nil ((h x).mpr List.mem_cons_self))).elim
  | x :: l, [], _, _, h => ((List.not_mem_nil ((h x).mp List.mem_cons_self))).elim
  | x :: l, y :: m, hl, hm, h => by
    have h1 := List.pairwise_cons.mp hl
    have h2 := List.pairwise_cons.mp hm
    have e : x = y := by
      rcases List.mem_cons.mp ((h x).mp List.mem_cons_self) with k | k
      · exact k
      · rcases List.mem_cons.mp ((h y).mpr List.mem_cons_self) with k2 | k2
        · exact k2.symm
        · have := h2.1 x k
          have := h1.1 y k2
          omega
    subst e
    congr 1
    refine asc_eq h1.2 h2.2 fun z => ⟨fun hz => ?_, fun hz => ?_⟩
    · rcases List.mem_cons.mp ((h z).mp (List.mem_cons_of_mem _ hz)) with k | k
      · have := h1.1 z hz
        omega
      · exact k
    · rcases List.mem_cons.mp ((h z).mpr (List.mem_cons_of_mem _ hz)) with k | k
      · have := h2.1 z hz
        omega
      · exact k
theorem plain_unique {B C : List Nat} (hB : Plain B) (hC : Plain C) (h : ∀ v, span B v ↔ span C v) : B = C :=
  asc_eq hB.2 hC.2 fun v => by
    rw [basis_iff hB, basis_iff hC, h v]
    constructor
    · rintro ⟨a, b, c⟩
      exact ⟨a, b, fun u hu => c u ((h u).mpr hu)⟩
    · rintro ⟨a, b, c⟩
      exact ⟨a, b, fun u hu => c u ((h u).mp hu)⟩
/-! ### all sums -/
def sumsOf (B : List Nat) : List Nat := B.foldl (fun s b => s ++ s.map (· ^^^ b)) [0]
theorem sums_gen : ∀ (B C s : List Nat), (∀ v, v ∈ s ↔ span C v) → s.Nodup → Piv (C ++ B) →
    (∀ v, v ∈ B.foldl (fun s b => s ++ s.map (· ^^^ b)) s ↔ span (C ++ B) v) ∧ (B.foldl (fun s b => s ++ s.map (· ^^^ b)) s).Nodup ∧ (B.foldl (fun s b => s ++ s.map (· ^^^ b)) s).length = s.length * 2 ^ B.length
  | [], C, s, h, nd, _ => ⟨by rw [List.append_nil]; exact h, nd, by simp⟩
  | b :: B, C, s, h, nd, hp => by
    have hCB : C ++ b :: B = (C ++ [b]) ++ B := by rw [List.append_assoc]; rfl
    have hC : Piv (C ++ [b]) := by
      rw [hCB] at hp
      exact ⟨(List.pairwise_append.mp hp.1).1, fun c hc => hp.2 c (List.mem_append_left _ hc)⟩
    have pv : Piv C := ⟨(List.pairwise_append.mp hC.1).1, fun c hc => hC.2 c (List.mem_append_left _ hc)⟩
    have nb : ¬ span C b := fun k => by
      have := (rest_zero pv b).mpr k
      rw [rest_eq b pv, comb_off fun c hc => ((List.pairwise_append.mp hC.1).2.2 c hc b List.mem_cons_self).1, Nat.xor_zero] at this
      exact hC.2 b (List.mem_append_right _ List.mem_cons_self) this
    have key : ∀ v, v ∈ s ++ s.map (· ^^^ b) ↔ span (C ++ [b]) v := fun v => by
      rw [List.mem_append, h, List.mem_map, (span_perm (List.perm_append_comm (l₁ := C) (l₂ := [b])) v)]
      show _ ↔ span (b :: C) v
      rw [span_cons]
      refine or_congr Iff.rfl ⟨?_, fun k => ⟨v ^^^ b, (h _).mpr k, xor_cancel v b⟩⟩
      rintro ⟨u, hu, rfl⟩
      rw [xor_cancel]
      exact (h u).mp hu
    have nd2 : (s ++ s.map (· ^^^ b)).Nodup := by
      rw [List.nodup_append]
      refine ⟨nd, ?_, fun x hx y hy e => ?_⟩
      · unfold List.Nodup
        rw [List.pairwise_map]
        exact nd.imp fun n e => n (by
          have := congrArg (· ^^^ b) e
          simpa [xor_cancel] using this)
      · subst e
        obtain ⟨u, hu, e⟩ := List.mem_map.mp hy
        apply nb
        have := span_xor ((h u).mp hu) ((h x).mp hx)
        rw [← e, ← Nat.xor_assoc, Nat.xor_self, Nat.zero_xor] at this
        exact this
    have r := sums_gen B (C ++ [b]) _ key nd2 (by rw [← hCB]; exact hp)
    rw [← hCB] at r
    refine ⟨r.1, r.2.1, ?_⟩
    show (List.foldl _ (s ++ s.map (· ^^^ b)) B).length = _
    rw [r.2.2, List.length_append, List.length_map, List.length_cons, Nat.pow_succ]
    rw [← Nat.mul_two, Nat.mul_assoc, Nat.mul_comm 2]
theorem sums_ok {B : List Nat} (h : Piv B) : (∀ v, v ∈ sumsOf B ↔ span B v) ∧ (sumsOf B).Nodup ∧ (sumsOf B).length = 2 ^ B.length := by
  have r := sums_gen B [] [0] (fun v => ⟨fun k => by rw [List.mem_singleton.mp k]; exact span_zero _, fun k => List.mem_singleton.mpr (span_nil k)⟩) (by simp) h
  refine ⟨r.1, r.2.1, ?_⟩
  rw [show (sumsOf B).length = _ from r.2.2]
  simp
end Vf

namespace Vf
open PySem PySem.Spec PyProof.Rows L2
/-! ### a def that is called: what a caller needs of it -/
def Cal (P : Program) (w : World) (K : PySem.W.Frag) (mg : Str → Option Value) (base : Heap) (x : Str) (k : Nat) (ps : List Str) (dvs : List V) (sp : Sp) : Prop :=
  ∃ (f : Addr) (fd : FuncData) (ds : List Value), FnOk P w K mg base CX0 k f fd ps sp ∧ mg x = some (.ref f) ∧ PySem.W.keepIn K (.ref f) = true ∧ Binds K fd ps ds ∧ Vals dvs ds
def CalK (P : Program) (w : World) (K : PySem.W.Frag) (mg : Str → Option Value) (base : Heap) (x : Str) (k : Nat) (ps ks : List Str) (gV : List V → List V → List V) (sp : Sp) : Prop :=
  ∃ (f : Addr) (fd : FuncData) (g : List Value → List Value → List Value), FnOk P w K mg base CX0 k f fd ps sp ∧ mg x = some (.ref f) ∧ PySem.W.keepIn K (.ref f) = true ∧ KBn K fd ps 0 ks g gV
section
variable {X : Cx} {k : Nat} {ps ks : List Str} {dvs : List V} {sp : Sp} {x : Str} {p pos : Pos}
  {e : Expr} {es : List Expr} {kws : List Keyword} {t tk : TA} {gV : List V → List V → List V}
theorem pe_cal (C : Cal X.prog X.w X.K X.mg X.base x k ps dvs sp) (hr : Room k X.A) (hg : Gl X x) (ha : PA X (e :: es) t)
    (hdb : (x == ("__debug__" : Str)) = false := by decide) (he : starEach (e :: es) X.env = (false, eval e X.env) :: starEach es X.env := by rfl)
    (hpl : (backTo pos (starEach es X.env)).any (·.1) = false := by rfl) : PE X (.Call (.Name x p) (e :: es) [] pos) (tCall sp dvs E0 t) := by
  obtain ⟨f, fd, ds, F, gm, kp, b, hv⟩ := C
  exact pe_call F hr hg gm kp b hv pass0 ha hdb he hpl
theorem pe_calKw (C : CalK X.prog X.w X.K X.mg X.base x k ps ks gV sp) (hr : Room k X.A) (hg : Gl X x) (hkw : PK X kws tk)
    (hall : (backToKw pos (keywordEach kws X.env)).all (·.1.isSome) = true := by rfl)
    (hks : (backToKw pos (keywordEach kws X.env)).filterMap (·.1) = ks := by rfl)
    (hdb : (x == ("__debug__" : Str)) = false := by decide)
    (hpl : ((backTo pos (starEach [] X.env)).any (·.1) || (backToKw pos (keywordEach kws X.env)).any (·.1.isNone)) = false := by rfl) :
    PE X (.Call (.Name x p) [] kws pos) (fun σ H Q => tk σ H fun zs H1 => zs.length = ks.length ∧ sp (gV [] zs) H1 Q E0) := by
  obtain ⟨f, fd, g, F, gm, kp, b⟩ := C
  exact pe_callKw F hr hg gm kp b pass0 hkw hall hks hdb hpl
end
/-! ### heaps -/
theorem same_new {H : Hp} {p : Addr} {o : HO} (h : H p = none) : Same H (upd H p o) := fun b x e => by
  rw [upd_ne (ne_of_none e h)]
  exact e
/-- all that was tracked stands, but what is at p -/
def But (p : Addr) (H H' : Hp) : Prop := ∀ b o, b ≠ p → H b = some o → H' b = some o
theorem But.refl (p : Addr) (H : Hp) : But p H H := fun _ _ _ h => h
theorem But.trans {p : Addr} {H H1 H2 : Hp} (a : But p H H1) (b : But p H1 H2) : But p H H2 := fun c o n h => b c o n (a c o n h)
theorem But.of {p : Addr} {H H' : Hp} (s : Same H H') : But p H H' := fun b o _ h => s b o h
theorem But.upd {p : Addr} {H H' : Hp} {o : HO} (s : But p H H') : But p H (upd H' p o) := fun b x n h => by
  rw [upd_ne n]
  exact s b x n h
theorem But.seq {K : PySem.W.Frag} {p a : Addr} {H H' : Hp} {xs : List V} (s : But p H H') (h : SqL K H a xs) (hp : ∀ o, H p = some o → a ≠ p) (hx : (∃ o, H p = some o)) : SqL K H' a xs := by
  obtain ⟨o, ho⟩ := hx
  have n := hp o ho
  rcases h with (h | ⟨u, h⟩) | h
  · exact .inl (.inl (s _ _ n h))
  · exact .inl (.inr ⟨u, s _ _ n h⟩)
  · exact .inr h
/-- naturals as a list of values -/
def vs (l : List Nat) : List V := l.map fun i => V.int (i : Nat)
theorem vs_int (l : List Nat) : vs l = (l.map fun i : Nat => (i : Int)).map V.int := by
  unfold vs
  rw [List.map_map]
  rfl
theorem bl_t {p : Prop} [Decidable p] (h : p) : V.bl (decide p) = V.bl true := by rw [decide_eq_true h]
theorem bl_f {p : Prop} [Decidable p] (h : ¬ p) : V.bl (decide p) = V.bl false := by rw [decide_eq_false h]
theorem sl_lt {n : Nat} (h : n ≤ 100000) : n < sizeLine := Nat.lt_of_le_of_lt h (by decide)
end Vf

namespace Vf
open PySem PySem.Spec PyProof.Rows L2
/-! ### len(set(t)), t a tuple of unlike ints -/
def tLenSetT (K : PySem.W.Frag) (ta : TE) : TE := fun σ H Q => ta σ H fun x H1 => ∃ (l : Addr) (ns : List Int),
  x = .ref l ∧ SqT K H1 l (ns.map V.int) ∧ ns.Nodup ∧ ns.length ≤ 1000 ∧ Q (.int (ns.length : Nat)) H1
theorem pe_lenSetT {X : Cx} {a : Expr} {ta : TE} {p p2 q pos : Pos} (hg : Gl X "len") (hm : X.mg "len" = none)
    (hg2 : Gl X "set") (hm2 : X.mg "set" = none) (ha : PE X a ta) (hc : X.calm = true := by rfl)
    (na : starEach [a] X.env = (false, eval a X.env) :: starEach [] X.env := by rfl) :
    PE X (.Call (.Name "len" p) [.Call (.Name "set" p2) [a] [] q] [] pos) (tLenSetT X.K ta) := by
  refine ⟨fun pins s σ H Q I h => Call_ (ld_blt I hg hm PySem.boot_len ?_)⟩
  refine callWith_builtin1 (args_cons (Call_ (ld_blt I hg2 hm2 PyProof.Rows.boot_set ?_)) rfl) rfl rfl
  refine callWith_type1 (args_cons (thn (ha.run pins s σ H _ I h) fun v s1 z => args_nil ?_) na) na rfl
  obtain ⟨x, H1, I1, r1, l, ns, rfl, hq, nd, hl, q1⟩ := z
  cases r1
  obtain ⟨its, rv, pt, hz⟩ := I1.tuple hq
  have hi : IntsAre its.toArray.toList ns := ints_of_vals rv
  refine call_set_tupI ns (I1.ok.hd hc) (show s1.heap.IsTuple l its.toArray from pt) hi (by unfold scanBound; omega) fun h' tk c R1 hcn k => ?_
  obtain ⟨o, es, ep, t, ho, hex, hdt, g, nd2, hm3, hb, hf, hn, hr, hl2⟩ := R1
  have e1 : es.size = ns.length := by
    have pm : (es.toList.map keyOf).Perm ns := (List.perm_ext_iff_of_nodup nd2 nd).mpr fun z => by
      rw [← hm3 z]
      exact decide_eq_true_iff
    have := pm.length_eq
    rw [List.length_map, Array.length_toList] at this
    exact this
  have I2 : Inv X pins σ H1 { s1 with heap := h', toks := tk } := I1.kept fun b o e => k b o e
  refine args_nil (call_len_set ho hex hdt hf (by rw [e1]; omega) ⟨.int ns.length, H1, I2.tok _, ⟨_, by rw [e1]⟩, q1⟩)
/-! ### operators on numbers that are not negative -/
section
variable {X : Cx}
theorem op_andN : OpR X (binaryOp .BitAnd) (fun x y H Q => ∃ a b : Nat, x = .int a ∧ y = .int b ∧ Q (.int ((a &&& b : Nat) : Int)) H) := by
  rintro pins s σ H x y v u Q I rx ry ⟨a, b, rfl, rfl, q⟩
  refine op_and pins s σ H _ _ v u Q I rx ry ⟨a, b, rfl, rfl, ?_⟩
  show Q (.int (Builtin.bitAnd a b)) H
  rw [bitAnd_pp (by omega) (by omega)]
  exact q
theorem op_xorN : OpR X (binaryOp .BitXor) (fun x y H Q => ∃ a b : Nat, x = .int a ∧ y = .int b ∧ Q (.int ((a ^^^ b : Nat) : Int)) H) := by
  rintro pins s σ H x y v u Q I rx ry ⟨a, b, rfl, rfl, q⟩
  refine op_xor pins s σ H _ _ v u Q I rx ry ⟨a, b, rfl, rfl, ?_⟩
  show Q (.int (Builtin.bitXor a b)) H
  rw [Bits.bitXor_pp (by omega) (by omega)]
  exact q
theorem op_shrNN : OpR X (binaryOp .RShift) (fun x y H Q => ∃ a b : Nat, x = .int a ∧ y = .int b ∧ Q (.int ((a / 2 ^ b : Nat) : Int)) H) := by
  rintro pins s σ H x y v u Q I rx ry ⟨a, b, rfl, rfl, q⟩
  refine op_shrN pins s σ H _ _ v u Q I rx ry ⟨a, b, rfl, rfl, ?_⟩
  have e : (a : Int) / 2 ^ b = ((a / 2 ^ b : Nat) : Int) := by rw [Int.natCast_ediv, Int.natCast_pow] <;> rfl
  rw [e]
  exact q
theorem op_modNN : OpR X (binaryOp .Mod) (fun x y H Q => ∃ a b : Nat, x = .int a ∧ y = .int b ∧ 0 < b ∧ Q (.int ((a % b : Nat) : Int)) H) := by
  rintro pins s σ H x y v u Q I rx ry ⟨a, b, rfl, rfl, hb, q⟩
  refine op_modN pins s σ H _ _ v u Q I rx ry ⟨a, b, rfl, rfl, by show (b : Int) ≠ 0; omega, ?_⟩
  show Q (.int (Int.fmod (a : Int) b)) H
  rw [Int.fmod_eq_emod_of_nonneg _ (by omega)]
  exact q
theorem op_eqN : OpR X (compareOp .Eq) (fun x y H Q => ∃ a b : Nat, x = .int a ∧ y = .int b ∧ Q (.bl (decide (a = b))) H) := by
  rintro pins s σ H x y v u Q I rx ry ⟨a, b, rfl, rfl, q⟩
  refine op_eq pins s σ H _ _ v u Q I rx ry ⟨rfl, ?_⟩
  have e : decide (V.int (a : Int) = V.int (b : Int)) = decide (a = b) := decide_eq_decide.mpr ⟨fun z => by injection z with z; omega, fun z => by rw [z]⟩
  rw [e]
  exact q
theorem op_neN : OpR X (compareOp .NotEq) (fun x y H Q => ∃ a b : Nat, x = .int a ∧ y = .int b ∧ Q (.bl (!decide (a = b))) H) := by
  rintro pins s σ H x y v u Q I rx ry ⟨a, b, rfl, rfl, q⟩
  refine op_ne pins s σ H _ _ v u Q I rx ry ⟨rfl, ?_⟩
  have e : decide (V.int (a : Int) = V.int (b : Int)) = decide (a = b) := decide_eq_decide.mpr ⟨fun z => by injection z with z; omega, fun z => by rw [z]⟩
  rw [e]
  exact q
theorem op_ltN : OpR X (compareOp .Lt) (fun x y H Q => ∃ a b : Nat, x = .int a ∧ y = .int b ∧ Q (.bl (decide (a < b))) H) := by
  rintro pins s σ H x y v u Q I rx ry ⟨a, b, rfl, rfl, q⟩
  refine op_lt pins s σ H _ _ v u Q I rx ry ⟨a, b, rfl, rfl, ?_⟩
  have e : decide ((a : Int) < b) = decide (a < b) := decide_eq_decide.mpr (by omega)
  show Q (.bl (decide ((a : Int) < b))) H
  rw [e]
  exact q
theorem op_gtN : OpR X (compareOp .Gt) (fun x y H Q => ∃ a b : Nat, x = .int a ∧ y = .int b ∧ Q (.bl (decide (b < a))) H) := by
  rintro pins s σ H x y v u Q I rx ry ⟨a, b, rfl, rfl, q⟩
  refine op_gt pins s σ H _ _ v u Q I rx ry ⟨a, b, rfl, rfl, ?_⟩
  have e : decide ((b : Int) < a) = decide (b < a) := decide_eq_decide.mpr (by omega)
  show Q (.bl (decide ((b : Int) < a))) H
  rw [e]
  exact q
theorem op_pow2 : OpR X (binaryOp .LShift) (fun x y H Q => ∃ k : Nat, x = .int 1 ∧ y = .int (k : Int) ∧ k ≤ 1000 ∧ Q (.int ((2 ^ k : Nat) : Int)) H) := by
  rintro pins s σ H x y v u Q I rx ry ⟨k, rfl, rfl, hk, q⟩
  refine op_oneShl pins s σ H _ _ v u Q I rx ry ⟨k, rfl, rfl, by omega, ?_⟩
  have e : (2 : Int) ^ k = ((2 ^ k : Nat) : Int) := by rw [Int.natCast_pow] <;> rfl
  rw [e]
  exact q
/-- an int as a test -/
def tInt (ta : TE) : TT := fun σ H Q => ta σ H fun x H' => ∃ n : Nat, x = .int (n : Int) ∧ Q (decide (n ≠ 0)) H'
theorem pt_int {a : Expr} {ta : TE} (ha : PE X a ta) (he : ∀ whole, isTrue a X.env whole = (do let v ← whole; standAt a.pos; holding [v] (truthy v))) : PT X a (tInt ta) := by
  refine ⟨fun pins s σ H Q I h => isTrue_plain (thn (ha.run pins s σ H _ I h) fun v s1 z => ?_) (he _)⟩
  obtain ⟨x, H1, I1, r1, n, rfl, q⟩ := z
  obtain ⟨t, rfl⟩ := r1
  have e : ((n : Int) != 0) = decide (n ≠ 0) := by cases n <;> rfl
  exact PySem.P.truthy_int ⟨H1, I1, by rw [e]; exact q⟩
end
end Vf

namespace Vf
open PySem PySem.Spec PyProof.Rows L2
section
variable {X : Cx}
theorem call_intN : CallR X (.type "int") (fun xs H Q => ∃ n : Nat, xs = [.int (n : Int)] ∧ Q (.int (n : Int)) H) := by
  rintro pins s σ H xs us Q I r ⟨n, rfl, q⟩
  exact call_int1 pins s σ H _ us Q I r (.inl ⟨n, rfl, q⟩)
theorem call_divmodN : CallR X (.builtin "divmod") (fun xs H Q => ∃ a b : Nat, xs = [.int (a : Int), .int (b : Int)] ∧ 0 < b ∧ b < 1073741824 ∧
    ∀ p, H p = none → Q (.ref p) (upd H p (.tup [.int ((a / b : Nat) : Int), .int ((a % b : Nat) : Int)]))) := by
  rintro pins s σ H xs us Q I r ⟨a, b, rfl, h1, h2, q⟩
  refine call_divmod pins s σ H _ us Q I r ⟨a, b, rfl, ⟨by omega, by omega⟩, fun p hp => ?_⟩
  have e1 : (a : Int) / b = ((a / b : Nat) : Int) := (Int.natCast_ediv _ _).symm
  have e2 : (a : Int) % b = ((a % b : Nat) : Int) := (Int.natCast_emod _ _).symm
  rw [e1, e2]
  exact q p hp
end
/-- a pot: what is left of the cell's own digits, and the mixed number -/
def Pot (H : Hp) (p : Addr) : Prop := ∃ x y : Nat, H p = some (.lst [.int (x : Int), .int (y : Int)]) ∧ y < 2147483648
theorem Pot.same {H H' : Hp} {p : Addr} (s : Same H H') (h : Pot H p) : Pot H' p := by
  obtain ⟨x, y, e, l⟩ := h
  exact ⟨x, y, s _ _ e, l⟩
theorem Pot.upd {H : Hp} {p q : Addr} {o : HO} (n : p ≠ q) (h : Pot H p) : Pot (upd H q o) p := by
  obtain ⟨x, y, e, l⟩ := h
  exact ⟨x, y, by rw [upd_ne n]; exact e, l⟩
theorem Pot.some {H : Hp} {p : Addr} (h : Pot H p) : ∃ o, H p = some o := by
  obtain ⟨x, y, e, l⟩ := h
  exact ⟨_, e⟩
/-- changes at a new place alone -/
theorem But.new {p q : Addr} {H H' : Hp} {o : HO} (s : But p H H') (h : H q = none) : But p H (L2.upd H' q o) := fun b x n e => by
  show L2.upd H' q o b = _
  rw [upd_ne (ne_of_none e h)]
  exact s b x n e
end Vf

namespace Vf
open PySem PySem.Spec PyProof.Rows L2
/-! ### flat lists as data -/
def toD : V → PyData
  | .bl b => .bool b
  | .int i => .int i
  | _ => .none
def flat : V → Bool
  | .bl _ => true
  | .int _ => true
  | _ => false
def small : V → Bool
  | .bl _ => true
  | .int i => decide (i.natAbs.log2 < 1900)
  | _ => false
theorem flat_of_small {x : V} (h : small x = true) : flat x = true := by
  cases x <;> first | rfl | exact h
theorem dp_flat {K : PySem.W.Frag} {H : Hp} {x : V} (h : flat x = true) : Dp K H x (toD x) := by
  cases x with
  | bl b => exact .bl b
  | int i => exact .int i
  | _ => cases h
theorem dp_all {K : PySem.W.Frag} {H : Hp} : ∀ {xs : List V}, (∀ x ∈ xs, flat x = true) → DpAll K H xs (xs.map toD)
  | [], _ => .nil
  | x :: xs, h => .cons (dp_flat (h x List.mem_cons_self)) (dp_all fun y hy => h y (List.mem_cons_of_mem _ hy))
theorem canLay_all : ∀ {xs : List V}, (∀ x ∈ xs, flat x = true) → PyData.canLayAll0 (xs.map toD) = true
  | [], _ => rfl
  | x :: xs, h => by
    have h1 := h x List.mem_cons_self
    have h2 := canLay_all (xs := xs) fun y hy => h y (List.mem_cons_of_mem _ hy)
    rw [List.map_cons, PyData.canLayAll0, h2]
    cases x <;> first | rfl | cases h1
theorem depth_all : ∀ xs : List V, PyData.depthAll (xs.map toD) = 0
  | [] => rfl
  | x :: xs => by
    rw [List.map_cons, PyData.depthAll, depth_all xs]
    cases x <;> rfl
theorem shaped_flat {xs : List V} (h : ∀ x ∈ xs, flat x = true) : SeqAt.shaped (.list (xs.map toD)) = true := by
  unfold SeqAt.shaped
  rw [PyData.canLay0, canLay_all h, PyData.depth, depth_all]
  rfl
theorem eqv_flat {xs : List V} (h : ∀ x ∈ xs, flat x = true) : PyData.eqv (.list (xs.map toD)) (.list (xs.map toD)) = true :=
  SeqAt.eqv_refl _ (by rw [PyData.canLay0]; exact canLay_all h)
theorem flat_vs (l : List Nat) : ∀ x ∈ vs l, flat x = true := fun x hx => by
  obtain ⟨i, _, rfl⟩ := List.mem_map.mp hx
  rfl
/-- two equal flat lists are not unlike -/
theorem neD_same {K : PySem.W.Frag} {H : Hp} {Q : VK} {a b : Addr} {xs : List V} (ha : SqL K H a xs) (hb : SqL K H b xs) (h : ∀ x ∈ xs, flat x = true) (q : Q (.bl false) H) : rNeD K (.ref a) (.ref b) H Q := by
  refine ⟨_, _, .lst ha (dp_all h), .lst hb (dp_all h), shaped_flat h, shaped_flat h, ?_⟩
  rw [eqv_flat h]
  exact q
/-! ### their texts -/
theorem text_len : ∀ (ts : List Str) (k : Nat) (acc : Str), (textFrom k acc ts).length ≤ acc.length + (ts.map fun t => t.length + 2).sum
  | [], k, acc => Nat.le_refl _
  | t :: r, k, acc => by
    have h := text_len r (k + 1) (acc ++ (if k > 0 then ", " else "" : String) ++ t)
    rw [strLen_append, strLen_append] at h
    have e : ((if k > 0 then ", " else "" : String) : Str).length ≤ 2 := by
      split
      · exact Nat.le_refl 2
      · exact Nat.zero_le 2
    show (textFrom (k + 1) _ r).length ≤ _
    rw [List.map_cons, List.sum_cons]
    exact Nat.le_trans h (by omega)
theorem small_nat {n : Nat} (h : n < 2 ^ 24) : small (.int (n : Int)) = true := by
  refine decide_eq_true ?_
  show n.log2 < 1900
  by_cases h0 : n = 0
  · rw [h0]
    decide
  · exact Nat.lt_of_lt_of_le ((Nat.log2_lt h0).mpr h) (by decide)
theorem small_len {x : V} (h : small x = true) : (toD x).shown.length ≤ 1921 := by
  cases x with
  | bl b => cases b <;> decide +kernel
  | int i =>
    have e := int_text_length_le (a := i) (k := 1900) (by decide) (of_decide_eq_true h)
    show (Str.ofString (toString i)).length ≤ 1921
    rw [PySem.ofString_length]
    omega
  | _ => cases h
theorem small_show {x : V} (h : small x = true) : (toD x).showable = true ∧ (toD x).hasDict = false := by
  cases x with
  | bl b => exact ⟨rfl, rfl⟩
  | int i =>
    have h2 : i.natAbs.log2 < 1900 := of_decide_eq_true h
    exact ⟨decide_eq_true (by omega), rfl⟩
  | _ => cases h
theorem shown_all : ∀ {xs : List V}, (∀ x ∈ xs, small x = true) → PyData.showableAll (xs.map toD) = true ∧ PyData.hasDictAll (xs.map toD) = false ∧
    ((PyData.shownAll (xs.map toD)).map fun t => t.length + 2).sum ≤ 1925 * xs.length
  | [], _ => ⟨rfl, rfl, Nat.le_refl _⟩
  | x :: xs, h => by
    obtain ⟨a, b, c⟩ := shown_all (xs := xs) fun y hy => h y (List.mem_cons_of_mem _ hy)
    have h1 := h x List.mem_cons_self
    have h2 := small_len h1
    rw [List.map_cons, PyData.showableAll, PyData.hasDictAll, PyData.shownAll, a, b, (small_show h1).1, (small_show h1).2, List.map_cons, List.sum_cons, List.length_cons]
    exact ⟨rfl, rfl, by omega⟩
/-- the text of such a list -/
def txt (xs : List V) : Str := (PyData.list (xs.map toD)).shown
theorem repr_small {K : PySem.W.Frag} {H : Hp} {Q : VK} {a : Addr} {xs : List V} (ha : SqL K H a xs) (h : ∀ x ∈ xs, small x = true) (hl : xs.length ≤ 1000) (q : Q (.str (txt xs)) H) : rRepr K [.ref a] H Q := by
  obtain ⟨h1, h2, h3⟩ := shown_all h
  refine ⟨⟨a, _, rfl, .lst ha (dp_all fun x hx => flat_of_small (h x hx)), ?_, ?_, ?_, ?_, q⟩⟩
  · rw [PyData.showable]
    exact h1
  · rw [PyData.hasDict]
    exact h2
  · rw [PyData.depth, depth_all]
    decide
  · rw [PyData.shown]
    unfold listText
    rw [strLen_append]
    have h4 := text_len (PyData.shownAll (xs.map toD)) 0 "["
    have e1 : (("[" : String) : Str).length = 1 := rfl
    have e2 : (("]" : String) : Str).length = 1 := rfl
    have e3 : sizeLine = 16777216 := sizeLine_eq
    omega
/-- two equal texts are not unlike -/
theorem ne_str {H : Hp} {Q : VK} {x : Str} (q : Q (.bl false) H) : rNe (.str x) (.str x) H Q := by
  refine ⟨rfl, ?_⟩
  rw [decide_eq_true rfl]
  exact q
theorem perm_vs {l' : List V} {l : List Nat} (h : l'.Perm (vs l)) : ∃ l2 : List Nat, l' = vs l2 ∧ l2.Perm l := by
  let g : V → Nat := fun x => match x with | .int i => i.toNat | _ => 0
  refine ⟨l'.map g, ?_, ?_⟩
  · have e : ∀ x ∈ l', V.int ((g x : Nat) : Int) = x := fun x hx => by
      obtain ⟨i, _, rfl⟩ := List.mem_map.mp (h.mem_iff.mp hx)
      rfl
    unfold vs
    rw [List.map_map]
    exact ((List.map_congr_left (g := id) e).trans (List.map_id l')).symm
  · have p := h.map g
    unfold vs at p
    rw [List.map_map] at p
    have e : (l.map (g ∘ fun i : Nat => V.int (i : Int))) = l := by
      rw [show (g ∘ fun i : Nat => V.int (i : Int)) = id from rfl, List.map_id]
    rw [e] at p
    exact p
end Vf

namespace Vf
open PySem PySem.Spec PyProof.Rows L2
def CalG (P : Program) (w : World) (K : PySem.W.Frag) (mg : Str → Option Value) (base : Heap) (x : Str) (k : Nat) (ps : List Str) (sp : Sp) : Prop :=
  ∃ (f : Addr) (fd : FuncData), GnOk P w K mg base k f fd ps sp ∧ mg x = some (.ref f) ∧ PySem.W.keepIn K (.ref f) = true ∧ Binds K fd ps []
def tGn (sp : Sp) (t : TA) : TE := fun σ H Q => t σ H fun vs H1 => sp vs H1 Q E0
theorem pe_calG {X : Cx} {k : Nat} {ps : List Str} {sp : Sp} {x : Str} {p pos : Pos} {e : Expr} {es : List Expr} {t : TA} (C : CalG X.prog X.w X.K X.mg X.base x k ps sp)
    (gg : X.A.guards = some []) (hr : Room k X.A) (hg : Gl X x) (ha : PA X (e :: es) t)
    (hdb : (x == ("__debug__" : Str)) = false := by decide) (he : starEach (e :: es) X.env = (false, eval e X.env) :: starEach es X.env := by rfl)
    (hpl : (backTo pos (starEach es X.env)).any (·.1) = false := by rfl) : PE X (.Call (.Name x p) (e :: es) [] pos) (tGn sp t) := by
  obtain ⟨f, fd, F, gm, kp, b⟩ := C
  exact pe_gn F gg hr hg gm kp b ha hdb he hpl
theorem But.free {p q : Addr} {H H' : Hp} (b : But p H H') (hp : Pot H' p) (h : H' q = none) : H q = none := by
  cases e : H q with
  | none => rfl
  | some o =>
    by_cases n : q = p
    · subst n
      obtain ⟨o2, e2⟩ := hp.some
      rw [h] at e2
      cases e2
    · rw [b q o n e] at h
      cases h
theorem ne_strE {H : Hp} {Q : VK} {x y : Str} (e : x = y) (q : Q (.bl false) H) : rNe (.str x) (.str y) H Q := by
  subst e
  exact ne_str q
theorem nbl_f {p : Prop} [Decidable p] (h : p) : V.bl (!decide p) = V.bl false := by rw [decide_eq_true h]; rfl
end Vf

set_option Elab.async false
set_option linter.all false
set_option maxRecDepth 100000
set_option maxHeartbeats 4000000
namespace Vf
open PySem PySem.Spec PyProof.Rows L2
/-! ### {xs} in an f-string, xs data -/
structure rFmtD (K : PySem.W.Frag) (x : V) (H : Hp) (Q : VK) : Prop where
  ex : ∃ a d, x = .ref a ∧ Dp K H (.ref a) d ∧ d.showable = true ∧ d.hasDict = false ∧ d.depth ≤ 60 ∧ d.shown.length ≤ sizeLine ∧ Q (.str d.shown) H
section
variable {X : Cx}
theorem pe_fmtD {e : Expr} {te : TE} {pos : Pos} (hg : X.A.guards = some []) (hu : X.A.units + 64 < cLine) (he : PE X e te) :
    PE X (.FormattedValue e (-1) none pos) (fun σ H Q => te σ H fun x H1 => rFmtD X.K x H1 Q) := by
  refine ⟨fun pins s σ H Q I h => wpAny_FormattedValue_plain (thn (he.run pins s σ H _ I h) fun v s1 hv => ?_)⟩
  obtain ⟨x, H1, I1, r1, q⟩ := hv
  obtain ⟨a, d, rfl, hD, hs, hn, hd, hz, q⟩ := q.ex
  cases (show v = Value.ref a from r1)
  obtain ⟨as, rd⟩ := Dp.reads I1 d _ _ hD rfl
  refine formatField_of_reads rd hs (fun z => ?_) hg (by omega) (fun _ _ e => e) (fun h' u tk hk => ?_) hz
  · rw [hn] at z
    cases z
  · exact ⟨.str d.shown, H1, I1.kept (fun b o e => hk b o e), ⟨u, rfl⟩, q⟩
/-! ### repr of an own instance -/
structure rReprI (C : Addr) (sp : Sp) (xs : List V) (H : Hp) (Q : VK) : Prop where
  ex : ∃ a dx fs, xs = [.ref a] ∧ H a = some (.ins C dx fs) ∧ sp [.ref a] H (fun v H' => ∃ t : Str, v = .str t ∧ Q (.str t) H') E0
theorem call_reprI {C f : Addr} {fd : FuncData} {sp : Sp} {k : Nat} {ps : List Str} (F : GnOk X.prog X.w X.K X.mg X.base k f fd ps sp) (hg : X.A.guards = some []) (hr : Room (k + 1) X.A)
    (hs : PySem.W.findIn X.K (.ref C) "__repr__" = some (some (.ref f))) (hf : PySem.W.isFn X.K (.ref f) = true) (hb : Binds X.K fd ps []) : CallR X (.builtin "repr") (rReprI C sp) := by
  intro pins s σ H xs us Q I r h
  obtain ⟨a, dx, fs, rfl, ha, hq⟩ := h.ex
  obtain ⟨u1, rfl, r1⟩ := vals1 r
  cases (show u1 = Value.ref a from r1)
  obtain ⟨mA, O, _⟩ := ins_get I.hok ha
  obtain ⟨od, J, _⟩ := O.look
  obtain ⟨m, hF⟩ := I.fr
  refine PySem.W.repr_K (by have := hr.units; show X.A.units + 1 < cLine; omega) hF I.ok.mod.kin J hs hf ?_
  have hl : ([Value.ref a] ++ ([] : List Value)).length = ps.length := by
    rw [← F.len _ _ _ _ hq]
    rfl
  have bb := hb s [.ref a] I.kIn hl
  rw [List.append_nil] at bb
  refine wpAny_call (codeAny_mono (F.go X.A.in1 X.stack s H ⟨[.ref a], []⟩ [.ref a] [.ref a] _ E0 hg hr.in1 I.env0.in1 bb (.cons rfl .nil) hq) fun res s' hh => ?_)
  cases res with
  | error e => exact hh.elim
  | ok fl =>
    cases fl with
    | next => exact hh.elim
    | brk => exact hh.elim
    | cont => exact hh.elim
    | ret u =>
      obtain ⟨v, H', I', rv, t, rfl, q⟩ := I.after hh
      obtain ⟨tk, rfl⟩ := rv
      exact ⟨.str t, H', I', ⟨tk, rfl⟩, q⟩
/-! ### == and != by an own __eq__ -/
/-- the value's type, for a comparison -/
def TyL (X : Cx) (H : Hp) (y : V) (tb : Value) : Prop := ∀ (pins : List (Addr × Obj)) (σ : L2.St) (s : Shared) (u : Value), Inv X pins σ H s → RelV y u → PySem.W.Looks (model X.prog X.w) s.heap (typeOf u) tb
theorem tyL_ins {H : Hp} {b C dx : Addr} {fs : List (Str × V)} (h : H b = some (.ins C dx fs)) : TyL X H (.ref b) (.ref C) := fun pins σ s u I r => by
  cases (show u = Value.ref b from r)
  obtain ⟨mA, O, _⟩ := ins_get I.hok h
  obtain ⟨od, J, _⟩ := O.look
  exact J.type
theorem tyL_int {H : Hp} {i : Int} : TyL X H (.int i) (.type "int") := fun pins σ s u I r => by
  obtain ⟨t, rfl⟩ := r
  exact PySem.W.Looks.of_pure rfl
theorem tyL_lst {H : Hp} {b : Addr} {xs : List V} (h : H b = some (.lst xs)) : TyL X H (.ref b) (.type "list") := fun pins σ s u I r => by
  cases (show u = Value.ref b from r)
  obtain ⟨its, n, _, h1⟩ := (show ObjOk X.prog X.w H s.heap b (.lst xs) from I.hok b _ h).2
  intro A Q E s' k q
  exact wpAny_typeOf_ref (k _ _ h1) q
structure rOwn (X : Cx) (C : Addr) (sp : Sp) (neg : Bool) (x y : V) (H : Hp) (Q : VK) : Prop where
  ex : ∃ a dx fs tb, x = .ref a ∧ H a = some (.ins C dx fs) ∧ TyL X H y tb ∧ PySem.W.notFirst X.K C tb = true ∧ sp [.ref a, y] H (fun v H' => ∃ b : Bool, v = .bl b ∧ Q (.bl (if neg then !b else b)) H') E0
theorem own_run {pins : List (Addr × Obj)} {σ : L2.St} {H : Hp} {s : Shared} {A : Around} {R : VK} {f a : Addr} {fd : FuncData} {sp : Sp} {k : Nat} {ps : List Str} {y : V} {u : Value} (F : FnOk X.prog X.w X.K X.mg X.base CX0 k f fd ps sp) (hr : Room k A) (hA : A.frames = X.A.frames)
    (hb : Binds X.K fd ps []) (I : Inv X pins σ H s) (ry : RelV y u) (h : sp [.ref a, y] H R E0) {E : Value → Shared → Prop} :
    wpAny (model X.prog X.w) A (call (.ref f) [.ref a, u]) (EP X pins σ R) E s := by
  have hl : ([Value.ref a, u] ++ ([] : List Value)).length = ps.length := by
    rw [← F.len _ _ _ _ h]
    rfl
  have bb := hb s [.ref a, u] I.kIn hl
  rw [List.append_nil] at bb
  have e0 : Env0 X.prog X.w X.K X.mg X.base A X.stack s H := by
    have e := I.env0
    exact ⟨hA.trans e.frames, e.mod, e.bs, e.bsz, e.funs, e.frf, e.hok, e.bare⟩
  refine wpAny_call (codeAny_mono (F.run A X.stack s H ⟨[.ref a, u], []⟩ [.ref a, u] [.ref a, y] R E0 hr e0 bb (.cons rfl (.cons ry .nil)) h) fun res s' hh => ?_)
  cases res with
  | error e => exact hh.elim
  | ok fl =>
    cases fl with
    | next => exact hh.elim
    | brk => exact hh.elim
    | cont => exact hh.elim
    | ret w => exact I.after hh
theorem op_eqI {C f : Addr} {fd : FuncData} {sp : Sp} {k : Nat} {ps : List Str} (F : FnOk X.prog X.w X.K X.mg X.base CX0 k f fd ps sp) (hr : Room k X.A)
    (hs : PySem.W.findIn X.K (.ref C) "__eq__" = some (some (.ref f))) (hf : PySem.W.isFn X.K (.ref f) = true) (hb : Binds X.K fd ps []) : OpR X (compareOp .Eq) (rOwn X C sp false) := by
  intro pins s σ H x y v u Q I rx ry h
  obtain ⟨a, dx, fs, tb, rfl, ha, ty, nf, hq⟩ := h.ex
  cases (show v = Value.ref a from rx)
  obtain ⟨mA, O, _⟩ := ins_get I.hok ha
  obtain ⟨od, J, _⟩ := O.look
  obtain ⟨m, hF⟩ := I.fr
  show wpAny (model X.prog X.w) X.A (richCompare .Eq (.ref a) u) (EP X pins σ Q) X.xe s
  refine PySem.W.cmp_K (op := .Eq) (tb := tb) hr.units0 hF I.ok.mod.kin J (ty pins σ s u I ry) nf hs hf ?_
  refine wpAny_mono (own_run F hr rfl hb I ry hq) (fun w s' z => ?_) fun _ _ e => e
  obtain ⟨v, H', I', rv, b, rfl, q⟩ := z
  cases rv
  exact ⟨.bl b, H', I', rfl, q⟩
theorem ne_K {prog : Program} {w : World} {A : Around} {E : Value → Shared → Prop} {K : PySem.W.Frag} {s : Shared} {x C f : Addr} {ox : Obj} {od : Option Obj} {b tb : Value} {Q : Value → Shared → Prop}
    (hu : A.units + 1 < cLine) (kin : K.In s.heap) (I : PySem.W.InstAt s.heap x ox C od) (hb : PySem.W.Looks (model prog w) s.heap (typeOf b) tb) (hn : PySem.W.notFirst K C tb = true)
    (hne : PySem.W.findIn K (.ref C) "__ne__" = some (some (.builtin "object.__ne__"))) (hob : PySem.W.mroIn K C (.type "object") = some true)
    (hs : PySem.W.findIn K (.ref C) "__eq__" = some (some (.ref f))) (hf : PySem.W.isFn K (.ref f) = true)
    (h : wpAny (model prog w) A.in1 (call (.ref f) [.ref x, b]) (fun v s' => ∃ r : Bool, v = .bool r ∧ Q (.bool (!r)) s') E s) :
    wpAny (model prog w) A (richCompare .NotEq (.ref x) b) Q E s := by
  have FB := F.cmp_object
  have sub : PySem.W.Looks (model prog w) s.heap (isInstance (.ref x) (.type "object")) true := I.type.andThen (PySem.W.looks_mroIn kin hob)
  have inner : wpAny (model prog w) A (call (.builtin "object.__ne__") [.ref x, b]) (fun v s' => ∃ r : Bool, v = .bool (!r) ∧ Q (.bool (!r)) s') E s := by
    refine wpAny_call (codeAny_call_builtin FB.ne.plain F.cmpEntry_ne (@PySem.W.check_slot (model prog w) _ _ s "object.__ne__" "object" "__ne__" (.ref x) [b] [] _ F.cmpKind_ne F.cmpSplit_ne sub (F.cmpArgs_ne _ _) ?_))
    unfold Builtin.«object.__ne__»
    repeat (first
      | with_reducible refine wpAny_cRoomFor (show A.in1.units < cLine from hu) ?_
      | (refine wpAny_bind (m := callSpecialIfBound? (.ref x) (Str.ofString "__eq__") [b])
          (PySem.W.ifBound_K kin I hs hf (wpAny_mono h (fun r s' hr => by
            obtain ⟨r, rfl, hq⟩ := hr
            repeat (first | exact ⟨r, rfl, hq⟩ | exact wpAny_pure ⟨r, rfl, hq⟩ | exact wpAny_truthy_bool ⟨r, rfl, hq⟩ | (refine wpAny_bind (m := truthy (.bool _)) (wpAny_truthy_bool ?_)) | wp_step)) fun _ _ e => e)))
      | wp_step)
  have one : wpAny (model prog w) A (tryCompare (.ref x) "__ne__" b) (fun r s' => ∃ v, r = some v ∧ Q v s') E s := by
    unfold tryCompare
    refine wpAny_bind ?_
    simp only [callSpecialIfBound?, bindSpecialIfBound?]
    refine wpAny_holding (wpAny_bind (wpAny_bind (wpAny_bind (I.type.here ((PySem.W.looks_findIn kin hne).here ?_)))))
    simp only [FB.ne.bind]
    refine wpAny_bind (wpAny_askSetting (wpAny_ite ?_))
    have fin : wpAny (model prog w) A (call (.builtin "object.__ne__") ([.ref x] ++ [b]) >>= fun v => pure (some v)) (fun r s' => wpAny (model prog w) A (match r with | some .notImplemented | none => pure none | some v => pure (some v)) (fun r s' => ∃ v, r = some v ∧ Q v s') E s') E s :=
      wpAny_bind (wpAny_mono inner (fun v s' hv => wpAny_pure (by
        obtain ⟨r, rfl, hq⟩ := hv
        exact wpAny_pure ⟨_, rfl, hq⟩)) fun _ _ e => e)
    split
    · exact wpAny_bind (wpAny_pure (wpAny_pure fin))
    · exact wpAny_tryCatch (wpAny_bind (wpAny_pure (wpAny_pure fin)))
  unfold richCompare
  simp only [oneThing_ref]
  refine wpAny_holding (wpAny_bind (wpAny_cRoomFor (Nat.lt_of_succ_lt hu) ?_))
  rw [cmpInfo_NotEq]
  dsimp only
  refine wpAny_bind (I.type.here (wpAny_bind (hb.here ?_)))
  split
  · rename_i q
    have e : PySem.W.subIn K tb (.ref C) = some false := by
      rcases Bool.or_eq_true_iff.mp hn with e | e
      · rw [beq_iff_eq.mp e] at q
        simp at q
      · exact beq_iff_eq.mp e
    refine wpAny_bind ((PySem.W.looks_subIn kin e).here ?_)
    simp only [Bool.false_eq_true, if_false]
    refine wpAny_bind (wpAny_mono one (fun r s' z => ?_) fun _ _ e => e)
    obtain ⟨v, rfl, hq⟩ := z
    exact wpAny_pure hq
  · refine wpAny_bind (wpAny_pure ?_)
    simp only [Bool.false_eq_true, if_false]
    refine wpAny_bind (wpAny_mono one (fun r s' z => ?_) fun _ _ e => e)
    obtain ⟨v, rfl, hq⟩ := z
    exact wpAny_pure hq
theorem op_neI {C f : Addr} {fd : FuncData} {sp : Sp} {k : Nat} {ps : List Str} (F : FnOk X.prog X.w X.K X.mg X.base CX0 k f fd ps sp) (hr : Room (k + 1) X.A)
    (hne : PySem.W.findIn X.K (.ref C) "__ne__" = some (some (.builtin "object.__ne__"))) (hob : PySem.W.mroIn X.K C (.type "object") = some true)
    (hs : PySem.W.findIn X.K (.ref C) "__eq__" = some (some (.ref f))) (hf : PySem.W.isFn X.K (.ref f) = true) (hb : Binds X.K fd ps []) : OpR X (compareOp .NotEq) (rOwn X C sp true) := by
  intro pins s σ H x y v u Q I rx ry h
  obtain ⟨a, dx, fs, tb, rfl, ha, ty, nf, hq⟩ := h.ex
  cases (show v = Value.ref a from rx)
  obtain ⟨mA, O, _⟩ := ins_get I.hok ha
  obtain ⟨od, J, _⟩ := O.look
  show wpAny (model X.prog X.w) X.A (richCompare .NotEq (.ref a) u) (EP X pins σ Q) X.xe s
  refine ne_K (tb := tb) (by have := hr.units; omega) I.kIn J (ty pins σ s u I ry) nf hne hob hs hf ?_
  refine wpAny_mono (own_run (A := X.A.in1) F hr.in1 rfl hb I ry hq) (fun w s' z => ?_) fun _ _ e => e
  obtain ⟨v, H', I', rv, b, rfl, q⟩ := z
  cases rv
  exact ⟨b, rfl, .bl (!b), H', I', rfl, q⟩
end
end Vf

set_option Elab.async false
set_option linter.all false
set_option maxRecDepth 100000
set_option maxHeartbeats 4000000
namespace Vf
open PySem PySem.Spec PyProof.Rows L2
/-! ### for i, x in enumerate(t), t a tuple -/
theorem meets_enumB {v : Value} {o : Obj} {H : Heap → Prop} (B : Begins v o H) :
    Meets (Builtin.«enumerate.__new__» ⟨[.type "enumerate", v], []⟩) (fun _ R s => H s.heap ∧ R (.ok (.ret (.ref (s.heap.push o).objs.size)))
      { s with heap := (s.heap.push o).push { cls := .type "enumerate", data := .fields #[.none, .bool false, .ref s.heap.objs.size, rawInt 0, .none, .none] } }) :=
  .of_wp fun prog w A R s h => by
    obtain ⟨hp, g, d, tk, os⟩ := s
    obtain ⟨h1, h⟩ := h
    have hsub := sub_enumerate
    have q1 : ∀ {A' : Around} {E : Value → Shared → Prop} {Q : Value → Shared → Prop}, Q (.ref hp.objs.size) ⟨hp.push o, g, d, tk, os⟩ →
        wpAny (model prog w) A' (pyIter v) Q E ⟨hp, g, d, tk, os⟩ := fun q => B.iter prog w _ _ ⟨hp, g, d, tk, os⟩ _ h1 q
    wp_walk using q1
    refine wpAny_stack_any fun st => wpAny_pure ?_
    split
    · rename_i c _ _ _ _ _
      cases (c == Value.type "enumerate") <;> (wp_walk using q1; exact ⟨_, rfl, h⟩)
    · wp_walk using q1
      exact ⟨_, rfl, h⟩
theorem call_enumT {prog : Program} {w : World} {A : Around} {E : Value → Shared → Prop} {s : Shared} {l : Addr} {items : Array Value} {Q : Value → Shared → Prop} (hT : s.heap.IsTuple l items)
    (h : ∀ h', IsEnum h' (s.heap.objs.size + 1) s.heap.objs.size 0 .none → h'.IsTupleIter s.heap.objs.size l 0 →
      (∀ b o, s.heap.get? b = some o → h'.get? b = some o) → Q (.ref (s.heap.objs.size + 1)) { s with heap := h' }) :
    wpAny (model prog w) A (call (.type "enumerate") [.ref l]) Q E s := by
  refine callType_new F.called_enumerate (by decide) (F.typeCall_enumerate_1 _) (F.newCall_enumerate_1 _) (fun obj => F.args_object_init_2 obj _) F.entry_enumerate_new
    (meets_enumB (begins_tuple l items)) ⟨hT, ?_⟩
  have hz : (s.heap.push { cls := .type "tuple_iterator", data := .fields #[.ref l, .int 0 0] }).objs.size = s.heap.objs.size + 1 := Heap.size_push ..
  show _ ∧ _
  rw [hz]
  have he : IsEnum ((s.heap.push { cls := .type "tuple_iterator", data := .fields #[.ref l, .int 0 0] }).push
      { cls := .type "enumerate", data := .fields #[.none, .bool false, .ref s.heap.objs.size, rawInt 0, .none, .none] }) (s.heap.objs.size + 1) s.heap.objs.size 0 .none := by
    have z := Heap.get?_push_size (s.heap.push { cls := .type "tuple_iterator", data := .fields #[.ref l, .int 0 0] })
      (o := { cls := .type "enumerate", data := .fields #[.none, .bool false, .ref s.heap.objs.size, rawInt 0, .none, .none] }) rfl
    rw [hz] at z
    exact z
  exact ⟨⟨_, he, rfl⟩, h _ he ⟨_, Heap.get?_push_of_some _ (Heap.get?_push_size _ rfl), rfl, rfl⟩ fun b o x => Heap.get?_push_of_some _ (Heap.get?_push_of_some _ x)⟩
def ItT (K : PySem.W.Frag) (a : Addr) : It :=
  ⟨fun i H => ∃ (xs : List V) (x : V), SqT K H a xs ∧ xs[i]? = some x,
   fun i H v H' => ∃ T x, v = .ref T ∧ H T = none ∧ H' = upd H T (.tup [.int (i : Nat), x]) ∧ ∀ xs, SqT K H a xs → xs[i]? = some x,
   fun i H => ∃ xs : List V, SqT K H a xs ∧ xs.length = i⟩
theorem turn_enumT {P : Program} {w : World} {K : PySem.W.Frag} {elts : List Expr} {kk : Nat} {tpos : Pos} (a e it : Addr) :
    Turn P w K (.Tuple elts kk tpos) (ItT K a) [e, it] e (fun i h => (∃ old, IsEnum h e it ((i : Nat) : Int) old) ∧ h.IsTupleIter it a i ∧ e ≠ it) where
  mem := by simp
  obj := by
    rintro i h ⟨⟨old, he⟩, ⟨o, ho, hc, hd⟩, _⟩ b hb
    rcases (show b = e ∨ b = it by simpa using hb) with rfl | rfl
    · exact ⟨_, he, fun v q => nomatch q⟩
    · exact ⟨o, ho, fun v q => by rw [hd] at q; cases q⟩
  keep := by
    rintro i h h' ⟨⟨old, he⟩, hi, hne⟩ k
    exact ⟨⟨old, k e (by simp) _ he⟩, hi.at fun o q => k it (by simp) o q, hne⟩
  item := by
    intro X hP hw hK hc i pins s σ H E I hf st hg
    subst hP hw hK
    obtain ⟨⟨old, he⟩, hit, hne⟩ := st
    obtain ⟨xs, x, hq, hx⟩ := hg
    obtain ⟨its, rv, p, hz⟩ := I.tuple hq
    obtain ⟨u, hu, ru⟩ := rv.get hx
    have hT0 : s.heap.IsTuple a its.toArray := p
    have nae : e ≠ a := by
      rintro rfl
      obtain ⟨o, h1, h2, _⟩ := p
      have he2 : s.heap.get? e = some _ := he
      rw [h1] at he2
      have e3 := congrArg Obj.cls (Option.some.inj he2)
      rw [h2] at e3
      injection e3 with e4
      exact absurd e4 (by decide)
    have nai : a ≠ it := by
      rintro rfl
      obtain ⟨o, h1, h2, _⟩ := p
      obtain ⟨o', h1', h2', _⟩ := hit
      rw [h1] at h1'
      cases h1'
      rw [h2] at h2'
      injection h2' with e4
      exact absurd e4 (by decide)
    have D : Draws X.prog X.w X.A.in1 it [it, a] its.toArray.size (fun i v => its.toArray[i]? = some v) (fun i h => h.IsTupleIter it a i ∧ h.IsTuple a its.toArray) :=
      Draws.tuple (show X.A.in1.handled = none from I.ok.hd hc) it a nai its.toArray
    have hlt : i < its.toArray.size := by
      have := (List.getElem?_eq_some_iff.mp hu).1
      simpa using this
    have hel : e < s.heap.objs.size := Heap.lt_size he
    have hil : it < s.heap.objs.size := by
      obtain ⟨_, q, _⟩ := hit
      exact Heap.lt_size q
    refine wpAny_pyNext_enum_itemD D he ⟨hit, hT0⟩ hlt hne (by simp [hne, nae]) fun y h' tk hy ho hst' hT hsz hk => ?_
    have ey : y = u := by
      have h1 : its[i]? = some y := by simpa using hy
      rw [hu] at h1
      exact (Option.some.inj h1).symm
    subst ey
    refine ⟨_, rfl, wpAny_letOwnedTupleGo_enum (s := { s with heap := h', toks := tk + 1 }) ho fun h'' he' sb => ?_⟩
    have hT2 : h''.get? s.heap.objs.size = some { cls := .type "tuple", data := .seq #[.int i tk, y] } := (sb.2 _ (Nat.ne_of_gt hel)).trans hT
    have new : ObjOk X.prog X.w (upd H s.heap.objs.size (.tup [.int (i : Nat), x])) h'' s.heap.objs.size (.tup [.int (i : Nat), x]) :=
      ⟨by show 2 ≤ sizeLine; decide, [.int i tk, y], .cons ⟨_, rfl⟩ (.cons ru .nil), ⟨_, hT2, rfl, _, rfl⟩⟩
    have I1 : Inv X pins σ (upd H s.heap.objs.size (.tup [.int (i : Nat), x])) { s with heap := h'', toks := tk + 1 } :=
      I.turnedNew (ch := [e, it]) (fun b ob hb q => (sb.2 b (fun z => hb (by simp [z]))).trans (hk b ob (fun z => hb (by simp [z])) (fun z => hb (by simp [z])) q)) hf (Nat.le_refl _) new
    refine ⟨.ref s.heap.objs.size, _, I1, rfl, ⟨_, x, rfl, I.hok.fresh (Nat.le_refl _), rfl, fun ys hy => by rw [I.tuple_inj hy hq]; exact hx⟩,
      ⟨⟨y, ?_⟩, hst'.1.at fun o q => (sb.2 it (Ne.symm hne)).trans q, hne⟩, fun b hb => ?_⟩
    · have e1 : ((i + 1 : Nat) : Int) = (i : Int) + 1 := by omega
      rw [e1]
      exact he'
    · have hb' : b < s.heap.objs.size := by
        rcases (show b = e ∨ b = it by simpa using hb) with rfl | rfl
        · exact hel
        · exact hil
      rw [upd_ne (Nat.ne_of_lt hb')]
      exact (hf b hb).1
  done := by
    intro X hP hw hK hc i pins s σ H E I hf st hg
    subst hP hw hK
    obtain ⟨⟨old, he⟩, hit, hne⟩ := st
    obtain ⟨xs, hq, hx⟩ := hg
    obtain ⟨its, rv, p, hz⟩ := I.tuple hq
    have hT0 : s.heap.IsTuple a its.toArray := p
    have nai : a ≠ it := by
      rintro rfl
      obtain ⟨o, h1, h2, _⟩ := p
      obtain ⟨o', h1', h2', _⟩ := hit
      rw [h1] at h1'
      cases h1'
      rw [h2] at h2'
      injection h2' with e4
      exact absurd e4 (by decide)
    have D : Draws X.prog X.w X.A.in1 it [it, a] its.toArray.size (fun i v => its.toArray[i]? = some v) (fun i h => h.IsTupleIter it a i ∧ h.IsTuple a its.toArray) :=
      Draws.tuple (show X.A.in1.handled = none from I.ok.hd hc) it a nai its.toArray
    obtain ⟨f0, f1, f2, f3, f4, f5⟩ := hf it (by simp)
    have hl : its.toArray.size = i := by
      rw [List.size_toArray, ← rv.length, hx]
    subst hl
    exact wpAny_pyNext_enum_endD D he ⟨hit, hT0⟩ fun h' eb => ⟨rfl, I.turned (t' := s.toks) (fun b o hb q => eb b o hb q) f0 f1 f3 f4 f5⟩
  self := fun A i s Q E st h => let ⟨⟨_, he⟩, _⟩ := st; wpAny_pyIter_enum he h
def iEnumT (K : PySem.W.Frag) (ta : TA) : TI := fun σ H R => ta σ H fun vs H1 => ∃ a xs, vs = [.ref a] ∧ SqT K H1 a xs ∧ R (ItT K a) H1
theorem pi_enumT {X : Cx} {e : Expr} {ta : TA} {p pos tpos : Pos} {elts : List Expr} {kk : Nat} (hg : Gl X "enumerate") (hm : X.mg "enumerate" = none) (ha : PA X [e] ta)
    (hs : starEach [e] X.env = [(false, eval e X.env)] := by rfl) : PI X (.Tuple elts kk tpos) (.Call (.Name "enumerate" p) [e] [] pos) (iEnumT X.K ta) := by
  refine ⟨fun pins s σ H R I h => Call_ (ld_blt I hg hm PyProof.Rows.boot_enumerate (callWith_type1 (thn (ha.run pos pins s σ H _ I h) fun us s1 z => ?_) hs rfl))⟩
  obtain ⟨vs, H1, I1, r1, a, xs, rfl, hq, q⟩ := z
  obtain rfl := Vals.ref1 r1
  obtain ⟨its, rv, p', hz⟩ := I1.tuple hq
  refine call_enumT (show s1.heap.IsTuple a its.toArray from p') fun h' he hit hk => wpAny_pyIter_enum he ?_
  have I2 : Inv X pins σ H1 { s1 with heap := h' } := I1.kept (t' := s1.toks) hk
  refine ⟨s1.heap.objs.size + 1, [s1.heap.objs.size + 1, s1.heap.objs.size], _, _, H1, rfl, I2, turn_enumT a (s1.heap.objs.size + 1) s1.heap.objs.size, ⟨⟨.none, he⟩, hit, Nat.succ_ne_self _⟩, fun b hb => ?_, q⟩
  have hle : s1.heap.objs.size ≤ b := by
    rcases (show b = s1.heap.objs.size + 1 ∨ b = s1.heap.objs.size by simpa using hb) with rfl | rfl
    · exact Nat.le_add_right _ _
    · exact Nat.le_refl _
  exact I1.fpOk hle (I1.hok.fresh hle)
/-! ### methods, properties and making, bundled -/
def MthC (P : Program) (w : World) (K : PySem.W.Frag) (mg : Str → Option Value) (base : Heap) (C : Addr) (m : Str) (k : Nat) (ps : List Str) (sp : Sp) : Prop :=
  ∃ (f : Addr) (fd : FuncData), FnOk P w K mg base CX0 k f fd ps sp ∧ Meth K C m f ∧ Binds K fd ps [] ∧ Cls K C
def MthK (P : Program) (w : World) (K : PySem.W.Frag) (mg : Str → Option Value) (base : Heap) (C : Addr) (m : Str) (k : Nat) (ps ks : List Str) (gV : List V → List V → List V) (sp : Sp) : Prop :=
  ∃ (f : Addr) (fd : FuncData) (g : List Value → List Value → List Value), FnOk P w K mg base CX0 k f fd ps sp ∧ Meth K C m f ∧ KBn K fd ps 1 ks g gV ∧ Cls K C
def PrpC (P : Program) (w : World) (K : PySem.W.Frag) (mg : Str → Option Value) (base : Heap) (C : Addr) (m : Str) (k : Nat) (sp : Sp) : Prop :=
  ∃ (p g : Addr) (fd : FuncData), FnOk P w K mg base CX0 k g fd ["self"] sp ∧ PropOf K C m p g ∧ Binds K fd ["self"] [] ∧ Cls K C
def MakC (P : Program) (w : World) (K : PySem.W.Frag) (mg : Str → Option Value) (base : Heap) (C : Addr) (x : Str) (k : Nat) (ps : List Str) (sp : Sp) : Prop :=
  ∃ (f : Addr) (fd : FuncData), FnOk P w K mg base CX0 k f fd ps sp ∧ Mk K C f ∧ mg x = some (.ref C) ∧ Binds K fd ps []
def MakK (P : Program) (w : World) (K : PySem.W.Frag) (mg : Str → Option Value) (base : Heap) (C : Addr) (x : Str) (k : Nat) (ps ks : List Str) (gV : List V → List V → List V) (sp : Sp) : Prop :=
  ∃ (f : Addr) (fd : FuncData) (g : List Value → List Value → List Value), FnOk P w K mg base CX0 k f fd ps sp ∧ Mk K C f ∧ mg x = some (.ref C) ∧ KBn K fd ps 1 ks g gV
def EqC (P : Program) (w : World) (K : PySem.W.Frag) (mg : Str → Option Value) (base : Heap) (C : Addr) (k : Nat) (sp : Sp) : Prop :=
  ∃ (f : Addr) (fd : FuncData), FnOk P w K mg base CX0 k f fd ["self", "other"] sp ∧ PySem.W.findIn K (.ref C) "__eq__" = some (some (.ref f)) ∧ PySem.W.isFn K (.ref f) = true ∧ Binds K fd ["self", "other"] [] ∧
    PySem.W.findIn K (.ref C) "__ne__" = some (some (.builtin "object.__ne__")) ∧ PySem.W.mroIn K C (.type "object") = some true
def RepC (P : Program) (w : World) (K : PySem.W.Frag) (mg : Str → Option Value) (base : Heap) (C : Addr) (k : Nat) (sp : Sp) : Prop :=
  ∃ (f : Addr) (fd : FuncData), GnOk P w K mg base k f fd ["self"] sp ∧ PySem.W.findIn K (.ref C) "__repr__" = some (some (.ref f)) ∧ PySem.W.isFn K (.ref f) = true ∧ Binds K fd ["self"] []
section
variable {X : Cx} {C : Addr} {m x : Str} {k : Nat} {ps ks : List Str} {sp : Sp} {e o : Expr} {es : List Expr} {kws : List Keyword} {ta : TE} {t tk : TA} {p pos apos : Pos} {gV : List V → List V → List V}
theorem pe_propC (PC : PrpC X.prog X.w X.K X.mg X.base C m k sp) (hr : Room (k + 1) X.A) (he : PE X e ta) (hab : attributeBase e m X.env (eval e X.env) = eval e X.env) : PE X (.Attribute e m pos) (tProp C sp [] E0 ta) := by
  obtain ⟨p, g, fd, F, hp, b, c⟩ := PC
  exact pe_prop he c hp F hr b .nil pass0 hab
theorem pe_meth0C {pl : Sem Bool} (M : MthC X.prog X.w X.K X.mg X.base C m k ps sp) (hr : Room k X.A) (he : PE X o ta)
    (ht : eval (.Call (.Attribute o m apos) [] [] pos) X.env = (do
      let ov ← eval o X.env
      standAt apos.atName
      let (f, first) ← holding [ov] (getMethod ov m pl)
      callWith pos f first (backTo pos (starEach [] X.env)) (backToKw pos (keywordEach [] X.env))) := by rfl) :
    PE X (.Call (.Attribute o m apos) [] [] pos) (tMeth C m sp [] E0 ta tNil) := by
  obtain ⟨f, fd, F, hm, b, c⟩ := M
  exact pe_meth0 he c hm F hr b .nil pass0 ht
theorem pe_methC {pl : Sem Bool} (M : MthC X.prog X.w X.K X.mg X.base C m k ps sp) (hr : Room k X.A) (he : PE X o ta) (ha : PA X (e :: es) t)
    (hst : starEach (e :: es) X.env = (false, eval e X.env) :: starEach es X.env := by rfl) (hpl : (backTo pos (starEach es X.env)).any (·.1) = false := by rfl)
    (ht : eval (.Call (.Attribute o m apos) (e :: es) [] pos) X.env = (do
      let ov ← eval o X.env
      standAt apos.atName
      let (f, first) ← holding [ov] (getMethod ov m pl)
      callWith pos f first (backTo pos (starEach (e :: es) X.env)) (backToKw pos (keywordEach [] X.env))) := by rfl) :
    PE X (.Call (.Attribute o m apos) (e :: es) [] pos) (tMeth C m sp [] E0 ta t) := by
  obtain ⟨f, fd, F, hm, b, c⟩ := M
  exact pe_meth he c hm F hr b .nil pass0 ha hst hpl ht
/-- o.m(k = v, ..) -/
def tMethKw (C : Addr) (m : Str) (n : Nat) (sp : Sp) (gV : List V → List V → List V) (ta : TE) (tk : TA) : TE := fun σ H Q => ta σ H fun x H1 => ∃ a dx fs, x = .ref a ∧ H1 a = some (.ins C dx fs) ∧ fs.lookup m = none ∧
  tk σ H1 fun zs H2 => zs.length = n ∧ sp (gV [.ref a] zs) H2 Q E0
theorem pe_methKC {pl : Sem Bool} (M : MthK X.prog X.w X.K X.mg X.base C m k ps ks gV sp) (hr : Room k X.A) (he : PE X o ta) (hkw : PK X kws tk)
    (hall : (backToKw pos (keywordEach kws X.env)).all (·.1.isSome) = true := by rfl) (hks : (backToKw pos (keywordEach kws X.env)).filterMap (·.1) = ks := by rfl)
    (hpl : ((backTo pos (starEach [] X.env)).any (·.1) || (backToKw pos (keywordEach kws X.env)).any (·.1.isNone)) = false := by rfl)
    (ht : eval (.Call (.Attribute o m apos) [] kws pos) X.env = (do
      let ov ← eval o X.env
      standAt apos.atName
      let (f, first) ← holding [ov] (getMethod ov m pl)
      callWith pos f first (backTo pos (starEach [] X.env)) (backToKw pos (keywordEach kws X.env))) := by rfl) :
    PE X (.Call (.Attribute o m apos) [] kws pos) (tMethKw C m ks.length sp gV ta tk) := by
  obtain ⟨f, fd, g, F, hm, b, c⟩ := M
  refine ⟨fun pins s σ H Q I h => PySem.W.methodCall_KW (pl := pl) (thn (he.run pins s σ H _ I h) fun u s1 z => ?_) ht⟩
  obtain ⟨x, H1, I1, rx, a, dx, fs, rfl, ea, l, q⟩ := z
  obtain rfl : u = Value.ref a := rx
  refine getmeth_ok I1 ea c hm l ?_
  refine PySem.W.callWith_KW0 (first := [.ref a]) (h₀ := X.base) I.ok.mod.kin hm.kp hall ?_ hpl
  refine thn (hkw.run pos pins s1 σ H1 _ I1 q) fun ws s2 ⟨zs, H2, I2, rz, l2, q2⟩ => ⟨I2.kIn, ?_⟩
  rw [hks]
  exact run_fnN (us := [.ref a]) (vs := [.ref a]) F hr b pass0 I2 (.cons rfl .nil) rz rfl l2 q2
theorem pe_mkC (M : MakC X.prog X.w X.K X.mg X.base C x k ps sp) (hr : Room (k + 1) X.A) (hg : Gl X x) (ha : PA X (e :: es) t) (hdb : (x == ("__debug__" : Str)) = false := by decide)
    (he : starEach (e :: es) X.env = (false, eval e X.env) :: starEach es X.env := by rfl) (hpl : (backTo pos (starEach es X.env)).any (·.1) = false := by rfl) :
    PE X (.Call (.Name x p) (e :: es) [] pos) (tMake C sp [] E0 t) := by
  obtain ⟨f, fd, F, mk, gm, b⟩ := M
  exact pe_make mk F hr hg gm b .nil pass0 ha hdb he hpl
theorem pe_mkKC (M : MakK X.prog X.w X.K X.mg X.base C x k ps ks gV sp) (hr : Room (k + 1) X.A) (hg : Gl X x) (hkw : PK X kws tk) (hall : (backToKw pos (keywordEach kws X.env)).all (·.1.isSome) = true := by rfl)
    (hks : (backToKw pos (keywordEach kws X.env)).filterMap (·.1) = ks := by rfl) (hdb : (x == ("__debug__" : Str)) = false := by decide)
    (hpl : ((backTo pos (starEach [] X.env)).any (·.1) || (backToKw pos (keywordEach kws X.env)).any (·.1.isNone)) = false := by rfl) :
    PE X (.Call (.Name x p) [] kws pos) (tMakeK C 0 ks.length sp gV E0 tNil tk) := by
  obtain ⟨f, fd, g, F, mk, gm, b⟩ := M
  exact pe_makeK0 mk F hr hg gm b pass0 hkw hall hks hdb hpl
theorem op_eqO (Ec : EqC X.prog X.w X.K X.mg X.base C k sp) (hr : Room (k + 1) X.A) : OpR X (compareOp .Eq) (rOwn X C sp false) := by
  obtain ⟨f, fd, F, hs, hf, b, _, _⟩ := Ec
  exact op_eqI F (hr.mono (Nat.le_succ k)) hs hf b
theorem op_neO (Ec : EqC X.prog X.w X.K X.mg X.base C k sp) (hr : Room (k + 1) X.A) : OpR X (compareOp .NotEq) (rOwn X C sp true) := by
  obtain ⟨f, fd, F, hs, hf, b, hn, ho⟩ := Ec
  exact op_neI F hr hn ho hs hf b
theorem pe_reprC (Rc : RepC X.prog X.w X.K X.mg X.base C k sp) (hg : X.A.guards = some []) (hr : Room (k + 1) X.A) (hgl : Gl X "repr") (hm : X.mg "repr" = none) (ha : PA X (e :: es) t)
    (he : starEach (e :: es) X.env = (false, eval e X.env) :: starEach es X.env := by rfl) (hpl : (backTo pos (starEach es X.env)).any (·.1) = false := by rfl) :
    PE X (.Call (.Name "repr" p) (e :: es) [] pos) (tCB (rReprI C sp) t) := by
  obtain ⟨f, fd, F, hs, hf, b⟩ := Rc
  exact pe_callB (call_reprI F hg hr hs hf b) hgl hm (by decide +kernel) ha (by decide) (by decide) he hpl
end
end Vf

set_option Elab.async false
set_option linter.all false
set_option maxRecDepth 100000
set_option maxHeartbeats 4000000
set_option pp.maxSteps 300
namespace K12
open PySem PySem.Spec PyProof.Rows L2 Vf
abbrev topS (i : Nat) : Stmt := PySem.Challenge.pw_owncontraries_k12_whole_rooms_made.main.body.getD i (.Pass ⟨0, 0, 0, 0⟩)
abbrev s_is_integer : Stmt := topS 1
abbrev N_is_integer : List Str := ["value"]
theorem sc_is_integer : FnScope N_is_integer ["value"] (defScope s_is_integer) := ⟨rfl, rfl, rfl, by decide +kernel, rfl, by decide +kernel, by decide +kernel⟩
abbrev s_is_count : Stmt := topS 2
abbrev N_is_count : List Str := ["value"]
theorem sc_is_count : FnScope N_is_count ["value"] (defScope s_is_count) := ⟨rfl, rfl, rfl, by decide +kernel, rfl, by decide +kernel, by decide +kernel⟩
abbrev s_is_list : Stmt := topS 3
abbrev N_is_list : List Str := ["value"]
theorem sc_is_list : FnScope N_is_list ["value"] (defScope s_is_list) := ⟨rfl, rfl, rfl, by decide +kernel, rfl, by decide +kernel, by decide +kernel⟩
abbrev s_is_places : Stmt := topS 13
abbrev N_is_places : List Str := ["value"]
theorem sc_is_places : FnScope N_is_places ["value"] (defScope s_is_places) := ⟨rfl, rfl, rfl, by decide +kernel, rfl, by decide +kernel, by decide +kernel⟩
abbrev s_check_places : Stmt := topS 14
abbrev N_check_places : List Str := ["places"]
theorem sc_check_places : FnScope N_check_places ["places"] (defScope s_check_places) := ⟨rfl, rfl, rfl, by decide +kernel, rfl, by decide +kernel, by decide +kernel⟩
abbrev s_is_word : Stmt := topS 15
abbrev N_is_word : List Str := ["places", "value"]
theorem sc_is_word : FnScope N_is_word ["places", "value"] (defScope s_is_word) := ⟨rfl, rfl, rfl, by decide +kernel, rfl, by decide +kernel, by decide +kernel⟩
abbrev s_check_word : Stmt := topS 16
abbrev N_check_word : List Str := ["word", "places"]
theorem sc_check_word : FnScope N_check_word ["word", "places"] (defScope s_check_word) := ⟨rfl, rfl, rfl, by decide +kernel, rfl, by decide +kernel, by decide +kernel⟩
abbrev s_highest : Stmt := topS 20
abbrev N_highest : List Str := ["word"]
theorem sc_highest : FnScope N_highest ["word"] (defScope s_highest) := ⟨rfl, rfl, rfl, by decide +kernel, rfl, by decide +kernel, by decide +kernel⟩
abbrev s_rest_of : Stmt := topS 21
abbrev N_rest_of : List Str := ["word", "basis", "rest", "base"]
theorem sc_rest_of : FnScope N_rest_of ["word", "basis"] (defScope s_rest_of) := ⟨rfl, rfl, rfl, by decide +kernel, rfl, by decide +kernel, by decide +kernel⟩
abbrev s_put_in : Stmt := topS 22
abbrev N_put_in : List Str := ["rest", "basis", "top", "cleared", "base"]
theorem sc_put_in : FnScope N_put_in ["rest", "basis"] (defScope s_put_in) := ⟨rfl, rfl, rfl, by decide +kernel, rfl, by decide +kernel, by decide +kernel⟩
abbrev s_plain_basis : Stmt := topS 23
abbrev N_plain_basis : List Str := ["words", "basis", "word", "rest"]
theorem sc_plain_basis : FnScope N_plain_basis ["words"] (defScope s_plain_basis) := ⟨rfl, rfl, rfl, by decide +kernel, rfl, by decide +kernel, by decide +kernel⟩
abbrev s_sums_of : Stmt := topS 24
abbrev N_sums_of : List Str := ["basis", "sums", "base", "word"]
theorem sc_sums_of : FnScope N_sums_of ["basis"] (defScope s_sums_of) := ⟨rfl, rfl, rfl, by decide +kernel, rfl, by decide +kernel, by decide +kernel⟩
abbrev s_check_words : Stmt := topS 25
abbrev N_check_words : List Str := ["places", "words", "position", "word"]
theorem sc_check_words : FnScope N_check_words ["places", "words"] (defScope s_check_words) := ⟨rfl, rfl, rfl, by decide +kernel, rfl, by decide +kernel, by decide +kernel⟩
section
variable {P : Program} {w : World} {K : PySem.W.Frag} {mg : Str → Option Value} {base : Heap}
/-! ### basics -/
def sp_is_integer : Sp := fun vs H Q _ => ∃ i : Int, vs = [.int i] ∧ Q (.bl true) H
theorem ok_is_integer {f : Addr} {fd : FuncData} (F : Fun K "is_integer" "is_integer" s_is_integer f fd) (m_isinstance : mg "isinstance" = none) (m_int : mg "int" = none) (m_bool : mg "bool" = none) :
    FnOk P w K mg base CX0 1 f fd ["value"] sp_is_integer := by
  refine F.ok sc_is_integer (fun vs H Q E h => ?_) (fun cdv A outer s H vs Q E hr h => ?_)
  · obtain ⟨i, rfl, _⟩ := h
    rfl
  · obtain ⟨i, rfl, q⟩ := h
    refine ⟨_, (pss_one (ps_ret (pe_and (pe_callB call_isi (by rfl) m_isinstance (by decide +kernel) (pa_cons (pv 0) (pa_cons (pe_bltn (v := .ty "int") (by rfl) m_int (by decide +kernel) rfl) pa_nil))) (pe_one (pe_not (pe_callB call_isi (by rfl) m_isinstance (by decide +kernel) (pa_cons (pv 0) (pa_cons (pe_bltn (v := .ty "bool") (by rfl) m_bool (by decide +kernel) rfl) pa_nil)))))))), ?_⟩
    refine ⟨.int i, rfl, .int i, .ty "int", .type "int", .type "int", true, rfl, .ty _, .base (.int i), kit_ty (by decide +kernel), true, rfl, iteT ?_⟩
    exact ⟨.int i, rfl, .int i, .ty "bool", .type "int", .type "bool", false, rfl, .ty _, .base (.int i), kit_ty (by decide +kernel), false, rfl, q⟩
def sp_is_count : Sp := fun vs H Q _ => ∃ i : Int, vs = [.int i] ∧ Q (.bl (decide (0 ≤ i))) H
theorem ok_is_count {f : Addr} {fd : FuncData} (F : Fun K "is_count" "is_count" s_is_count f fd) (C_is_integer : Cal P w K mg base "is_integer" 1 ["value"] [] sp_is_integer) :
    FnOk P w K mg base CX0 2 f fd ["value"] sp_is_count := by
  refine F.ok sc_is_count (fun vs H Q E h => ?_) (fun cdv A outer s H vs Q E hr h => ?_)
  · obtain ⟨i, rfl, _⟩ := h
    rfl
  · obtain ⟨i, rfl, q⟩ := h
    refine ⟨_, (pss_one (ps_ret (pe_and (pe_cal C_is_integer (hr.mono (by decide)) (by rfl) (pa_cons (pv 0) pa_nil)) (pe_one (pe_cmpR op_ge (pv 0) pe_int (nomark _)))))), ?_⟩
    refine ⟨.int i, rfl, i, rfl, true, rfl, iteT ?_⟩
    exact ⟨.int i, rfl, i, 0, rfl, rfl, q⟩
/-- a list or a tuple stands there -/
def Sq (H : Hp) (a : Addr) (xs : List V) : Prop := H a = some (.lst xs) ∨ H a = some (.tup xs)
theorem Sq.same {H H' : Hp} {a : Addr} {xs : List V} (s : Same H H') (h : Sq H a xs) : Sq H' a xs := h.imp (s _ _) (s _ _)
def sp_is_list : Sp := fun vs H Q _ => ∃ (a : Addr) (xs : List V), vs = [.ref a] ∧ Sq H a xs ∧ ∀ H', Same H H' → Q (.bl true) H'
theorem ok_is_list {f : Addr} {fd : FuncData} (F : Fun K "is_list" "is_list" s_is_list f fd) (m_isinstance : mg "isinstance" = none) (m_list : mg "list" = none) (m_tuple : mg "tuple" = none) :
    FnOk P w K mg base CX0 1 f fd ["value"] sp_is_list := by
  refine F.ok sc_is_list (fun vs H Q E h => ?_) (fun cdv A outer s H vs Q E hr h => ?_)
  · obtain ⟨a, xs, rfl, _⟩ := h
    rfl
  · obtain ⟨a, xs, rfl, hS, q⟩ := h
    refine ⟨_, (pss_one (ps_ret (pe_callB call_isiT (by rfl) m_isinstance (by decide +kernel) (pa_cons (pv 0) (pa_cons (pe_tup (pa_cons (pe_bltn (v := .ty "list") (by rfl) m_list (by decide +kernel) rfl) (pa_cons (pe_bltn (v := .ty "tuple") (by rfl) m_tuple (by decide +kernel) rfl) pa_nil))) pa_nil))))), ?_⟩
    refine ⟨.ref a, rfl, by show 2 ≤ sizeLine; decide, fun t ht => ?_⟩
    have s1 : Same H (upd H t (.tup [.ty "list", .ty "tuple"])) := same_new ht
    rcases hS.same s1 with h1 | h1
    · exact ⟨.ref a, t, [.ty "list", .ty "tuple"], .type "list", [.type "list", .type "tuple"], true, rfl, upd_same, .cons (.ty _) (.cons (.ty _) .nil), .base (.lst h1),
        kitAny_cons (b := true) (kit_ty (by decide +kernel)) (fun z => by cases z) (fun _ => rfl), q _ s1⟩
    · exact ⟨.ref a, t, [.ty "list", .ty "tuple"], .type "tuple", [.type "list", .type "tuple"], true, rfl, upd_same, .cons (.ty _) (.cons (.ty _) .nil), .base (.tup h1),
        kitAny_cons (b := false) (kit_ty (by decide +kernel)) (fun _ => kitAny_cons (b := true) (kit_ty (by decide +kernel)) (fun z => by cases z) (fun _ => rfl)) (fun z => by cases z), q _ s1⟩
/-! ### words -/
def sp_check_places : Sp := fun vs H Q _ => ∃ n : Nat, vs = [.int n] ∧ 1 ≤ n ∧ n ≤ 24 ∧ Q .non H
def sp_is_places : Sp := fun vs H Q _ => ∃ n : Nat, vs = [.int n] ∧ 1 ≤ n ∧ n ≤ 24 ∧ Q (.bl true) H
theorem ok_is_places {f : Addr} {fd : FuncData} (F : Fun K "is_places" "is_places" s_is_places f fd) (C_is_integer : Cal P w K mg base "is_integer" 1 ["value"] [] sp_is_integer)
    {t : Tok} (g_MOST_PLACES : mg "MOST_PLACES" = some (.int 24 t)) : FnOk P w K mg base CX0 2 f fd ["value"] sp_is_places := by
  refine F.ok sc_is_places (fun vs H Q E h => ?_) (fun cdv A outer s H vs Q E hr h => ?_)
  · obtain ⟨i, rfl, _⟩ := h
    rfl
  · obtain ⟨n, rfl, h1, h2, q⟩ := h
    refine ⟨_, (pss_one (ps_ret (pe_and (pe_cal C_is_integer (hr.mono (by decide)) (by rfl) (pa_cons (pv 0) pa_nil)) (pe_one (pe_chain op_le op_le pe_int (pv 0) (pe_glob (v := .int 24) rfl g_MOST_PLACES ⟨_, rfl⟩)))))), ?_⟩
    refine ⟨.int n, rfl, n, rfl, true, rfl, iteT ?_⟩
    refine ⟨.int n, rfl, 1, n, rfl, rfl, true, bl_t (show (1 : Int) ≤ (n : Int) by omega), iteT ?_⟩
    refine ⟨n, 24, rfl, rfl, ?_⟩
    show Q (V.bl (decide ((n : Int) ≤ 24))) H
    rw [show decide ((n : Int) ≤ 24) = true from decide_eq_true (by omega)]
    exact q
theorem ok_check_places {f : Addr} {fd : FuncData} (F : Fun K "check_places" "check_places" s_check_places f fd) (C_is_places : Cal P w K mg base "is_places" 2 ["value"] [] sp_is_places) :
    FnOk P w K mg base CX0 3 f fd ["places"] sp_check_places := by
  refine F.ok sc_check_places (fun vs H Q E h => ?_) (fun cdv A outer s H vs Q E hr h => ?_)
  · obtain ⟨i, rfl, _⟩ := h
    rfl
  · obtain ⟨n, rfl, h1, h2, q⟩ := h
    refine ⟨_, (pss_one (ps_if (pt_not (pt_val (pe_cal C_is_places (hr.mono (by decide)) (by rfl) (pa_cons (pv 0) pa_nil)))) (pss_one ps_never) pss_nil)), ?_⟩
    exact ⟨.int n, rfl, n, rfl, h1, h2, true, rfl, iteF q⟩
def sp_is_word : Sp := fun vs H Q _ => ∃ n m : Nat, vs = [.int n, .int m] ∧ 1 ≤ n ∧ n ≤ 24 ∧ Q (.bl (decide (m < 2 ^ n))) H
theorem ok_is_word {f : Addr} {fd : FuncData} (F : Fun K "is_word" "is_word" s_is_word f fd) (C_check_places : Cal P w K mg base "check_places" 3 ["places"] [] sp_check_places) (C_is_count : Cal P w K mg base "is_count" 2 ["value"] [] sp_is_count) :
    FnOk P w K mg base CX0 4 f fd ["places", "value"] sp_is_word := by
  refine F.ok sc_is_word (fun vs H Q E h => ?_) (fun cdv A outer s H vs Q E hr h => ?_)
  · obtain ⟨i, j, rfl, _⟩ := h
    rfl
  · obtain ⟨n, m, rfl, h1, h2, q⟩ := h
    refine ⟨_, (pss_cons (ps_expr (pe_cal C_check_places (hr.mono (by decide)) (by rfl) (pa_cons (pv 0) pa_nil)))
    (pss_one (ps_ret (pe_and (pe_cal C_is_count (hr.mono (by decide)) (by rfl) (pa_cons (pv 1) pa_nil)) (pe_one (pe_cmpR op_lt (pv 1) (pe_op op_oneShl pe_int (pv 0)) (nomark _))))))), ?_⟩
    refine ⟨.int n, rfl, n, rfl, h1, h2, .int m, rfl, m, rfl, true, bl_t (show (0 : Int) ≤ (m : Int) by omega), iteT ?_⟩
    · refine ⟨.int m, rfl, .int n, rfl, n, rfl, rfl, by omega, m, 2 ^ n, rfl, rfl, ?_⟩
      have e : decide ((m : Int) < 2 ^ n) = decide (m < 2 ^ n) := by
        apply decide_eq_decide.mpr
        have e2 : (2 : Int) ^ n = ((2 ^ n : Nat) : Int) := by
          rw [Int.natCast_pow]
          rfl
        rw [e2]
        exact Int.ofNat_lt
      show Q (V.bl (decide ((m : Int) < 2 ^ n))) H
      rw [e]
      exact q
def sp_check_word : Sp := fun vs H Q _ => ∃ m n : Nat, vs = [.int m, .int n] ∧ 1 ≤ n ∧ n ≤ 24 ∧ m < 2 ^ n ∧ Q .non H
theorem ok_check_word {f : Addr} {fd : FuncData} {kws : List (Str × V)} (F : FunD K "check_word" "check_word" (defArgs s_check_word) (defBody s_check_word) (defScope s_check_word) [.int 24] kws f fd) (C_is_word : Cal P w K mg base "is_word" 4 ["places", "value"] [] sp_is_word) :
    FnOk P w K mg base CX0 5 f fd ["word", "places"] sp_check_word := by
  refine F.ok sc_check_word (fun vs H Q E h => ?_) (fun cdv A outer s H vs Q E hr h => ?_)
  · obtain ⟨i, j, rfl, _⟩ := h
    rfl
  · obtain ⟨m, n, rfl, n1, n2, h1, q⟩ := h
    refine ⟨_, (pss_one (ps_if (pt_not (pt_val (pe_cal C_is_word (hr.mono (by decide)) (by rfl) (pa_cons (pv 1) (pa_cons (pv 0) pa_nil))))) (pss_one ps_never) pss_nil)), ?_⟩
    exact ⟨.int n, rfl, .int m, rfl, n, m, rfl, n1, n2, true, bl_t h1, iteF q⟩
end
end K12

set_option Elab.async false
set_option linter.all false
set_option maxRecDepth 100000
set_option maxHeartbeats 4000000
set_option pp.maxSteps 300
namespace Vf
open PySem PySem.Spec PyProof.Rows L2
theorem get_vs {l : List Nat} {i : Nat} {x : V} (h : (vs l)[i]? = some x) : ∃ j, l[i]? = some j ∧ x = .int (j : Nat) := by
  unfold vs at h
  rw [List.getElem?_map] at h
  cases e : l[i]? with
  | none => rw [e] at h; cases h
  | some j => rw [e] at h; exact ⟨j, rfl, (Option.some.inj h).symm⟩
theorem len_vs (l : List Nat) : (vs l).length = l.length := by unfold vs; rw [List.length_map]
theorem yes_ {σ2 : L2.St} {H2 : Hp} {R : Bool → Hp → Prop} (h : R true H2) : tYes σ2 H2 R := h
theorem and_pow (r i : Nat) : decide (r &&& 2 ^ i ≠ 0) = r.testBit i := by
  cases h : r.testBit i
  · have e : r &&& 2 ^ i = 0 := by
      apply Nat.eq_of_testBit_eq
      intro j
      rw [Nat.testBit_and, Nat.testBit_two_pow, Nat.zero_testBit]
      by_cases k : i = j
      · subst k
        rw [h, Bool.false_and]
      · rw [decide_eq_false k, Bool.and_false]
    rw [e]
    rfl
  · have e : r &&& 2 ^ i ≠ 0 := fun z => by
      have t : (r &&& 2 ^ i).testBit i = true := by
        rw [Nat.testBit_and, Nat.testBit_two_pow, h, decide_eq_true rfl]
        rfl
      rw [z, Nat.zero_testBit] at t
      cases t
    exact decide_eq_true e
theorem vs_append (a b : List Nat) : vs (a ++ b) = vs a ++ vs b := by unfold vs; rw [List.map_append]
theorem vs_map (f : Nat → Nat) (a : List Nat) : vs (a.map f) = a.map fun x => V.int ((f x : Nat) : Int) := by unfold vs; rw [List.map_map]; rfl
/-- a sorted list of ints that stands for naturals -/
theorem back_vs {ns : List Int} {l : List Nat} (h : ns.Perm (l.map fun i : Nat => (i : Int))) : ∃ l2 : List Nat, ns = (l2.map fun i : Nat => (i : Int)) ∧ l2.Perm l := by
  have p := h.map V.int
  rw [← vs_int] at p
  obtain ⟨l2, e, p2⟩ := perm_vs p
  refine ⟨l2, ?_, p2⟩
  rw [vs_int] at e
  exact (List.map_inj_right (fun a b z => by injection z)).mp e
end Vf
namespace K12
open PySem PySem.Spec PyProof.Rows L2 Vf
section
variable {P : Program} {w : World} {K : PySem.W.Frag} {mg : Str → Option Value} {base : Heap}
def sp_highest : Sp := fun vs0 H Q _ => ∃ m : Nat, vs0 = [.int (m : Int)] ∧ m ≠ 0 ∧ m < 2 ^ 24 ∧ Q (.int ((2 ^ m.log2 : Nat) : Int)) H
theorem ok_highest {f : Addr} {fd : FuncData} (F : Fun K "highest" "highest" s_highest f fd) : FnOk P w K mg base CX0 1 f fd ["word"] sp_highest := by
  refine F.ok sc_highest (fun vs H Q E h => ?_) (fun cdv A outer s H vs Q E hr h => ?_)
  · obtain ⟨m, rfl, _⟩ := h
    rfl
  · obtain ⟨m, rfl, h0, h1, q⟩ := h
    have hl : m.log2 < 24 := (Nat.log2_lt h0).mpr h1
    have e : Builtin.Int.intBits (m : Int) = m.log2 + 1 := by
      unfold Builtin.Int.intBits
      rw [if_neg (by simpa using h0)]
      rfl
    refine ⟨_, (pss_one (ps_ret (pe_op op_pow2 pe_int (pe_op op_subN (pe_bits (pv 0)) pe_int)))), ?_⟩
    refine ⟨.int m, rfl, m, rfl, Builtin.Int.intBits (m : Int), 1, rfl, rfl, by omega, Builtin.Int.intBits (m : Int) - 1, rfl, rfl, by omega, ?_⟩
    rw [e, Nat.add_sub_cancel]
    exact q
def sp_rest_of : Sp := fun vs0 H Q _ => ∃ (v : Nat) (b : Addr) (B : List Nat), vs0 = [.int (v : Int), .ref b] ∧ H b = some (.lst (vs B)) ∧ (∀ c ∈ B, c ≠ 0 ∧ c < 2 ^ 24) ∧ Q (.int ((restOf v B : Nat) : Int)) H
theorem ok_rest_of {f : Addr} {fd : FuncData} (F : Fun K "rest_of" "rest_of" s_rest_of f fd) (C_highest : Cal P w K mg base "highest" 1 ["word"] [] sp_highest) : FnOk P w K mg base CX0 2 f fd ["word", "basis"] sp_rest_of := by
  refine F.ok sc_rest_of (fun vs H Q E h => ?_) (fun cdv A outer s H vs Q E hr h => ?_)
  · obtain ⟨v, b, B, rfl, _⟩ := h
    rfl
  · obtain ⟨v, b, B, rfl, eB, hB, q⟩ := h
    refine ⟨_, (pss_cons (ps_set (i := 2) sc_rest_of.nd rfl (Or.inl rfl) (pv 0))
    (pss_cons (ps_for PassesOwn.never rfl (pi_list (pv 1)) (pg_name (i := 3) sc_rest_of.nd rfl (Or.inl rfl))
      (pss_one (ps_if (pt_int (pe_op op_andN (pv 2) (pe_cal C_highest (hr.mono (by decide)) (by rfl) (pa_cons (pv 3) pa_nil))) (by intro _; rfl)) (pss_one (ps_set (i := 2) sc_rest_of.nd rfl (Or.inl rfl) (pe_op op_xorN (pv 2) (pv 3)))) pss_nil)))
    (pss_one (ps_ret (pv 2))))), ?_⟩
    refine ⟨.int v, rfl, .ref b, rfl, b, rfl, ⟨_, SqL.of eB⟩, ?_⟩
    refine for_list (K := K) (a := b) (xs := Vf.vs B) (fun i σ H' => ∃ z : Option V, σ = [some (.int v), some (.ref b), some (.int ((restOf v (B.take i) : Nat) : Int)), z] ∧ H' = H) ⟨none, rfl, rfl⟩
      (fun i σ H' _ hI => ?_) (fun i x σ H' hx hI => ?_) fun σ H' hI => ?_
    · obtain ⟨z, _, rfl⟩ := hI
      exact SqL.of eB
    · obtain ⟨z, rfl, rfl⟩ := hI
      obtain ⟨c, ec, rfl⟩ := get_vs hx
      obtain ⟨c0, c24⟩ := hB c (List.mem_of_getElem? ec)
      have key : restOf v (B.take (i + 1)) = rest1 (restOf v (B.take i)) c := by
        unfold restOf
        rw [List.take_add_one, ec, List.foldl_append]
        rfl
      refine ⟨_, rfl, .int c, rfl, c, rfl, c0, c24, restOf v (B.take i), 2 ^ c.log2, rfl, rfl, restOf v (B.take i) &&& 2 ^ c.log2, rfl, ?_⟩
      rw [and_pow]
      refine ite2 (fun hb => ?_) (fun hb => ?_)
      · refine ⟨_, rfl, .int c, rfl, restOf v (B.take i), c, rfl, rfl, some (.int c), ?_, rfl⟩
        rw [key]
        unfold rest1
        rw [if_pos hb]
        rfl
      · refine ⟨some (.int c), ?_, rfl⟩
        rw [key]
        unfold rest1
        rw [if_neg hb]
        rfl
    · obtain ⟨z, rfl, rfl⟩ := hI
      rw [len_vs, List.take_length]
      exact ⟨_, rfl, q⟩
def sp_put_in : Sp := fun vs0 H Q _ => ∃ (r : Nat) (b : Addr) (B : List Nat), vs0 = [.int (r : Int), .ref b] ∧ H b = some (.lst (vs B)) ∧ r ≠ 0 ∧ r < 2 ^ 24 ∧ B.length ≤ 1000 ∧
  ∀ (H' : Hp) (p : Addr) (D : List Nat), Same H H' → H p = none → H' p = some (.lst (vs D)) → D.Perm (B.map (clear1 r) ++ [r]) → D.Pairwise (· ≥ ·) → Q (.ref p) H'
theorem ok_put_in {f : Addr} {fd : FuncData} (F : Fun K "put_in" "put_in" s_put_in f fd) (C_highest : Cal P w K mg base "highest" 1 ["word"] [] sp_highest) (m_sorted : mg "sorted" = none) :
    FnOk P w K mg base CX0 2 f fd ["rest", "basis"] sp_put_in := by
  refine F.ok sc_put_in (fun vs H Q E h => ?_) (fun cdv A outer s H vs Q E hr h => ?_)
  · obtain ⟨v, b, B, rfl, _⟩ := h
    rfl
  · obtain ⟨r, b, B, rfl, eB, r0, r24, lB, q⟩ := h
    refine ⟨_, (pss_cons (ps_set (i := 2) sc_put_in.nd rfl (Or.inr rfl) (pe_cal C_highest (hr.mono (by decide)) (by rfl) (pa_cons (pv 0) pa_nil)))
    (pss_cons (ps_setLc (i := 3) (own := [("base", 4)]) (g := gName 4) (by rfl) sc_put_in.nd rfl rfl (sw_true rfl rfl rfl (by decide +kernel)) (pi_list (pv 1)) (blkOk_by (own := [("base", 4)]) (N := N_put_in) (sc := defScope s_put_in) (by decide +kernel)) (fun _ _ _ _ _ => pg_name (i := 4) sc_put_in.nd rfl (Or.inl rfl)) (fun _ _ _ _ _ => pts_nil) (fun _ _ _ _ _ => (pe_ifExp (pt_int (pe_op op_andN (pv 4) (pv 2)) (by intro _; rfl)) (pe_op op_xorN (pv 4) (pv 0)) (pv 4))))
    (pss_one (ps_ret (pe_callBK (cr_sortedRev (b := true)) (by rfl) m_sorted (by decide +kernel) (pa_cons (pe_op op_cat (pv 3) (pe_lst (pa_cons (pv 0) pa_nil))) pa_nil) (pk_cons pe_bl pk_nil)))))), ?_⟩
    refine ⟨.int r, rfl, r, rfl, r0, r24, .ref b, rfl, b, rfl, ⟨_, SqL.of eB⟩, fun D hD => ?_⟩
    refine lc_list (K := K) (a := b) (xs := Vf.vs B) (fun i H' => Same H H' ∧ H' D = some (.lst (Vf.vs ((B.take i).map (clear1 r))))) ⟨same_new hD, upd_same⟩
      (fun i H' _ hP => hP.1.seq (SqL.of eB)) (fun i x H' hx hP => ?_) fun H' hP => ?_
    · obtain ⟨sm, eD⟩ := hP
      obtain ⟨c, ec, rfl⟩ := get_vs hx
      have key : Vf.vs ((B.take (i + 1)).map (clear1 r)) = Vf.vs ((B.take i).map (clear1 r)) ++ [V.int ((clear1 r c : Nat) : Int)] := by
        rw [List.take_add_one, ec, List.map_append, vs_append]
        rfl
      have lz : (Vf.vs ((B.take i).map (clear1 r))).length < sizeLine := by
        rw [len_vs, List.length_map, List.length_take]
        exact sl_lt (by omega)
      have fin : Same H (upd H' D (.lst (Vf.vs ((B.take i).map (clear1 r)) ++ [V.int ((clear1 r c : Nat) : Int)]))) ∧ (upd H' D (.lst (Vf.vs ((B.take i).map (clear1 r)) ++ [V.int ((clear1 r c : Nat) : Int)]))) D = some (.lst (Vf.vs ((B.take (i + 1)).map (clear1 r)))) := by
        refine ⟨fun a o e => ?_, ?_⟩
        · rw [upd_ne (ne_of_none e hD)]
          exact sm a o e
        · rw [upd_same, key]
      refine ⟨rfl, yes_ ?_⟩
      refine iteT ?_
      refine ⟨.int c, rfl, .int ((2 ^ r.log2 : Nat) : Int), rfl, c, 2 ^ r.log2, rfl, rfl, c &&& 2 ^ r.log2, rfl, ?_⟩
      rw [and_pow]
      refine ite2 (fun hb => ?_) (fun hb => ?_)
      · refine ⟨.int c, rfl, .int r, rfl, c, r, rfl, rfl, _, eD, lz, ?_⟩
        have e1 : clear1 r c = c ^^^ r := by
          unfold clear1
          rw [if_pos hb]
        rw [← e1]
        exact fin
      · refine ⟨.int c, rfl, _, eD, lz, ?_⟩
        have e1 : clear1 r c = c := by
          unfold clear1
          rw [if_neg hb]
        rw [e1] at fin
        exact fin
    · obtain ⟨sm, eD⟩ := hP
      rw [len_vs, List.take_length] at eD
      refine ⟨.ref D, rfl, .int r, rfl, Nat.succ_le_of_lt (sl_lt (by decide)), fun R1 nR1 => ?_⟩
      have s1 := same_new (o := .lst [V.int (r : Int)]) nR1
      refine ⟨D, R1, _, _, rfl, rfl, s1 _ _ eD, upd_same, ?_, fun R2 nR2 => ?_⟩
      · rw [len_vs, List.length_map]
        exact Nat.le_of_lt (sl_lt (by show B.length + 1 ≤ 100000; omega))
      · refine ⟨R2, ((B.map (clear1 r) ++ [r]).map fun i : Nat => (i : Int)), rfl, rfl, SqL.of ?_, fun ns' p pm od np => ?_⟩
        · rw [upd_same, ← vs_int, vs_append]
          rfl
        · obtain ⟨D2, rfl, p2⟩ := back_vs pm
          have s2 := sm.trans ((s1.trans (same_new (o := .lst (Vf.vs (B.map (clear1 r)) ++ [V.int (r : Int)])) nR2)).trans (same_new (o := .lst ((D2.map fun i : Nat => (i : Int)).map V.int)) np))
          refine q _ p D2 s2 ?_ ?_ p2 ?_
          · exact ((sm.trans s1).trans (same_new nR2)).free np
          · rw [upd_same, ← vs_int]
          · have o2 : (D2.map fun i : Nat => (i : Int)).Pairwise (· ≥ ·) := od
            rw [List.pairwise_map] at o2
            exact o2.imp fun h => by omega
def sp_sums_of : Sp := fun vs0 H Q _ => ∃ (b : Addr) (B : List Nat), vs0 = [.ref b] ∧ H b = some (.lst (vs B)) ∧ Piv B ∧ B.length ≤ 8 ∧
  ∀ (H' : Hp) (p : Addr) (L : List Nat), Same H H' → H p = none → H' p = some (.lst (vs L)) → L.Perm (sumsOf B) → L.Pairwise (· ≤ ·) → Q (.ref p) H'
theorem ok_sums_of {f : Addr} {fd : FuncData} (F : Fun K "sums_of" "sums_of" s_sums_of f fd) (m_sorted : mg "sorted" = none) : FnOk P w K mg base CX0 1 f fd ["basis"] sp_sums_of := by
  refine F.ok sc_sums_of (fun vs H Q E h => ?_) (fun cdv A outer s H vs Q E hr h => ?_)
  · obtain ⟨b, B, rfl, _⟩ := h
    rfl
  · obtain ⟨b, B, rfl, eB, pB, lB, q⟩ := h
    have lens : ∀ i, (sumsOf (B.take i)).length ≤ 256 := fun i => by
      have pB2 : Piv (B.take i) := ⟨pB.1.sublist (List.take_sublist _ _), fun c hc => pB.2 c (List.mem_of_mem_take hc)⟩
      rw [(sums_ok pB2).2.2]
      have h8 : (B.take i).length ≤ 8 := by
        rw [List.length_take]
        omega
      exact Nat.le_trans (Nat.pow_le_pow_right (by decide) h8) (by decide)
    refine ⟨_, (pss_cons (ps_set (i := 1) sc_sums_of.nd rfl (Or.inl rfl) (pe_lst (pa_cons pe_int pa_nil)))
    (pss_cons (ps_for PassesOwn.never rfl (pi_list (pv 0)) (pg_name (i := 2) sc_sums_of.nd rfl (Or.inr rfl))
      (pss_one (ps_set (i := 1) sc_sums_of.nd rfl (Or.inl rfl) (pe_op op_cat (pv 1) (pe_lc (own := [("word", 3)]) (g := gName 3) (by rfl) sc_sums_of.nd (pi_list (pv 1)) (blkOk_by (own := [("word", 3)]) (N := N_sums_of) (sc := defScope s_sums_of) (by decide +kernel)) (fun _ _ _ _ _ => pg_name (i := 3) sc_sums_of.nd rfl (Or.inl rfl)) (fun _ _ _ _ _ => pts_nil) (fun _ _ _ _ _ => (pe_op op_xorN (pv 3) (pv 2))))))))
    (pss_one (ps_ret (pe_callB cr_sortedI (by rfl) m_sorted (by decide +kernel) (pa_cons (pv 1) pa_nil)))))), ?_⟩
    refine ⟨Nat.succ_le_of_lt (sl_lt (by decide)), fun S0 nS0 => ⟨.ref b, rfl, b, rfl, ⟨_, SqL.of ((same_new nS0) _ _ eB)⟩, ?_⟩⟩
    refine for_list (K := K) (a := b) (xs := Vf.vs B) (fun i σ H' => ∃ (z z2 : Option V) (S : Addr), σ = [some (.ref b), some (.ref S), z, z2] ∧ Same H H' ∧ H S = none ∧ H' S = some (.lst (Vf.vs (sumsOf (B.take i))))) ⟨none, none, S0, rfl, same_new nS0, nS0, upd_same⟩
      (fun i σ H' _ hI => ?_) (fun i x σ H' hx hI => ?_) fun σ H' hI => ?_
    · obtain ⟨z, z2, S, _, sm, _⟩ := hI
      exact SqL.of (sm _ _ eB)
    · obtain ⟨z, z2, S, rfl, sm, nS, eS⟩ := hI
      obtain ⟨c, ec, rfl⟩ := get_vs hx
      have key : sumsOf (B.take (i + 1)) = sumsOf (B.take i) ++ (sumsOf (B.take i)).map (· ^^^ c) := by
        unfold sumsOf
        rw [List.take_add_one, ec, List.foldl_append]
        rfl
      have ln := lens i
      refine ⟨.ref S, rfl, .ref S, rfl, S, rfl, ⟨_, SqL.of eS⟩, fun D hD => ?_⟩
      refine lc_list (K := K) (a := S) (xs := Vf.vs (sumsOf (B.take i))) (fun j H2 => Same H' H2 ∧ H2 D = some (.lst (Vf.vs (((sumsOf (B.take i)).take j).map (· ^^^ c))))) ⟨same_new hD, upd_same⟩
        (fun j H2 _ hP => hP.1.seq (SqL.of eS)) (fun j x H2 hx hP => ?_) fun H2 hP => ?_
      · obtain ⟨sm2, eD⟩ := hP
        obtain ⟨u, eu, rfl⟩ := get_vs hx
        refine ⟨rfl, yes_ ?_⟩
        refine iteT ?_
        refine ⟨.int u, rfl, .int c, rfl, u, c, rfl, rfl, _, eD, ?_, fun a o e => ?_, ?_⟩
        · rw [len_vs, List.length_map, List.length_take]
          exact sl_lt (by omega)
        · rw [upd_ne (ne_of_none e hD)]
          exact sm2 a o e
        · rw [upd_same, List.take_add_one, eu, List.map_append, vs_append]
          rfl
      · obtain ⟨sm2, eD⟩ := hP
        rw [len_vs, List.take_length] at eD
        refine ⟨S, D, _, _, rfl, rfl, sm2 _ _ eS, eD, ?_, fun p np => ?_⟩
        · rw [len_vs, len_vs, List.length_map]
          exact Nat.le_of_lt (sl_lt (by omega))
        · refine ⟨_, _, p, rfl, sm.trans (sm2.trans (same_new np)), (sm.trans sm2).free np, ?_⟩
          rw [upd_same, key, vs_append]
    · obtain ⟨z, z2, S, rfl, sm, nS, eS⟩ := hI
      rw [len_vs, List.take_length] at eS
      refine ⟨.ref S, rfl, S, ((sumsOf B).map fun i : Nat => (i : Int)), rfl, SqL.of (by rw [← vs_int]; exact eS), fun ns' p pm od np => ?_⟩
      obtain ⟨L, rfl, p2⟩ := back_vs pm
      refine q _ p L (sm.trans (same_new np)) (sm.free np) (by rw [upd_same, ← vs_int]) p2 ?_
      have o2 : (L.map fun i : Nat => (i : Int)).Pairwise (· ≤ ·) := od
      rw [List.pairwise_map] at o2
      exact o2.imp fun h => by omega
end
end K12

set_option Elab.async false
set_option linter.all false
set_option maxRecDepth 100000
set_option maxHeartbeats 4000000
set_option pp.maxSteps 300
namespace Vf
theorem take_span {ws : List Nat} {i c : Nat} (h : ws[i]? = some c) {B : List Nat} (hB : Piv B) (e : ∀ v, span B v ↔ span (ws.take i) v) (v : Nat) : span (restOf c B :: B) v ↔ span (ws.take (i + 1)) v := by
  rw [rest_room hB, List.take_add_one, h]
  show span (c :: B) v ↔ span (ws.take i ++ [c]) v
  rw [span_perm (List.perm_append_comm (l₁ := ws.take i) (l₂ := [c]))]
  show span (c :: B) v ↔ span (c :: ws.take i) v
  rw [span_cons, span_cons, e, e]
theorem gt_of_ge {D : List Nat} (h : Piv D) (g : D.Pairwise (· ≥ ·)) : D.Pairwise (· > ·) := by
  refine (List.Pairwise.and g (piv_nodup h)).imp fun k => ?_
  obtain ⟨a, b⟩ := k
  omega
end Vf
namespace K12
open PySem PySem.Spec PyProof.Rows L2 Vf
section
variable {P : Program} {w : World} {K : PySem.W.Frag} {mg : Str → Option Value} {base : Heap}
def sp_plain_basis : Sp := fun vs0 H Q _ => ∃ (a : Addr) (ws : List Nat), vs0 = [.ref a] ∧ Sq H a (vs ws) ∧ (∀ v ∈ ws, v < 2 ^ 24) ∧ ws.length ≤ 1000 ∧
  ∀ (H' : Hp) (p : Addr) (B : List Nat), Same H H' → H p = none → H' p = some (.lst (vs B)) → Plain B → (∀ v, span B v ↔ span ws v) → B.length ≤ ws.length → Q (.ref p) H'
/-- where the loop stands -/
def PbI (H : Hp) (a : Addr) (ws : List Nat) (i : Nat) (σ : L2.St) (H' : Hp) : Prop := ∃ (b : Addr) (B : List Nat) (z z2 : Option V), σ = [some (.ref a), some (.ref b), z, z2] ∧ Same H H' ∧ H b = none ∧ H' b = some (.lst (vs B)) ∧
  Plain B ∧ (∀ v, span B v ↔ span (ws.take i) v) ∧ B.length ≤ i
theorem ok_plain_basis {f : Addr} {fd : FuncData} (F : Fun K "plain_basis" "plain_basis" s_plain_basis f fd) (C_rest_of : Cal P w K mg base "rest_of" 2 ["word", "basis"] [] sp_rest_of) (C_put_in : Cal P w K mg base "put_in" 2 ["rest", "basis"] [] sp_put_in) :
    FnOk P w K mg base CX0 3 f fd ["words"] sp_plain_basis := by
  refine F.ok sc_plain_basis (fun vs H Q E h => ?_) (fun cdv A outer s H vs Q E hr h => ?_)
  · obtain ⟨a, ws, rfl, _⟩ := h
    rfl
  · obtain ⟨a, ws, rfl, hS, h24, lw, q⟩ := h
    have start : ∀ {b0 : Addr}, H b0 = none → PbI H a ws 0 [some (.ref a), some (.ref b0), none, none] (upd H b0 (.lst [])) := fun {b0} h0 =>
      ⟨b0, [], none, none, rfl, same_new h0, h0, upd_same, ⟨⟨List.Pairwise.nil, fun _ k => (List.not_mem_nil k).elim⟩, List.Pairwise.nil⟩, fun v => Iff.rfl, Nat.le_refl _⟩
    -- what a turn needs and gives
    have turn : ∀ {i : Nat} {c : Nat}, ws[i]? = some c → ∀ {σ : L2.St} {H' : Hp}, PbI H a ws i σ H' → ∃ (b : Addr) (B : List Nat) (z z2 : Option V), σ = [some (.ref a), some (.ref b), z, z2] ∧ H' b = some (.lst (Vf.vs B)) ∧ (∀ x ∈ B, x ≠ 0 ∧ x < 2 ^ 24) ∧ c < 2 ^ 24 ∧
        (restOf c B = 0 → PbI H a ws (i + 1) [some (.ref a), some (.ref b), some (.int (c : Int)), some (.int ((restOf c B : Nat) : Int))] H') ∧
        (restOf c B ≠ 0 → restOf c B < 2 ^ 24 ∧ B.length ≤ 1000 ∧ ∀ (H2 : Hp) (p : Addr) (D : List Nat), Same H' H2 → H' p = none → H2 p = some (.lst (Vf.vs D)) → D.Perm (B.map (clear1 (restOf c B)) ++ [restOf c B]) → D.Pairwise (· ≥ ·) →
          PbI H a ws (i + 1) [some (.ref a), some (.ref p), some (.int (c : Int)), some (.int ((restOf c B : Nat) : Int))] H2) := by
      intro i c hc σ H' hI
      obtain ⟨b, B, z, z2, rfl, sm, nb, eB, pl, sp, ln⟩ := hI
      have hc24 := h24 c (List.mem_of_getElem? hc)
      have lt : ∀ {x}, span B x → x < 2 ^ 24 := fun {x} hx => span_lt (ws := ws.take i) (fun v hv => h24 v (List.mem_of_mem_take hv)) ((sp x).mp hx)
      have il : i < ws.length := (List.getElem?_eq_some_iff.mp hc).1
      have rs := take_span hc pl.1 sp
      refine ⟨b, B, z, z2, rfl, eB, fun x hx => ⟨pl.1.2 x hx, lt (span_mem hx)⟩, hc24, fun r0 => ⟨b, B, _, _, rfl, sm, nb, eB, pl, fun v => ?_, by omega⟩, fun r0 => ⟨?_, by omega, fun H2 p D s2 np eD pm ge => ?_⟩⟩
      · rw [← rs v, r0]
        constructor
        · exact fun k => span_sub (fun x hx => span_mem (List.mem_cons_of_mem _ hx)) k
        · exact fun k => span_sub (fun x hx => (List.mem_cons.mp hx).elim (fun e => by rw [e]; exact span_zero B) span_mem) k
      · refine span_lt (ws := ws.take (i + 1)) (fun v hv => h24 v (List.mem_of_mem_take hv)) ((rs _).mp (span_mem List.mem_cons_self))
      · have pD := piv_perm pm.symm (put_piv pl.1 r0 fun x hx => rest_off pl.1 c hx)
        refine ⟨p, D, _, _, rfl, sm.trans s2, sm.free np, eD, ⟨pD, gt_of_ge pD ge⟩, fun v => ?_, ?_⟩
        · rw [span_perm pm v, put_span, rs v]
        · rw [pm.length_eq, List.length_append, List.length_map]
          show B.length + 1 ≤ i + 1
          omega
    rcases hS with hS | hS
    · refine ⟨_, (pss_cons (ps_set (i := 1) sc_plain_basis.nd rfl (Or.inl rfl) (pe_lst pa_nil))
    (pss_cons (ps_for PassesOwn.never rfl (pi_list (pv 0)) (pg_name (i := 2) sc_plain_basis.nd rfl (Or.inl rfl))
      (pss_cons (ps_set (i := 3) sc_plain_basis.nd rfl (Or.inl rfl) (pe_cal C_rest_of (hr.mono (by decide)) (by rfl) (pa_cons (pv 2) (pa_cons (pv 1) pa_nil))))
    (pss_one (ps_if (pt_cmpR op_gtN (pv 3) pe_int (nomark _)) (pss_one (ps_set (i := 1) sc_plain_basis.nd rfl (Or.inl rfl) (pe_cal C_put_in (hr.mono (by decide)) (by rfl) (pa_cons (pv 3) (pa_cons (pv 1) pa_nil))))) pss_nil))))
    (pss_one (ps_ret (pv 1))))), ?_⟩
      refine ⟨Nat.zero_le _, fun b0 h0 => ⟨.ref a, rfl, a, rfl, ⟨_, SqL.of ((same_new h0) _ _ hS)⟩, ?_⟩⟩
      refine for_list (K := K) (a := a) (xs := Vf.vs ws) (fun i σ H' => PbI H a ws i σ H') (start h0) (fun i σ H' _ hI => ?_) (fun i x σ H' hx hI => ?_) fun σ H' hI => ?_
      · obtain ⟨b, B, z, z2, _, sm, _⟩ := hI
        exact SqL.of (sm _ _ hS)
      · obtain ⟨c, hc, rfl⟩ := get_vs hx
        obtain ⟨b, B, z, z2, rfl, eB, hB, c24, k0, k1⟩ := turn hc hI
        refine ⟨.int c, rfl, .ref b, rfl, c, b, B, rfl, eB, hB, _, rfl, restOf c B, 0, rfl, rfl, _, rfl, ite2 (fun hb => ?_) (fun hb => ?_)⟩
        · have r0 : restOf c B ≠ 0 := Nat.ne_of_gt (of_decide_eq_true hb)
          obtain ⟨r24, l1000, k1⟩ := k1 r0
          exact ⟨_, rfl, .ref b, rfl, restOf c B, b, B, rfl, eB, r0, r24, l1000, fun H2 p D s2 np eD pm ge => k1 H2 p D s2 np eD pm ge⟩
        · have r0 : restOf c B = 0 := by
            have : ¬ 0 < restOf c B := fun z => hb (decide_eq_true z)
            omega
          exact k0 r0
      · obtain ⟨b, B, z, z2, rfl, sm, nb, eB, pl, sp, ln⟩ := hI
        rw [len_vs, List.take_length] at sp
        rw [len_vs] at ln
        exact ⟨.ref b, rfl, q H' b B sm nb eB pl sp ln⟩
    · refine ⟨_, (pss_cons (ps_set (i := 1) sc_plain_basis.nd rfl (Or.inl rfl) (pe_lst pa_nil))
    (pss_cons (ps_for PassesOwn.never rfl (pi_tup (pv 0)) (pg_name (i := 2) sc_plain_basis.nd rfl (Or.inl rfl))
      (pss_cons (ps_set (i := 3) sc_plain_basis.nd rfl (Or.inl rfl) (pe_cal C_rest_of (hr.mono (by decide)) (by rfl) (pa_cons (pv 2) (pa_cons (pv 1) pa_nil))))
    (pss_one (ps_if (pt_cmpR op_gtN (pv 3) pe_int (nomark _)) (pss_one (ps_set (i := 1) sc_plain_basis.nd rfl (Or.inl rfl) (pe_cal C_put_in (hr.mono (by decide)) (by rfl) (pa_cons (pv 3) (pa_cons (pv 1) pa_nil))))) pss_nil))))
    (pss_one (ps_ret (pv 1))))), ?_⟩
      refine ⟨Nat.zero_le _, fun b0 h0 => ⟨.ref a, rfl, a, rfl, ⟨_, .inl (.inl ((same_new h0) _ _ hS))⟩, ?_⟩⟩
      refine for_tup (K := K) (a := a) (xs := Vf.vs ws) (fun i σ H' => PbI H a ws i σ H') (start h0) (fun i σ H' _ hI => ?_) (fun i x σ H' hx hI => ?_) fun σ H' hI => ?_
      · obtain ⟨b, B, z, z2, _, sm, _⟩ := hI
        exact .inl (.inl (sm _ _ hS))
      · obtain ⟨c, hc, rfl⟩ := get_vs hx
        obtain ⟨b, B, z, z2, rfl, eB, hB, c24, k0, k1⟩ := turn hc hI
        refine ⟨.int c, rfl, .ref b, rfl, c, b, B, rfl, eB, hB, _, rfl, restOf c B, 0, rfl, rfl, _, rfl, ite2 (fun hb => ?_) (fun hb => ?_)⟩
        · have r0 : restOf c B ≠ 0 := Nat.ne_of_gt (of_decide_eq_true hb)
          obtain ⟨r24, l1000, k1⟩ := k1 r0
          exact ⟨_, rfl, .ref b, rfl, restOf c B, b, B, rfl, eB, r0, r24, l1000, fun H2 p D s2 np eD pm ge => k1 H2 p D s2 np eD pm ge⟩
        · have r0 : restOf c B = 0 := by
            have : ¬ 0 < restOf c B := fun z => hb (decide_eq_true z)
            omega
          exact k0 r0
      · obtain ⟨b, B, z, z2, rfl, sm, nb, eB, pl, sp, ln⟩ := hI
        rw [len_vs, List.take_length] at sp
        rw [len_vs] at ln
        exact ⟨.ref b, rfl, q H' b B sm nb eB pl sp ln⟩
end
end K12

set_option Elab.async false
set_option linter.all false
set_option maxRecDepth 100000
set_option maxHeartbeats 4000000
set_option pp.maxSteps 300
namespace Vf
open PySem PySem.Spec PyProof.Rows L2
theorem eqv_vs : ∀ (B D : List Nat), PyData.eqvAll ((vs B).map toD) ((vs D).map toD) = decide (B = D)
  | [], [] => rfl
  | [], y :: D => rfl
  | x :: B, [] => rfl
  | x :: B, y :: D => by
    have e := eqv_vs B D
    show (PyData.eqv (.int (x : Int)) (.int (y : Int)) && PyData.eqvAll ((vs B).map toD) ((vs D).map toD)) = _
    rw [e, PyData.eqv]
    by_cases h : x = y
    · subst h
      by_cases k : B = D
      · subst k
        simp
      · simp [k]
    · have h2 : ¬ (x : Int) = (y : Int) := by omega
      simp [h, h2]
theorem eqD_vs {K : PySem.W.Frag} {H : Hp} {Q : VK} {a b : Addr} {B D : List Nat} (ha : SqL K H a (vs B)) (hb : SqL K H b (vs D)) (q : Q (.bl (decide (B = D))) H) : rEqD K (.ref a) (.ref b) H Q := by
  refine ⟨_, _, .lst ha (dp_all (flat_vs B)), .lst hb (dp_all (flat_vs D)), shaped_flat (flat_vs B), shaped_flat (flat_vs D), ?_⟩
  rw [PyData.eqv, eqv_vs]
  exact q
theorem neD_vs {K : PySem.W.Frag} {H : Hp} {Q : VK} {a b : Addr} {B D : List Nat} (ha : SqL K H a (vs B)) (hb : SqL K H b (vs D)) (q : Q (.bl (!decide (B = D))) H) : rNeD K (.ref a) (.ref b) H Q := by
  refine ⟨_, _, .lst ha (dp_all (flat_vs B)), .lst hb (dp_all (flat_vs D)), shaped_flat (flat_vs B), shaped_flat (flat_vs D), ?_⟩
  rw [PyData.eqv, eqv_vs]
  exact q
theorem txt_len {xs : List V} (h : ∀ x ∈ xs, small x = true) : (txt xs).length ≤ 1925 * xs.length + 2 := by
  obtain ⟨h1, h2, h3⟩ := shown_all h
  unfold txt
  rw [PyData.shown]
  unfold listText
  rw [strLen_append]
  have h4 := text_len (PyData.shownAll (xs.map toD)) 0 "["
  have e1 : (("[" : String) : Str).length = 1 := rfl
  have e2 : (("]" : String) : Str).length = 1 := rfl
  omega
theorem fmt_small {K : PySem.W.Frag} {H : Hp} {Q : VK} {a : Addr} {xs : List V} (ha : SqL K H a xs) (h : ∀ x ∈ xs, small x = true) (hl : xs.length ≤ 1000) (q : Q (.str (txt xs)) H) : rFmtD K (.ref a) H Q := by
  obtain ⟨h1, h2, h3⟩ := shown_all h
  have h5 := txt_len h
  refine ⟨⟨a, _, rfl, .lst ha (dp_all fun x hx => flat_of_small (h x hx)), ?_, ?_, ?_, ?_, q⟩⟩
  · rw [PyData.showable]
    exact h1
  · rw [PyData.hasDict]
    exact h2
  · rw [PyData.depth, depth_all]
    decide
  · have e3 : sizeLine = 16777216 := sizeLine_eq
    have : (PyData.list (xs.map toD)).shown.length = (txt xs).length := rfl
    omega
theorem small_vs {B : List Nat} (h : ∀ c ∈ B, c < 2 ^ 24) : ∀ x ∈ vs B, small x = true := fun x hx => by
  obtain ⟨c, hc, rfl⟩ := List.mem_map.mp hx
  exact small_nat (h c hc)
/-! ### a room as an object -/
theorem nb_ : ¬ (("_places" : Str) = "_basis") := by decide +kernel
theorem bn_ : ¬ (("_basis" : Str) = "_places") := by decide +kernel
def rf (n : Nat) (b : Addr) : List (Str × V) := putF "_basis" (.ref b) (putF "_places" (.int (n : Int)) [])
theorem rf_places (n : Nat) (b : Addr) : (rf n b).lookup ("_places" : Str) = some (.int (n : Int)) := by
  unfold rf
  rw [lookup_putF, if_neg nb_, lookup_putF, if_pos rfl]
theorem rf_basis (n : Nat) (b : Addr) : (rf n b).lookup ("_basis" : Str) = some (.ref b) := by
  unfold rf
  rw [lookup_putF, if_pos rfl]
theorem rf_no (n : Nat) (b : Addr) {m : Str} (h1 : ¬ m = "_basis") (h2 : ¬ m = "_places") : (rf n b).lookup m = none := by
  unfold rf
  rw [lookup_putF, if_neg h1, lookup_putF, if_neg h2]
  all_goals rfl
/-- the room of n places with the plain basis B stands at a -/
def RoomAt (C : Addr) (H : Hp) (a : Addr) (n : Nat) (B : List Nat) : Prop :=
  ∃ dx b, H a = some (.ins C dx (rf n b)) ∧ H b = some (.lst (vs B)) ∧ Plain B ∧ 1 ≤ n ∧ n ≤ 24 ∧ ∀ c ∈ B, c < 2 ^ n
/-- a room that was made anew: its list stood nowhere -/
def RoomNew (C : Addr) (H0 H : Hp) (a : Addr) (n : Nat) (B : List Nat) : Prop :=
  ∃ dx b, H a = some (.ins C dx (rf n b)) ∧ H b = some (.lst (vs B)) ∧ Plain B ∧ 1 ≤ n ∧ n ≤ 24 ∧ (∀ c ∈ B, c < 2 ^ n) ∧ H0 b = none
/-- a room whose list is not the one at p -/
def RoomP (C : Addr) (H : Hp) (a : Addr) (n : Nat) (B : List Nat) (p : Addr) : Prop :=
  ∃ dx b, H a = some (.ins C dx (rf n b)) ∧ H b = some (.lst (vs B)) ∧ Plain B ∧ 1 ≤ n ∧ n ≤ 24 ∧ (∀ c ∈ B, c < 2 ^ n) ∧ b ≠ p
theorem RoomP.at {C : Addr} {H : Hp} {a : Addr} {n : Nat} {B : List Nat} {p : Addr} (h : RoomP C H a n B p) : RoomAt C H a n B := by
  obtain ⟨dx, b, e1, e2, a1, a2, a3, a4, _⟩ := h
  exact ⟨dx, b, e1, e2, a1, a2, a3, a4⟩
theorem RoomNew.far {C : Addr} {H0 H : Hp} {a : Addr} {n : Nat} {B : List Nat} {p : Addr} (h : RoomNew C H0 H a n B) (hp : ∃ o, H0 p = some o) : RoomP C H a n B p := by
  obtain ⟨dx, b, e1, e2, a1, a2, a3, a4, n0⟩ := h
  obtain ⟨o, ho⟩ := hp
  exact ⟨dx, b, e1, e2, a1, a2, a3, a4, (ne_of_none ho n0).symm⟩
theorem RoomP.same {C : Addr} {H H' : Hp} {a : Addr} {n : Nat} {B : List Nat} {p : Addr} (s : Same H H') (h : RoomP C H a n B p) : RoomP C H' a n B p := by
  obtain ⟨dx, b, e1, e2, r⟩ := h
  exact ⟨dx, b, s _ _ e1, s _ _ e2, r⟩
theorem RoomP.but {C : Addr} {H H' : Hp} {a : Addr} {n : Nat} {B : List Nat} {p : Addr} (s : But p H H') (hp : Pot H p) (h : RoomP C H a n B p) : RoomP C H' a n B p := by
  obtain ⟨dx, b, e1, e2, a1, a2, a3, a4, nb⟩ := h
  have na : a ≠ p := by
    rintro rfl
    obtain ⟨x, y, e, _⟩ := hp
    rw [e1] at e
    cases e
  exact ⟨dx, b, s _ _ na e1, s _ _ nb e2, a1, a2, a3, a4, nb⟩
theorem RoomAt.same {C : Addr} {H H' : Hp} {a : Addr} {n : Nat} {B : List Nat} (s : Same H H') (h : RoomAt C H a n B) : RoomAt C H' a n B := by
  obtain ⟨dx, b, e1, e2, r⟩ := h
  exact ⟨dx, b, s _ _ e1, s _ _ e2, r⟩
theorem RoomAt.but {C : Addr} {H H' : Hp} {a p : Addr} {n : Nat} {B : List Nat} (s : But p H H') (hp : Pot H p) (h : RoomAt C H a n B) (hne : ∀ b, H b = some (.lst (vs B)) → b ≠ p) : RoomAt C H' a n B := by
  obtain ⟨dx, b, e1, e2, r⟩ := h
  have na : a ≠ p := by
    rintro rfl
    obtain ⟨x, y, e, _⟩ := hp
    rw [e1] at e
    cases e
  exact ⟨dx, b, s _ _ na e1, s _ _ (hne b e2) e2, r⟩
theorem lt24 {n c : Nat} (h : n ≤ 24) (k : c < 2 ^ n) : c < 2 ^ 24 := Nat.lt_of_lt_of_le k (Nat.pow_le_pow_right (by decide) h)
/-- what is known of the class -/
structure RKn (K : PySem.W.Frag) (C : Addr) : Prop where
  cl : Cls K C
  nP : NoAttr K C "_places"
  nB : NoAttr K C "_basis"
  ca : PySem.W.findIn K (.ref C) "__class__" = some (some (.builtin "object.__class__"))
  cn : PySem.W.specialIn K (.builtin "object.__class__") "__get__" = some (some (.builtin "getset_descriptor.__get__"))
  ct : PySem.W.takesIn K (.builtin "object.__class__") = some true
  cm : PySem.W.mroIn K C (.type "object") = some true
end Vf
namespace K12
open PySem PySem.Spec PyProof.Rows L2 Vf
abbrev s_Room___init__ : Stmt := inClass (topS 26) 0
abbrev N_Room___init__ : List Str := ["self", "places", "words"]
theorem sc_Room___init__ : FnScope N_Room___init__ ["self", "places", "words"] (defScope s_Room___init__) := ⟨rfl, rfl, rfl, by decide +kernel, rfl, by decide +kernel, by decide +kernel⟩
abbrev s_Room_places : Stmt := inClass (topS 26) 1
abbrev N_Room_places : List Str := ["self"]
theorem sc_Room_places : FnScope N_Room_places ["self"] (defScope s_Room_places) := ⟨rfl, rfl, rfl, by decide +kernel, rfl, by decide +kernel, by decide +kernel⟩
abbrev s_Room_dimension : Stmt := inClass (topS 26) 2
abbrev N_Room_dimension : List Str := ["self"]
theorem sc_Room_dimension : FnScope N_Room_dimension ["self"] (defScope s_Room_dimension) := ⟨rfl, rfl, rfl, by decide +kernel, rfl, by decide +kernel, by decide +kernel⟩
abbrev s_Room_basis : Stmt := inClass (topS 26) 3
abbrev N_Room_basis : List Str := ["self"]
theorem sc_Room_basis : FnScope N_Room_basis ["self"] (defScope s_Room_basis) := ⟨rfl, rfl, rfl, by decide +kernel, rfl, by decide +kernel, by decide +kernel⟩
abbrev s_Room_has : Stmt := inClass (topS 26) 4
abbrev N_Room_has : List Str := ["self", "word"]
theorem sc_Room_has : FnScope N_Room_has ["self", "word"] (defScope s_Room_has) := ⟨rfl, rfl, rfl, by decide +kernel, rfl, by decide +kernel, by decide +kernel⟩
abbrev s_Room_words : Stmt := inClass (topS 26) 5
abbrev N_Room_words : List Str := ["self"]
theorem sc_Room_words : FnScope N_Room_words ["self"] (defScope s_Room_words) := ⟨rfl, rfl, rfl, by decide +kernel, rfl, by decide +kernel, by decide +kernel⟩
abbrev s_Room___eq__ : Stmt := inClass (topS 26) 6
abbrev N_Room___eq__ : List Str := ["self", "other"]
theorem sc_Room___eq__ : FnScope N_Room___eq__ ["self", "other"] (defScope s_Room___eq__) := ⟨rfl, rfl, rfl, by decide +kernel, rfl, by decide +kernel, by decide +kernel⟩
abbrev s_Room___repr__ : Stmt := inClass (topS 26) 7
abbrev N_Room___repr__ : List Str := ["self"]
theorem sc_Room___repr__ : FnScope N_Room___repr__ ["self"] (defScope s_Room___repr__) := ⟨rfl, rfl, rfl, by decide +kernel, rfl, by decide +kernel, by decide +kernel⟩
section
variable {P : Program} {w : World} {K : PySem.W.Frag} {mg : Str → Option Value} {base : Heap} {C : Addr}
theorem Sq.len {H : Hp} {a : Addr} {xs : List V} (h : Sq H a xs) : (SqL K H a xs ∨ SqT K H a xs) := h.imp (fun e => SqL.of e) (fun e => .inl (.inl e))
def sp_check_words : Sp := fun vs0 H Q _ => ∃ (n : Nat) (a : Addr) (ws : List Nat), vs0 = [.int (n : Int), .ref a] ∧ Sq H a (vs ws) ∧ 1 ≤ n ∧ n ≤ 24 ∧ (∀ v ∈ ws, v < 2 ^ n) ∧ ws.length ≤ 48 ∧ ∀ H', Same H H' → Q .non H'
theorem ok_check_words {f : Addr} {fd : FuncData} (F : Fun K "check_words" "check_words" s_check_words f fd) (C_is_list : Cal P w K mg base "is_list" 1 ["value"] [] sp_is_list) (C_is_word : Cal P w K mg base "is_word" 4 ["places", "value"] [] sp_is_word)
    {t : Tok} (g_MOST_WORDS : mg "MOST_WORDS" = some (.int 48 t)) (m_len : mg "len" = none) (m_enumerate : mg "enumerate" = none) : FnOk P w K mg base CX0 5 f fd ["places", "words"] sp_check_words := by
  refine F.ok sc_check_words (fun vs H Q E h => ?_) (fun cdv A outer s H vs Q E hr h => ?_)
  · obtain ⟨n, a, ws, rfl, _⟩ := h
    rfl
  · obtain ⟨n, a, ws, rfl, hS, n1, n24, hw, lw, q⟩ := h
    have l48 : ¬ 48 < (Vf.vs ws).length := by
      rw [len_vs]
      omega
    have word : ∀ {i : Nat} {x : V}, (Vf.vs ws)[i]? = some x → ∃ v : Nat, x = .int (v : Int) ∧ v < 2 ^ n := fun {i x} hx => by
      obtain ⟨v, ev, e⟩ := get_vs hx
      exact ⟨v, e, hw v (List.mem_of_getElem? ev)⟩
    rcases hS with hS | hS
    · refine ⟨_, (pss_cons (ps_if (PW.pt (pw_or (pt_not (pt_val (pe_cal C_is_list (hr.mono (by decide)) (by rfl) (pa_cons (pv 1) pa_nil)))) (pw_or1 (pt_cmpR op_gtN (pe_callB call_len_seq (by rfl) m_len (by decide +kernel) (pa_cons (pv 1) pa_nil)) (pe_glob (v := .int 48) rfl g_MOST_WORDS ⟨_, rfl⟩) (nomark _))))) (pss_one ps_never) pss_nil)
    (pss_one (ps_for PassesOwn.never rfl (pi_enum (by rfl) m_enumerate (pa_cons (pv 1) pa_nil)) (pg_tup rfl (pgs_cons (pg_name (i := 2) sc_check_words.nd rfl (Or.inl rfl)) (pgs_cons (pg_name (i := 3) sc_check_words.nd rfl (Or.inl rfl)) pgs_nil)))
      (pss_one (ps_if (pt_not (pt_val (pe_cal C_is_word (hr.mono (by decide)) (by rfl) (pa_cons (pv 0) (pa_cons (pv 3) pa_nil))))) (pss_one ps_never) pss_nil))))), ?_⟩
      refine ⟨.ref a, rfl, a, _, rfl, .inl hS, fun H1 s1 => ⟨true, rfl, iteF ?_⟩⟩
      have hL : SqL K H1 a (Vf.vs ws) := SqL.of (s1 _ _ hS)
      refine ⟨.ref a, rfl, a, _, rfl, .inl hL, (Vf.vs ws).length, 48, rfl, rfl, false, bl_f l48, iteF ?_⟩
      refine ⟨.ref a, rfl, a, _, rfl, hL, fun i m σ H2 => ∃ z2 z3 : Option V, σ = [some (.int n), some (.ref a), z2, z3] ∧ i + m = (Vf.vs ws).length ∧ Same H H2, ⟨(Vf.vs ws).length, none, none, rfl, by omega, s1⟩, fun i m σ H2 hW => ?_⟩
      obtain ⟨z2, z3, rfl, em, sm⟩ := hW
      have hL2 : SqL K H2 a (Vf.vs ws) := SqL.of (sm _ _ hS)
      by_cases hi : i < (Vf.vs ws).length
      · refine .inr ⟨⟨_, _, hL2, List.getElem?_eq_getElem hi⟩, fun σ' H' => ∃ z2 z3 : Option V, σ' = [some (.int n), some (.ref a), z2, z3] ∧ Same H H', fun σ' H' hN => ?_, fun x H' hy => ?_⟩
        · obtain ⟨y2, y3, e, sm'⟩ := hN
          exact ⟨m - 1, by omega, y2, y3, e, by omega, sm'⟩
        · obtain ⟨T, x1, rfl, nT, rfl, fx⟩ := hy
          obtain ⟨v, rfl, hv⟩ := word (fx _ hL2)
          have s2 := sm.trans (same_new (o := .tup [.int (i : Nat), .int (v : Int)]) nT)
          refine ⟨T, [.int (i : Nat), .int (v : Int)], rfl, .inl (.inl upd_same), rfl, .int (i : Nat), [.int (v : Int)], rfl, .int (v : Int), [], rfl, rfl, ?_⟩
          exact ⟨.int n, rfl, .int v, rfl, n, v, rfl, n1, n24, true, bl_t hv, iteF ⟨_, _, rfl, s2⟩⟩
      · exact .inl ⟨⟨_, hL2, by omega⟩, q H2 sm⟩
    · refine ⟨_, (pss_cons (ps_if (PW.pt (pw_or (pt_not (pt_val (pe_cal C_is_list (hr.mono (by decide)) (by rfl) (pa_cons (pv 1) pa_nil)))) (pw_or1 (pt_cmpR op_gtN (pe_callB call_len_seq (by rfl) m_len (by decide +kernel) (pa_cons (pv 1) pa_nil)) (pe_glob (v := .int 48) rfl g_MOST_WORDS ⟨_, rfl⟩) (nomark _))))) (pss_one ps_never) pss_nil)
    (pss_one (ps_for PassesOwn.never rfl (pi_enumT (by rfl) m_enumerate (pa_cons (pv 1) pa_nil)) (pg_tup rfl (pgs_cons (pg_name (i := 2) sc_check_words.nd rfl (Or.inl rfl)) (pgs_cons (pg_name (i := 3) sc_check_words.nd rfl (Or.inl rfl)) pgs_nil)))
      (pss_one (ps_if (pt_not (pt_val (pe_cal C_is_word (hr.mono (by decide)) (by rfl) (pa_cons (pv 0) (pa_cons (pv 3) pa_nil))))) (pss_one ps_never) pss_nil))))), ?_⟩
      refine ⟨.ref a, rfl, a, _, rfl, .inr hS, fun H1 s1 => ⟨true, rfl, iteF ?_⟩⟩
      have hL : SqT K H1 a (Vf.vs ws) := .inl (.inl (s1 _ _ hS))
      refine ⟨.ref a, rfl, a, _, rfl, .inr hL, (Vf.vs ws).length, 48, rfl, rfl, false, bl_f l48, iteF ?_⟩
      refine ⟨.ref a, rfl, a, _, rfl, hL, fun i m σ H2 => ∃ z2 z3 : Option V, σ = [some (.int n), some (.ref a), z2, z3] ∧ i + m = (Vf.vs ws).length ∧ Same H H2, ⟨(Vf.vs ws).length, none, none, rfl, by omega, s1⟩, fun i m σ H2 hW => ?_⟩
      obtain ⟨z2, z3, rfl, em, sm⟩ := hW
      have hL2 : SqT K H2 a (Vf.vs ws) := .inl (.inl (sm _ _ hS))
      by_cases hi : i < (Vf.vs ws).length
      · refine .inr ⟨⟨_, _, hL2, List.getElem?_eq_getElem hi⟩, fun σ' H' => ∃ z2 z3 : Option V, σ' = [some (.int n), some (.ref a), z2, z3] ∧ Same H H', fun σ' H' hN => ?_, fun x H' hy => ?_⟩
        · obtain ⟨y2, y3, e, sm'⟩ := hN
          exact ⟨m - 1, by omega, y2, y3, e, by omega, sm'⟩
        · obtain ⟨T, x1, rfl, nT, rfl, fx⟩ := hy
          obtain ⟨v, rfl, hv⟩ := word (fx _ hL2)
          have s2 := sm.trans (same_new (o := .tup [.int (i : Nat), .int (v : Int)]) nT)
          refine ⟨T, [.int (i : Nat), .int (v : Int)], rfl, .inl (.inl upd_same), rfl, .int (i : Nat), [.int (v : Int)], rfl, .int (v : Int), [], rfl, rfl, ?_⟩
          exact ⟨.int n, rfl, .int v, rfl, n, v, rfl, n1, n24, true, bl_t hv, iteF ⟨_, _, rfl, s2⟩⟩
      · exact .inl ⟨⟨_, hL2, by omega⟩, q H2 sm⟩
def sp_init (C : Addr) : Sp := fun vs0 H Q _ => ∃ (x dx : Addr) (n : Nat) (a : Addr) (ws : List Nat), vs0 = [.ref x, .int (n : Int), .ref a] ∧ H x = some (.ins C dx []) ∧ Sq H a (vs ws) ∧ 1 ≤ n ∧ n ≤ 24 ∧ (∀ v ∈ ws, v < 2 ^ n) ∧ ws.length ≤ 48 ∧
  ∀ (H' : Hp) (B : List Nat), But x H H' → RoomNew C H H' x n B → (∀ v, span B v ↔ span ws v) → B.length ≤ ws.length → Q .non H'
theorem ok_init {f : Addr} {fd : FuncData} (F : Fun K "__init__" "Room.__init__" s_Room___init__ f fd) (R : RKn K C) (C_check_places : Cal P w K mg base "check_places" 3 ["places"] [] sp_check_places)
    (C_check_words : Cal P w K mg base "check_words" 5 ["places", "words"] [] sp_check_words) (C_plain_basis : Cal P w K mg base "plain_basis" 3 ["words"] [] sp_plain_basis) : FnOk P w K mg base CX0 6 f fd ["self", "places", "words"] (sp_init C) := by
  refine F.ok sc_Room___init__ (fun vs H Q E h => ?_) (fun cdv A outer s H vs Q E hr h => ?_)
  · obtain ⟨x, dx, n, a, ws, rfl, _⟩ := h
    rfl
  · obtain ⟨x, dx, n, a, ws, rfl, ex, hS, n1, n24, hw, lw, q⟩ := h
    refine ⟨_, (pss_cons (ps_expr (pe_cal C_check_places (hr.mono (by decide)) (by rfl) (pa_cons (pv 1) pa_nil)))
    (pss_cons (ps_expr (pe_cal C_check_words (hr.mono (by decide)) (by rfl) (pa_cons (pv 1) (pa_cons (pv 2) pa_nil))))
    (pss_cons (ps_fld (pv 0) (pv 1) rfl)
    (pss_one (ps_fld (pv 0) (pe_cal C_plain_basis (hr.mono (by decide)) (by rfl) (pa_cons (pv 2) pa_nil)) rfl))))), ?_⟩
    refine ⟨.int n, rfl, n, rfl, n1, n24, .int n, rfl, .ref a, rfl, n, a, ws, rfl, hS, n1, n24, hw, lw, fun H1 s1 => ?_⟩
    refine ⟨.int n, rfl, .ref x, rfl, x, C, dx, [], rfl, s1 _ _ ex, R.cl, R.nP, by decide, ?_⟩
    have nax : a ≠ x := by
      rintro rfl
      rcases hS with h | h <;> rw [h] at ex <;> cases ex
    have b1 : But x H (upd H1 x (.ins C dx (putF "_places" (.int (n : Int)) []))) := (But.of s1).upd
    have hS2 : Sq (upd H1 x (.ins C dx (putF "_places" (.int (n : Int)) []))) a (Vf.vs ws) := hS.imp (b1 _ _ nax) (b1 _ _ nax)
    refine ⟨.ref a, rfl, a, ws, rfl, hS2, fun v hv => lt24 n24 (hw v hv), by omega, fun H2 p B s2 np eB pl sp ln => ?_⟩
    refine ⟨.ref x, rfl, x, C, dx, _, rfl, s2 _ _ upd_same, R.cl, R.nB, (show 1 < 1000 by decide), ?_⟩
    have npx : p ≠ x := by
      rintro rfl
      rw [upd_same] at np
      cases np
    refine q _ B ((b1.trans (.of s2)).upd) ⟨dx, p, upd_same, by rw [upd_ne npx]; exact eB, pl, n1, n24, fun c hc => ?_, ?_⟩ sp ln
    · exact span_lt (ws := ws) hw ((sp c).mp (span_mem hc))
    · rw [upd_ne npx] at np
      exact s1.free np
def sp_places (C : Addr) : Sp := fun vs0 H Q _ => ∃ (x : Addr) (n : Nat) (B : List Nat), vs0 = [.ref x] ∧ RoomAt C H x n B ∧ Q (.int (n : Int)) H
theorem ok_places {f : Addr} {fd : FuncData} (F : Fun K "places" "Room.places" s_Room_places f fd) (R : RKn K C) : FnOk P w K mg base CX0 1 f fd ["self"] (sp_places C) := by
  refine F.ok sc_Room_places (fun vs H Q E h => ?_) (fun cdv A outer s H vs Q E hr h => ?_)
  · obtain ⟨x, n, B, rfl, _⟩ := h
    rfl
  · obtain ⟨x, n, B, rfl, ⟨dx, b, ex, eb, pl, n1, n24, hB⟩, q⟩ := h
    refine ⟨_, (pss_one (ps_ret (pe_fld (pv 0) rfl))), ?_⟩
    exact ⟨.ref x, rfl, x, C, dx, _, _, rfl, ex, R.cl, R.nP, rf_places n b, q⟩
def sp_dimension (C : Addr) : Sp := fun vs0 H Q _ => ∃ (x : Addr) (n : Nat) (B : List Nat), vs0 = [.ref x] ∧ RoomAt C H x n B ∧ Q (.int ((B.length : Nat) : Int)) H
theorem ok_dimension {f : Addr} {fd : FuncData} (F : Fun K "dimension" "Room.dimension" s_Room_dimension f fd) (R : RKn K C) (m_len : mg "len" = none) : FnOk P w K mg base CX0 1 f fd ["self"] (sp_dimension C) := by
  refine F.ok sc_Room_dimension (fun vs H Q E h => ?_) (fun cdv A outer s H vs Q E hr h => ?_)
  · obtain ⟨x, n, B, rfl, _⟩ := h
    rfl
  · obtain ⟨x, n, B, rfl, ⟨dx, b, ex, eb, pl, n1, n24, hB⟩, q⟩ := h
    refine ⟨_, (pss_one (ps_ret (pe_callB call_len_seq (by rfl) m_len (by decide +kernel) (pa_cons (pe_fld (pv 0) rfl) pa_nil)))), ?_⟩
    refine ⟨.ref x, rfl, x, C, dx, _, _, rfl, ex, R.cl, R.nB, rf_basis n b, b, _, rfl, .inl (SqL.of eb), ?_⟩
    rw [len_vs]
    exact q
def sp_basis (C : Addr) : Sp := fun vs0 H Q _ => ∃ (x : Addr) (n : Nat) (B : List Nat), vs0 = [.ref x] ∧ RoomAt C H x n B ∧ ∀ (H' : Hp) (p : Addr), Same H H' → H p = none → H' p = some (.lst (vs B)) → Q (.ref p) H'
theorem ok_basis {f : Addr} {fd : FuncData} (F : Fun K "basis" "Room.basis" s_Room_basis f fd) (R : RKn K C) (m_list : mg "list" = none) : FnOk P w K mg base CX0 1 f fd ["self"] (sp_basis C) := by
  refine F.ok sc_Room_basis (fun vs H Q E h => ?_) (fun cdv A outer s H vs Q E hr h => ?_)
  · obtain ⟨x, n, B, rfl, _⟩ := h
    rfl
  · obtain ⟨x, n, B, rfl, ⟨dx, b, ex, eb, pl, n1, n24, hB⟩, q⟩ := h
    refine ⟨_, (pss_one (ps_ret (pe_callTy call_list_of (by rfl) m_list (by decide +kernel) (pa_cons (pe_fld (pv 0) rfl) pa_nil)))), ?_⟩
    exact ⟨.ref x, rfl, x, C, dx, _, _, rfl, ex, R.cl, R.nB, rf_basis n b, b, _, rfl, .inl (SqL.of eb), fun p np => q _ p (same_new np) np upd_same⟩
def sp_has (C : Addr) : Sp := fun vs0 H Q _ => ∃ (x : Addr) (n : Nat) (B : List Nat) (m : Nat), vs0 = [.ref x, .int (m : Int)] ∧ RoomAt C H x n B ∧ m < 2 ^ n ∧ Q (.bl (decide (restOf m B = 0))) H
theorem ok_has {f : Addr} {fd : FuncData} (F : Fun K "has" "Room.has" s_Room_has f fd) (R : RKn K C) (C_check_word : Cal P w K mg base "check_word" 5 ["word", "places"] [] sp_check_word) (C_rest_of : Cal P w K mg base "rest_of" 2 ["word", "basis"] [] sp_rest_of) :
    FnOk P w K mg base CX0 6 f fd ["self", "word"] (sp_has C) := by
  refine F.ok sc_Room_has (fun vs H Q E h => ?_) (fun cdv A outer s H vs Q E hr h => ?_)
  · obtain ⟨x, n, B, m, rfl, _⟩ := h
    rfl
  · obtain ⟨x, n, B, m, rfl, ⟨dx, b, ex, eb, pl, n1, n24, hB⟩, hm, q⟩ := h
    refine ⟨_, (pss_cons (ps_expr (pe_cal C_check_word (hr.mono (by decide)) (by rfl) (pa_cons (pv 1) (pa_cons (pe_fld (pv 0) rfl) pa_nil))))
    (pss_one (ps_ret (pe_cmpR op_eqN (pe_cal C_rest_of (hr.mono (by decide)) (by rfl) (pa_cons (pv 1) (pa_cons (pe_fld (pv 0) rfl) pa_nil))) pe_int (nomark _))))), ?_⟩
    refine ⟨.int m, rfl, .ref x, rfl, x, C, dx, _, _, rfl, ex, R.cl, R.nP, rf_places n b, m, n, rfl, n1, n24, hm, ?_⟩
    exact ⟨.int m, rfl, .ref x, rfl, x, C, dx, _, _, rfl, ex, R.cl, R.nB, rf_basis n b, m, b, B, rfl, eb, fun c hc => ⟨pl.1.2 c hc, lt24 n24 (hB c hc)⟩, restOf m B, 0, rfl, rfl, q⟩
def sp_words (C : Addr) : Sp := fun vs0 H Q _ => ∃ (x : Addr) (n : Nat) (B : List Nat), vs0 = [.ref x] ∧ RoomAt C H x n B ∧ B.length ≤ 8 ∧
  ∀ (H' : Hp) (p : Addr) (L : List Nat), Same H H' → H p = none → H' p = some (.lst (vs L)) → L.Perm (sumsOf B) → L.Pairwise (· ≤ ·) → Q (.ref p) H'
theorem ok_words {f : Addr} {fd : FuncData} (F : Fun K "words" "Room.words" s_Room_words f fd) (R : RKn K C) (C_sums_of : Cal P w K mg base "sums_of" 1 ["basis"] [] sp_sums_of) {t : Tok} (g_MOST_DIMENSION : mg "MOST_DIMENSION" = some (.int 8 t)) (m_len : mg "len" = none) :
    FnOk P w K mg base CX0 2 f fd ["self"] (sp_words C) := by
  refine F.ok sc_Room_words (fun vs H Q E h => ?_) (fun cdv A outer s H vs Q E hr h => ?_)
  · obtain ⟨x, n, B, rfl, _⟩ := h
    rfl
  · obtain ⟨x, n, B, rfl, ⟨dx, b, ex, eb, pl, n1, n24, hB⟩, lB, q⟩ := h
    refine ⟨_, (pss_cons (ps_if (pt_cmpR op_gtN (pe_callB call_len_seq (by rfl) m_len (by decide +kernel) (pa_cons (pe_fld (pv 0) rfl) pa_nil)) (pe_glob (v := .int 8) rfl g_MOST_DIMENSION ⟨_, rfl⟩) (nomark _)) (pss_one ps_never) pss_nil)
    (pss_one (ps_ret (pe_cal C_sums_of (hr.mono (by decide)) (by rfl) (pa_cons (pe_fld (pv 0) rfl) pa_nil))))), ?_⟩
    have l8 : ¬ 8 < (Vf.vs B).length := by
      rw [len_vs]
      omega
    refine ⟨.ref x, rfl, x, C, dx, _, _, rfl, ex, R.cl, R.nB, rf_basis n b, b, _, rfl, .inl (SqL.of eb), (Vf.vs B).length, 8, rfl, rfl, false, bl_f l8, iteF ?_⟩
    exact ⟨.ref x, rfl, x, C, dx, _, _, rfl, ex, R.cl, R.nB, rf_basis n b, b, B, rfl, eb, pl.1, lB, q⟩
def sp_eq (K : PySem.W.Frag) (C : Addr) : Sp := fun vs0 H Q _ => ∃ (x : Addr) (n : Nat) (B : List Nat) (y : V), vs0 = [.ref x, y] ∧ RoomAt C H x n B ∧
  ((∃ (z : Addr) (m : Nat) (D : List Nat), y = .ref z ∧ RoomAt C H z m D ∧ Q (.bl (decide (n = m ∧ B = D))) H) ∨ (∃ t, TyX K H y t ∧ PySem.W.kitOne K t (.ref C) = some false ∧ Q (.bl false) H))
theorem ok_eq {f : Addr} {fd : FuncData} (F : Fun K "__eq__" "Room.__eq__" s_Room___eq__ f fd) (R : RKn K C) (g_Room : mg "Room" = some (.ref C)) (m_isinstance : mg "isinstance" = none) : FnOk P w K mg base CX0 1 f fd ["self", "other"] (sp_eq K C) := by
  refine F.ok sc_Room___eq__ (fun vs H Q E h => ?_) (fun cdv A outer s H vs Q E hr h => ?_)
  · obtain ⟨x, n, B, y, rfl, _⟩ := h
    rfl
  · obtain ⟨x, n, B, y, rfl, ⟨dx, b, ex, eb, pl, n1, n24, hB⟩, hy⟩ := h
    refine ⟨_, (pss_one (ps_ret (pe_and (pe_callB call_isi (by rfl) m_isinstance (by decide +kernel) (pa_cons (pv 1) (pa_cons (pe_glob (v := .ref C) rfl g_Room rfl) pa_nil))) (pe_and (pe_cmpR op_eqN (pe_fld (pv 0) rfl) (pe_fld (pv 1) rfl) (nomark _)) (pe_one (pe_cmpR (op_eqD hr.units) (pe_fld (pv 0) rfl) (pe_fld (pv 1) rfl) (nomark _))))))), ?_⟩
    rcases hy with ⟨z, m, D, rfl, ⟨dz, d, ez, ed, pd, _⟩, q⟩ | ⟨t, ty, ko, q⟩
    · refine ⟨.ref z, rfl, .ref z, .ref C, .ref C, .ref C, true, rfl, .own C, .base (.ins ez R.cl R.ca R.cn R.ct R.cm), if_pos (beq_self_eq_true _), true, rfl, iteT ?_⟩
      refine ⟨.ref x, rfl, x, C, dx, _, _, rfl, ex, R.cl, R.nP, rf_places n b, .ref z, rfl, z, C, dz, _, _, rfl, ez, R.cl, R.nP, rf_places m d, n, m, rfl, rfl, decide (n = m), rfl, ?_⟩
      refine ite2 (fun e => ?_) (fun e => ?_)
      · have e' : n = m := of_decide_eq_true e
        refine ⟨.ref x, rfl, x, C, dx, _, _, rfl, ex, R.cl, R.nB, rf_basis n b, .ref z, rfl, z, C, dz, _, _, rfl, ez, R.cl, R.nB, rf_basis m d, eqD_vs (SqL.of eb) (SqL.of ed) ?_⟩
        have : decide (n = m ∧ B = D) = decide (B = D) := decide_eq_decide.mpr ⟨fun k => k.2, fun k => ⟨e', k⟩⟩
        rw [this] at q
        exact q
      · have : decide (n = m ∧ B = D) = false := decide_eq_false fun k => e (decide_eq_true k.1)
        rw [this] at q
        exact q
    · exact ⟨y, rfl, y, .ref C, t, .ref C, false, rfl, .own C, ty, ko, false, rfl, iteF q⟩
/-- the room's text -/
def roomText (n : Nat) (B : List Nat) : Str := ((((Str.empty ++ ("Room(" : Str)) ++ (toString (n : Int) : Str)) ++ (", " : Str)) ++ txt (vs B)) ++ (")" : Str)
def sp_repr (C : Addr) : Sp := fun vs0 H Q _ => ∃ (x : Addr) (n : Nat) (B : List Nat), vs0 = [.ref x] ∧ RoomAt C H x n B ∧ B.length ≤ 100 ∧ Q (.str (roomText n B)) H
theorem ok_repr {f : Addr} {fd : FuncData} (F : Fun K "__repr__" "Room.__repr__" s_Room___repr__ f fd) (R : RKn K C) : GnOk P w K mg base 1 f fd ["self"] (sp_repr C) := by
  refine gn_ok F sc_Room___repr__ (fun vs H Q E h => ?_) (fun cdv A outer s H vs Q E hg hr h => ?_)
  · obtain ⟨x, n, B, rfl, _⟩ := h
    rfl
  · obtain ⟨x, n, B, rfl, ⟨dx, b, ex, eb, pl, n1, n24, hB⟩, lB, q⟩ := h
    have sm : ∀ y ∈ Vf.vs B, small y = true := small_vs fun c hc => lt24 n24 (hB c hc)
    have l1 := txt_len sm
    rw [len_vs] at l1
    have l2 : ((toString (n : Int) : Str)).length ≤ 30 := by
      have e := int_text_length_le (a := (n : Int)) (k := 24) (by decide) (by
        show n.log2 < 24
        exact (Nat.log2_lt (by omega)).mpr (Nat.lt_of_le_of_lt n24 (by decide)))
      show (Str.ofString (toString (n : Int))).length ≤ 30
      rw [PySem.ofString_length]
      omega
    have e3 : sizeLine = 16777216 := sizeLine_eq
    have k1 : (Str.empty).length = 0 := rfl
    have k2 : (("Room(" : Str)).length = 5 := rfl
    have k3 : ((", " : Str)).length = 2 := rfl
    have k4 : ((")" : Str)).length = 1 := rfl
    refine ⟨_, (pss_one (ps_ret (pe_joined (PJ.cons pe_str (PJ.cons (pe_fmt (pe_fld (pv 0) rfl)) (PJ.cons pe_str (PJ.cons (pe_fmtD hg hr.units (pe_fld (pv 0) rfl)) (PJ.cons pe_str PJ.nil)))))))), ?_⟩
    refine ⟨"Room(", rfl, by rw [strLen_append]; omega, ?_⟩
    refine ⟨.ref x, rfl, x, C, dx, _, _, rfl, ex, R.cl, R.nP, rf_places n b, .inr ⟨n, rfl, ?_, toString (n : Int), rfl, by rw [strLen_append, strLen_append]; omega, ?_⟩⟩
    · show n.log2 < 1920
      exact Nat.lt_of_lt_of_le ((Nat.log2_lt (by omega)).mpr (Nat.lt_of_le_of_lt n24 (show 24 < 2 ^ 24 by decide))) (by decide)
    refine ⟨", ", rfl, by rw [strLen_append, strLen_append, strLen_append]; omega, ?_⟩
    refine ⟨.ref x, rfl, x, C, dx, _, _, rfl, ex, R.cl, R.nB, rf_basis n b, fmt_small (SqL.of eb) sm (by rw [len_vs]; omega) ?_⟩
    refine ⟨txt (Vf.vs B), rfl, by rw [strLen_append, strLen_append, strLen_append, strLen_append]; omega, ?_⟩
    exact ⟨")", rfl, by rw [strLen_append, strLen_append, strLen_append, strLen_append, strLen_append]; omega, q⟩
end
end K12

set_option Elab.async false
set_option linter.all false
set_option maxRecDepth 100000
set_option maxHeartbeats 4000000
set_option pp.maxSteps 300
namespace K12
open PySem PySem.Spec PyProof.Rows L2 Vf
abbrev s_law_pot : Stmt := topS 28
abbrev N_law_pot : List Str := ["_law_script", "_law_k", "_law_cell"]
theorem sc_law_pot : FnScope N_law_pot ["_law_script", "_law_k"] (defScope s_law_pot) := ⟨rfl, rfl, rfl, by decide +kernel, rfl, by decide +kernel, by decide +kernel⟩
abbrev s_law_draw : Stmt := topS 29
abbrev N_law_draw : List Str := ["_law_pot_here", "_law_size", "_law_digit"]
theorem sc_law_draw : FnScope N_law_draw ["_law_pot_here", "_law_size"] (defScope s_law_draw) := ⟨rfl, rfl, rfl, by decide +kernel, rfl, by decide +kernel, by decide +kernel⟩
abbrev s_law_mixed : Stmt := topS 34
abbrev N_law_mixed : List Str := ["_law_pot_here", "_law_some", "_law_left", "_law_found", "_law_turn"]
theorem sc_law_mixed : FnScope N_law_mixed ["_law_pot_here", "_law_some"] (defScope s_law_mixed) := ⟨rfl, rfl, rfl, by decide +kernel, rfl, by decide +kernel, by decide +kernel⟩
abbrev s_law_pick : Stmt := topS 30
abbrev N_law_pick : List Str := ["_law_pot_here", "_law_some"]
theorem sc_law_pick : FnScope N_law_pick ["_law_pot_here", "_law_some"] (defScope s_law_pick) := ⟨rfl, rfl, rfl, by decide +kernel, rfl, by decide +kernel, by decide +kernel⟩
abbrev s_law_words : Stmt := topS 33
abbrev N_law_words : List Str := ["_law_pot_here", "_law_places", "_law_many", "_law_found", "_law_turn"]
theorem sc_law_words : FnScope N_law_words ["_law_pot_here", "_law_places", "_law_many"] (defScope s_law_words) := ⟨rfl, rfl, rfl, by decide +kernel, rfl, by decide +kernel, by decide +kernel⟩
theorem erase_perm {α : Type} : ∀ (l : List α) (d : Nat) (h : d < l.length), (l[d] :: l.eraseIdx d).Perm l
  | x :: l, 0, _ => .refl _
  | x :: l, d + 1, h => by
    have h2 : d < l.length := Nat.lt_of_succ_lt_succ h
    exact (List.Perm.swap x l[d] (l.eraseIdx d)).trans (.cons x (erase_perm l d h2))
theorem fm_lo (a : Int) {b : Int} (h : 0 < b) : 0 ≤ a.fmod b := by
  rw [Int.fmod_eq_emod_of_nonneg _ (by omega)]
  exact Int.emod_nonneg _ (by omega)
section
variable {P : Program} {w : World} {K : PySem.W.Frag} {mg : Str → Option Value} {base : Heap}
theorem pot_new {H : Hp} {p : Addr} {c : Int} {y : Nat} (h : y < 2147483648) : Pot (upd H p (.lst [.int (if c > 0 then c else 0), .int (y : Int)])) p := by
  refine ⟨c.toNat, y, ?_, h⟩
  have e : (if c > 0 then c else 0) = ((c.toNat : Nat) : Int) := by
    split <;> omega
  rw [upd_same, e]
def sp_pot (K : PySem.W.Frag) : Sp := fun vs0 H Q _ => ∃ (a : Addr) (ns : List Int) (k : Nat), vs0 = [.ref a, .int (k : Int)] ∧ SqL K H a (ns.map V.int) ∧ k < 1000 ∧
  ∀ H' p, Same H H' → H p = none → Pot H' p → Q (.ref p) H'
theorem ok_law_pot {f : Addr} {fd : FuncData} (F : Fun K "_law_pot" "_law_pot" s_law_pot f fd) (m_len : mg "len" = none) (m_abs : mg "abs" = none) (m_max : mg "max" = none) (m_int : mg "int" = none) :
    FnOk P w K mg base CX0 1 f fd ["_law_script", "_law_k"] (sp_pot K) := by
  refine F.ok sc_law_pot (fun vs H Q E h => ?_) (fun cdv A outer s H vs Q E hr h => ?_)
  · obtain ⟨a, ns, k, rfl, _⟩ := h
    rfl
  · obtain ⟨a, ns, k, rfl, hS, hk, q⟩ := h
    refine ⟨_, (pss_cons (ps_set (i := 2) sc_law_pot.nd rfl (Or.inl rfl) (pe_op op_addN (pe_op op_mulN pe_int (pv 1)) pe_int))
    (pss_cons (ps_if (pt_cmpR op_ltN (pv 1) (pe_callB call_len_seq (by rfl) m_len (by decide +kernel) (pa_cons (pv 0) pa_nil)) (nomark _)) (pss_one (ps_set (i := 2) sc_law_pot.nd rfl (Or.inl rfl) (pe_callB call_abs (by rfl) m_abs (by decide +kernel) (pa_cons (pe_ix ix_list (pv 0) (pv 1) (fun _ _ => rfl)) pa_nil)))) pss_nil)
    (pss_one (ps_ret (pe_lst (pa_cons (pe_callB (call_max2 rfl) (by rfl) m_max (by decide +kernel) (pa_cons pe_int (pa_cons (pe_op op_sub (pv 2) (pe_op op_pow pe_int pe_int)) pa_nil))) (pa_cons (pe_op op_addN (pe_op op_modNN (pe_callTy call_intN (by rfl) m_int (by decide +kernel) (pa_cons (pe_op op_addN (pe_op op_mulN (pe_op op_modNN (pe_callTy call_intN (by rfl) m_int (by decide +kernel) (pa_cons (pv 2) pa_nil)) pe_int) (pe_op op_addN (pe_op op_mulN pe_int (pv 1)) pe_int)) pe_int) pa_nil)) pe_int) pe_int) pa_nil))))))), ?_⟩
    refine ⟨.int k, rfl, 659, k, rfl, rfl, by decide, 659 * k, 397, rfl, rfl, ?_⟩
    refine ⟨.int k, rfl, .ref a, rfl, a, _, rfl, .inl hS, k, ns.length, rfl, ?_, _, rfl, ite2 (fun hb => ?_) (fun hb => ?_)⟩
    · rw [List.length_map]
    · have hl : k < ns.length := of_decide_eq_true hb
      refine ⟨.ref a, rfl, .int k, rfl, a, _, k, .int (ns[k]), rfl, rfl, hS, atI_nat (j := k) (by rw [List.getElem?_map, List.getElem?_eq_getElem hl]; rfl), ns[k], rfl, ?_⟩
      have e : V.int (if ns[k] < 0 then -ns[k] else ns[k]) = V.int ((ns[k].natAbs : Nat) : Int) := by
        congr 1
        split <;> omega
      rw [e]
      refine ⟨.int (((ns[k].natAbs) : Nat) : Int), rfl, 10, 18, rfl, rfl, ⟨by decide, by decide, by decide⟩, (((ns[k].natAbs) : Nat) : Int), _, rfl, rfl, 0, _, rfl, ?_⟩
      refine ⟨.int (((ns[k].natAbs) : Nat) : Int), rfl, (ns[k].natAbs), rfl, (ns[k].natAbs), 2147483549, rfl, rfl, by decide, .int k, rfl, 2, k, rfl, rfl, by decide, 2 * k, 337, rfl, rfl, (ns[k].natAbs) % 2147483549, 2 * k + 337, rfl, rfl, ?_, ?_⟩
      · have := Nat.mod_lt (ns[k].natAbs) (show 0 < 2147483549 by decide)
        omega
      refine ⟨_, 1069, rfl, rfl, _, rfl, _, 2147483543, rfl, rfl, by decide, _, 1, rfl, rfl, (by show 2 ≤ sizeLine; decide), fun p hp => q _ p (same_new hp) hp (pot_new ?_)⟩
      have := Nat.mod_lt ((ns[k].natAbs) % 2147483549 * (2 * k + 337) + 1069) (show 0 < 2147483543 by decide)
      omega
    · skip
      refine ⟨.int (((659 * k + 397) : Nat) : Int), rfl, 10, 18, rfl, rfl, ⟨by decide, by decide, by decide⟩, (((659 * k + 397) : Nat) : Int), _, rfl, rfl, 0, _, rfl, ?_⟩
      refine ⟨.int (((659 * k + 397) : Nat) : Int), rfl, (659 * k + 397), rfl, (659 * k + 397), 2147483549, rfl, rfl, by decide, .int k, rfl, 2, k, rfl, rfl, by decide, 2 * k, 337, rfl, rfl, (659 * k + 397) % 2147483549, 2 * k + 337, rfl, rfl, ?_, ?_⟩
      · have := Nat.mod_lt (659 * k + 397) (show 0 < 2147483549 by decide)
        omega
      refine ⟨_, 1069, rfl, rfl, _, rfl, _, 2147483543, rfl, rfl, by decide, _, 1, rfl, rfl, (by show 2 ≤ sizeLine; decide), fun p hp => q _ p (same_new hp) hp (pot_new ?_)⟩
      have := Nat.mod_lt ((659 * k + 397) % 2147483549 * (2 * k + 337) + 1069) (show 0 < 2147483543 by decide)
      omega
def sp_draw : Sp := fun vs0 H Q _ => ∃ (p : Addr) (n : Nat), vs0 = [.ref p, .int (n : Int)] ∧ Pot H p ∧ 0 < n ∧ n < 1073741824 ∧
  ∀ (H' : Hp) (d : Nat), But p H H' → Pot H' p → d < n → Q (.int (d : Int)) H'
theorem ok_law_draw {f : Addr} {fd : FuncData} (F : Fun K "_law_draw" "_law_draw" s_law_draw f fd) (m_divmod : mg "divmod" = none) (m_int : mg "int" = none) :
    FnOk P w K mg base CX0 1 f fd ["_law_pot_here", "_law_size"] sp_draw := by
  refine F.ok sc_law_draw (fun vs H Q E h => ?_) (fun cdv A outer s H vs Q E hr h => ?_)
  · obtain ⟨a, n, rfl, _⟩ := h
    rfl
  · obtain ⟨p, n, rfl, hP, h1, h2, q⟩ := h
    obtain ⟨x, y, eP, ly⟩ := hP
    have hL : SqL K H p [.int (x : Int), .int (y : Int)] := .inl (.inl eP)
    refine ⟨_, (pss_cons (ps_if (pt_cmpR op_gtN (pe_ix ix_list (pv 0) pe_int (fun _ _ => rfl)) pe_int (nomark _)) (pss_cons (ps_asg (pe_callB call_divmodN (by rfl) m_divmod (by decide +kernel) (pa_cons (pe_ix ix_list (pv 0) pe_int (fun _ _ => rfl)) (pa_cons (pv 1) pa_nil))) (pg_tup rfl (pgs_cons (pg_sub (pv 0) pe_int set_list) (pgs_cons (pg_name (i := 2) sc_law_draw.nd rfl (Or.inl rfl)) pgs_nil))))
    (pss_one (ps_ret (pv 2)))) pss_nil)
    (pss_cons (ps_asg (pe_op op_modNN (pe_callTy call_intN (by rfl) m_int (by decide +kernel) (pa_cons (pe_op op_addN (pe_op op_mulN (pe_ix ix_list (pv 0) pe_int (fun _ _ => rfl)) pe_int) pe_int) pa_nil)) pe_int) (pg_sub (pv 0) pe_int set_list))
    (pss_one (ps_ret (pe_op op_modNN (pe_callTy call_intN (by rfl) m_int (by decide +kernel) (pa_cons (pe_op op_fdivNN (pe_op op_modNN (pe_callTy call_intN (by rfl) m_int (by decide +kernel) (pa_cons (pe_op op_mulN (pe_ix ix_list (pv 0) pe_int (fun _ _ => rfl)) (pe_ix ix_list (pv 0) pe_int (fun _ _ => rfl))) pa_nil)) pe_int) pe_int) pa_nil)) (pv 1)))))), ?_⟩
    refine ⟨.ref p, rfl, p, _, 0, .int x, rfl, rfl, hL, atI_nat (j := 0) rfl, x, 0, rfl, rfl, _, rfl, ite2 (fun hb => ?_) (fun hb => ?_)⟩
    · refine ⟨.ref p, rfl, p, _, 0, .int x, rfl, rfl, hL, atI_nat (j := 0) rfl, .int n, rfl, x, n, rfl, h1, h2, fun t ht => ?_⟩
      have np : p ≠ t := ne_of_none eP ht
      refine ⟨t, _, rfl, .inl (.inl upd_same), rfl, _, _, rfl, .ref p, rfl, p, [.int x, .int y], 0, 0, rfl, rfl, ?_, rfl, _, _, rfl, rfl, ?_⟩
      · rw [upd_ne np]
        exact eP
      · refine ⟨.int ((x % n : Nat) : Int), rfl, q _ (x % n) (fun b o nb e => ?_) ⟨x / n, y, upd_same, ly⟩ (Nat.mod_lt _ h1)⟩
        rw [upd_ne nb, upd_ne (ne_of_none e ht)]
        exact e
    · have l1 := Nat.mod_lt (y * 48271 + 18269) (show 0 < 2147483587 by decide)
      refine ⟨.ref p, rfl, p, _, 1, .int y, rfl, rfl, hL, atI_nat (j := 1) rfl, y, 48271, rfl, rfl, by omega, _, 18269, rfl, rfl, _, rfl, _, 2147483587, rfl, rfl, by decide,
        .ref p, rfl, p, [.int x, .int y], 1, 1, rfl, rfl, eP, rfl, ?_⟩
      have e2 : (upd H p (.lst ([V.int x, V.int y].set 1 (V.int (((y * 48271 + 18269) % 2147483587 : Nat) : Int))))) p = some (.lst [.int (x : Int), .int (((y * 48271 + 18269) % 2147483587 : Nat) : Int)]) := upd_same
      have hL2 := SqL.of (K := K) e2
      refine ⟨.ref p, rfl, p, _, 1, _, rfl, rfl, hL2, atI_nat (j := 1) rfl, .ref p, rfl, p, _, 1, _, rfl, rfl, hL2, atI_nat (j := 1) rfl, _, _, rfl, rfl, by omega, _, rfl, _, 2147483549, rfl, rfl, by decide,
        _, 13, rfl, rfl, ⟨by decide, by decide⟩, _, rfl, .int n, rfl, _, n, rfl, rfl, h1, ?_⟩
      exact q _ _ (fun b o nb e => by rw [upd_ne nb]; exact e) ⟨x, _, e2, by omega⟩ (Nat.mod_lt _ h1)
def sp_mixed : Sp := fun vs0 H Q _ => ∃ (p a : Addr) (l : List V), vs0 = [.ref p, .ref a] ∧ Pot H p ∧ a ≠ p ∧ H a = some (.lst l) ∧ l.length ≤ 1000 ∧
  ∀ (H' : Hp) (r : Addr) (l' : List V), But p H H' → Pot H' p → H r = none → H' r = some (.lst l') → l'.Perm l → Q (.ref r) H'
theorem ok_law_mixed {f : Addr} {fd : FuncData} (F : Fun K "_law_mixed" "_law_mixed" s_law_mixed f fd) (C_law_draw : Cal P w K mg base "_law_draw" 1 ["_law_pot_here", "_law_size"] [] sp_draw)
    (m_list : mg "list" = none) (m_range : mg "range" = none) (m_len : mg "len" = none) : FnOk P w K mg base CX0 2 f fd ["_law_pot_here", "_law_some"] sp_mixed := by
  refine F.ok sc_law_mixed (fun vs H Q E h => ?_) (fun cdv A outer s H vs Q E hr h => ?_)
  · obtain ⟨p, a, l, rfl, _⟩ := h
    rfl
  · obtain ⟨p, a, l, rfl, hP, nap, eA, hl, q⟩ := h
    refine ⟨_, (pss_cons (ps_par (i := 2) (j := 3) (by rfl) sc_law_mixed.nd rfl rfl (by decide) rfl rfl (pa_cons (pe_callTy call_list_of (by rfl) m_list (by decide +kernel) (pa_cons (pv 1) pa_nil)) (pa_cons (pe_lst pa_nil) pa_nil)) (by rfl))
    (pss_cons (ps_for PassesOwn.never rfl (pi_range1 (by rfl) m_range (pa_cons (pe_callB call_len_seq (by rfl) m_len (by decide +kernel) (pa_cons (pv 2) pa_nil)) pa_nil)) (pg_name (i := 4) sc_law_mixed.nd rfl (Or.inl rfl))
      (pss_one (ps_expr (pe_bm PySem.F.plainAttrs_list PySem.F.slot_list_append PySem.F.type_list_append mt_append (pv 3) (pa_cons (pe_bm PySem.F.plainAttrs_list PySem.F.slot_list_pop PySem.F.type_list_pop mt_popAt (pv 2) (pa_cons (pe_cal C_law_draw (hr.mono (by decide)) (by rfl) (pa_cons (pv 0) (pa_cons (pe_callB call_len_seq (by rfl) m_len (by decide +kernel) (pa_cons (pv 2) pa_nil)) pa_nil))) pa_nil)) pa_nil)))))
    (pss_one (ps_ret (pv 3))))), ?_⟩
    refine ⟨.ref a, rfl, a, l, rfl, .inl (.inl (.inl eA)), fun L hL => ⟨Nat.zero_le _, fun G hG => ⟨_, _, rfl, ?_⟩⟩⟩
    obtain ⟨op, ep⟩ := hP.some
    have s1 : Same H (upd H L (.lst l)) := same_new hL
    have s2 : Same (upd H L (.lst l)) (upd (upd H L (.lst l)) G (.lst [])) := same_new hG
    have eL : (upd (upd H L (.lst l)) G (.lst [])) L = some (.lst l) := s2 _ _ upd_same
    have nLG : L ≠ G := ne_of_none (upd_same (H := H) (a := L) (o := .lst l)) hG
    have nG : H G = none := s1.free hG
    have npL : p ≠ L := ne_of_none ep hL
    have npG : p ≠ G := ne_of_none ep nG
    refine ⟨.ref L, rfl, L, l, rfl, .inl (.inl (.inl eL)), (l.length : Int), rfl, by omega, by omega, ?_⟩
    refine for_range (lo := 0) (n := (l.length : Int).toNat) (fun i σ H' => ∃ (cur fnd : List V) (z : Option V), σ = [some (.ref p), some (.ref a), some (.ref L), some (.ref G), z] ∧ H' L = some (.lst cur) ∧ H' G = some (.lst fnd) ∧
      (fnd ++ cur).Perm l ∧ cur.length + i = l.length ∧ Pot H' p ∧ But p H H') ⟨l, [], none, rfl, eL, upd_same, .refl _, rfl, (hP.same s1).same s2, .of (s1.trans s2)⟩ (fun i σ H1 hi hI => ?_) fun σ H1 hI => ?_
    · obtain ⟨cur, fnd, z, rfl, e1, e2, pm, hc, hP1, b1⟩ := hI
      rw [Int.toNat_natCast] at hi
      refine ⟨.ref G, rfl, .inl ⟨rfl, _, .inl (.inl e2)⟩, .ref L, rfl, .inl ⟨rfl, _, .inl (.inl e1)⟩, .ref p, rfl, .ref L, rfl, L, cur, rfl, .inl (.inl (.inl e1)), ?_⟩
      refine ⟨p, cur.length, rfl, hP1, by omega, by omega, fun H2 d b2 hP2 hd => ?_⟩
      have e3 : H2 L = some (.lst cur) := b2 _ _ npL.symm e1
      have e4 : H2 G = some (.lst fnd) := b2 _ _ npG.symm e2
      have gd : cur[d]? = some cur[d] := List.getElem?_eq_getElem hd
      refine ⟨L, cur, d, d, cur[d], rfl, rfl, e3, by omega, by omega, ?_, gd, ?_⟩
      · exact (ixN_seq (show ixN cur.length (d : Int) = some d by
          unfold ixN
          rw [if_pos (by omega), if_pos (by omega)]
          rfl)).1
      · have e5 : (upd H2 L (.lst (cur.eraseIdx d))) G = some (.lst fnd) := by
          rw [upd_ne nLG.symm]
          exact e4
        have lf : fnd.length ≤ l.length := by
          have := pm.length_eq
          rw [List.length_append] at this
          omega
        refine ⟨G, fnd, cur[d], rfl, rfl, e5, sl_lt (by omega), cur.eraseIdx d, fnd ++ [cur[d]], _, rfl, ?_, upd_same, ?_, ?_, (hP2.upd npL).upd npG, ((b1.trans b2).new hL).new nG⟩
        · rw [upd_ne nLG]
          exact upd_same
        · rw [List.append_assoc]
          exact (List.Perm.append_left fnd (erase_perm cur d hd)).trans pm
        · rw [List.length_eraseIdx_of_lt hd]
          omega
    · obtain ⟨cur, fnd, z, rfl, e1, e2, pm, hc, hP1, b1⟩ := hI
      rw [Int.toNat_natCast] at hc
      have c0 : cur = [] := List.eq_nil_of_length_eq_zero (by omega)
      subst c0
      rw [List.append_nil] at pm
      exact ⟨.ref G, rfl, q H1 G fnd b1 hP1 nG e2 pm⟩
def sp_pick : Sp := fun vs0 H Q _ => ∃ (p a : Addr) (l : List Nat), vs0 = [.ref p, .ref a] ∧ Pot H p ∧ a ≠ p ∧ H a = some (.lst (vs l)) ∧ 0 < l.length ∧ l.length ≤ 1000 ∧
  ∀ (H' : Hp) (v : Nat), But p H H' → Pot H' p → v ∈ l → Q (.int (v : Int)) H'
theorem ok_law_pick {f : Addr} {fd : FuncData} (F : Fun K "_law_pick" "_law_pick" s_law_pick f fd) (C_law_draw : Cal P w K mg base "_law_draw" 1 ["_law_pot_here", "_law_size"] [] sp_draw) (m_len : mg "len" = none) :
    FnOk P w K mg base CX0 2 f fd ["_law_pot_here", "_law_some"] sp_pick := by
  refine F.ok sc_law_pick (fun vs H Q E h => ?_) (fun cdv A outer s H vs Q E hr h => ?_)
  · obtain ⟨p, a, l, rfl, _⟩ := h
    rfl
  · obtain ⟨p, a, l, rfl, hP, nap, eA, l0, l1, q⟩ := h
    refine ⟨_, (pss_one (ps_ret (pe_ix ix_list (pv 1) (pe_cal C_law_draw (hr.mono (by decide)) (by rfl) (pa_cons (pv 0) (pa_cons (pe_callB call_len_seq (by rfl) m_len (by decide +kernel) (pa_cons (pv 1) pa_nil)) pa_nil))) (fun _ _ => rfl)))), ?_⟩
    refine ⟨.ref a, rfl, .ref p, rfl, .ref a, rfl, a, _, rfl, .inl (SqL.of eA), p, (Vf.vs l).length, rfl, hP, by rw [len_vs]; omega, by rw [len_vs]; omega, fun H1 d b1 hP1 hd => ?_⟩
    rw [len_vs] at hd
    refine ⟨a, _, d, .int (l[d] : Nat), rfl, rfl, SqL.of (b1 _ _ nap eA), atI_nat (j := d) ?_, q H1 l[d] b1 hP1 (List.getElem_mem hd)⟩
    unfold Vf.vs
    rw [List.getElem?_map, List.getElem?_eq_getElem hd]
    rfl
def sp_lwords : Sp := fun vs0 H Q _ => ∃ (p : Addr) (n m : Nat), vs0 = [.ref p, .int (n : Int), .int (m : Int)] ∧ Pot H p ∧ n ≤ 24 ∧ m ≤ 100 ∧
  ∀ (H' : Hp) (a : Addr) (l : List Nat), But p H H' → Pot H' p → H a = none → a ≠ p → H' a = some (.lst (vs l)) → l.length = m → (∀ v ∈ l, v < 2 ^ n) → Q (.ref a) H'
theorem ok_law_words {f : Addr} {fd : FuncData} (F : Fun K "_law_words" "_law_words" s_law_words f fd) (C_law_draw : Cal P w K mg base "_law_draw" 1 ["_law_pot_here", "_law_size"] [] sp_draw) (m_range : mg "range" = none) :
    FnOk P w K mg base CX0 2 f fd ["_law_pot_here", "_law_places", "_law_many"] sp_lwords := by
  refine F.ok sc_law_words (fun vs H Q E h => ?_) (fun cdv A outer s H vs Q E hr h => ?_)
  · obtain ⟨p, n, m, rfl, _⟩ := h
    rfl
  · obtain ⟨p, n, m, rfl, hP, n24, m100, q⟩ := h
    have pw : 2 ^ n ≤ 2 ^ 24 := Nat.pow_le_pow_right (by decide) n24
    have pw1 : 0 < 2 ^ n := Nat.two_pow_pos n
    obtain ⟨op, ep⟩ := hP.some
    refine ⟨_, (pss_cons (ps_set (i := 3) sc_law_words.nd rfl (Or.inl rfl) (pe_lst pa_nil))
    (pss_cons (ps_for PassesOwn.never rfl (pi_range1 (by rfl) m_range (pa_cons (pv 2) pa_nil)) (pg_name (i := 4) sc_law_words.nd rfl (Or.inl rfl))
      (pss_one (ps_expr (pe_bm PySem.F.plainAttrs_list PySem.F.slot_list_append PySem.F.type_list_append mt_append (pv 3) (pa_cons (pe_cal C_law_draw (hr.mono (by decide)) (by rfl) (pa_cons (pv 0) (pa_cons (pe_op op_pow2 pe_int (pv 1)) pa_nil))) pa_nil)))))
    (pss_one (ps_ret (pv 3))))), ?_⟩
    refine ⟨Nat.zero_le _, fun G hG => ?_⟩
    have npG : p ≠ G := ne_of_none ep hG
    refine ⟨.int m, rfl, (m : Int), rfl, by omega, by omega, ?_⟩
    refine for_range (lo := 0) (n := (m : Int).toNat) (fun i σ H' => ∃ (l : List Nat) (z : Option V), σ = [some (.ref p), some (.int n), some (.int m), some (.ref G), z] ∧ H' G = some (.lst (Vf.vs l)) ∧ l.length = i ∧ (∀ v ∈ l, v < 2 ^ n) ∧ Pot H' p ∧ But p H H')
      ⟨[], none, rfl, upd_same, rfl, fun _ k => (List.not_mem_nil k).elim, hP.same (same_new hG), .of (same_new hG)⟩ (fun i σ H1 hi hI => ?_) fun σ H1 hI => ?_
    · obtain ⟨l, z, rfl, eG, hl, hv, hP1, b1⟩ := hI
      rw [Int.toNat_natCast] at hi
      refine ⟨.ref G, rfl, .inl ⟨rfl, _, SqL.of eG⟩, .ref p, rfl, .int n, rfl, n, rfl, rfl, by omega, p, 2 ^ n, rfl, hP1, pw1, by omega, fun H2 d b2 hP2 hd => ?_⟩
      have eG2 := b2 _ _ npG.symm eG
      refine ⟨G, Vf.vs l, .int (d : Nat), rfl, rfl, eG2, by rw [len_vs]; exact sl_lt (by omega), l ++ [d], some (.int (0 + (i : Int))), rfl, ?_, ?_, fun v hv' => ?_, hP2.upd npG, (b1.trans b2).new hG⟩
      · rw [upd_same, vs_append]
        rfl
      · rw [List.length_append, hl]
        rfl
      · rcases List.mem_append.mp hv' with k | k
        · exact hv v k
        · rw [List.mem_singleton.mp k]
          exact hd
    · obtain ⟨l, z, rfl, eG, hl, hv, hP1, b1⟩ := hI
      rw [Int.toNat_natCast] at hl
      exact ⟨.ref G, rfl, q H1 G l b1 hP1 hG npG.symm eG hl hv⟩
end
end K12

set_option Elab.async false
set_option linter.all false
set_option maxRecDepth 100000
set_option maxHeartbeats 4000000
set_option pp.maxSteps 300
namespace Vf
open PySem PySem.Spec PyProof.Rows L2
theorem inV_vs (v : Nat) (l : List Nat) : inV (.int (v : Int)) (vs l) = decide (v ∈ l) := by
  unfold inV vs
  rw [List.any_map]
  rw [Bool.eq_iff_iff, List.any_eq_true, decide_eq_true_iff]
  constructor
  · rintro ⟨x, hx, e⟩
    have e2 : (x : Int) = (v : Int) := beq_iff_eq.mp e
    have : x = v := by omega
    exact this ▸ hx
  · intro h
    exact ⟨v, h, beq_self_eq_true _⟩
theorem flatV_vs (l : List Nat) : (vs l).all flatV = true := by
  rw [List.all_eq_true]
  intro x hx
  obtain ⟨i, _, rfl⟩ := List.mem_map.mp hx
  rfl
/-- a word more among all sums -/
theorem span_step {s ws : List Nat} {c : Nat} (h : ∀ v, v ∈ s ↔ span ws v) (v : Nat) : v ∈ s ++ s.map (c ^^^ ·) ↔ span (ws ++ [c]) v := by
  rw [List.mem_append, h, List.mem_map, span_perm (List.perm_append_comm (l₁ := ws) (l₂ := [c]))]
  show _ ↔ span (c :: ws) v
  rw [span_cons]
  refine or_congr Iff.rfl ⟨?_, fun k => ⟨v ^^^ c, (h _).mpr k, by rw [Nat.xor_comm, xor_cancel]⟩⟩
  rintro ⟨u, hu, rfl⟩
  rw [Nat.xor_comm, ← Nat.xor_assoc, Nat.xor_self, Nat.zero_xor]
  exact (h u).mp hu
theorem span_same {ws : List Nat} {c : Nat} (h : span ws c) (v : Nat) : span (ws ++ [c]) v ↔ span ws v := span_append_of fun x hx => by
  rw [List.mem_singleton.mp hx]
  exact h
theorem nodup_step {s ws : List Nat} {c : Nat} (h : ∀ v, v ∈ s ↔ span ws v) (nd : s.Nodup) (nc : ¬ span ws c) : (s ++ s.map (c ^^^ ·)).Nodup := by
  rw [List.nodup_append]
  refine ⟨nd, ?_, fun x hx y hy e => ?_⟩
  · unfold List.Nodup
    rw [List.pairwise_map]
    exact nd.imp fun n e => n (by
      have := congrArg (c ^^^ ·) e
      simpa [← Nat.xor_assoc] using this)
  · subst e
    obtain ⟨u, hu, e⟩ := List.mem_map.mp hy
    apply nc
    have := span_xor ((h x).mp hx) ((h u).mp hu)
    rw [← e, xor_cancel] at this
    exact this
theorem lt_of_le_nd {l : List Nat} (h : l.Pairwise (· ≤ ·)) (nd : l.Nodup) : l.Pairwise (· < ·) := by
  refine (List.Pairwise.and h nd).imp fun k => ?_
  obtain ⟨a, b⟩ := k
  omega
theorem up_eq {l m : List Nat} (hl : l.Pairwise (· < ·)) (hm : m.Pairwise (· < ·)) (h : ∀ x, x ∈ l ↔ x ∈ m) : l = m := by
  have r : l.reverse = m.reverse := asc_eq (List.pairwise_reverse.mpr hl) (List.pairwise_reverse.mpr hm) fun x => by
    rw [List.mem_reverse, List.mem_reverse, h]
  have := congrArg List.reverse r
  simpa using this
/-- the law's way to the basis: whether a word is the first of its top -/
theorem first_iff {B pre : List Nat} {v high : Nat} (h : Plain B) (hv : span B v) (v0 : v ≠ 0) (all : ∀ u, span B u → u < v → u = 0 ∨ u ∈ pre) (low : ∀ u ∈ pre, u < high ∧ u < v) (hh : high = 0 ∨ ∃ f ∈ pre, high = 2 ^ (f.log2 + 1) ∧ f ≠ 0) (sub : ∀ u ∈ pre, span B u) :
    high ≤ v ↔ v ∈ B := by
  rw [basis_iff h]
  constructor
  · intro le
    refine ⟨hv, v0, fun u hu lt => ?_⟩
    rcases all u hu lt with rfl | hp
    · exact Nat.two_pow_pos _
    · have l1 := (low u hp).1
      rcases hh with rfl | ⟨f, hf, rfl, f0⟩
      · omega
      · have : f.log2 + 1 ≤ v.log2 := by
          rcases Nat.lt_or_ge v.log2 (f.log2 + 1) with k | k
          · have := (lt_pow_log (n := f.log2 + 1) v0).mpr k
            omega
          · exact k
        exact Nat.lt_of_lt_of_le l1 (Nat.pow_le_pow_right (by decide) this)
  · rintro ⟨_, _, least⟩
    rcases hh with rfl | ⟨f, hf, rfl, f0⟩
    · exact Nat.zero_le _
    · refine Nat.le_of_not_lt fun k => ?_
      have l2 : v.log2 < f.log2 + 1 := (lt_pow_log v0).mp k
      have := least f (sub f hf) (low f hf).2
      have h3 := Nat.log2_self_le f0
      have : 2 ^ v.log2 ≤ 2 ^ f.log2 := Nat.pow_le_pow_right (by decide) (by omega)
      omega
theorem cut1 (xs : List V) : cutV xs (some 1) none = xs.drop 1 := by
  unfold cutV
  rw [show HT.sIx xs.length 0 (some 1) = min 1 xs.length from HT.sIx_nat xs.length 0 1, HT.sIx_none]
  cases xs with
  | nil => rfl
  | cons x r =>
    have m1 : min 1 (x :: r).length = 1 := by
      rw [List.length_cons]
      omega
    rw [m1]
    show List.take ((x :: r).length - 1) r = r
    rw [List.length_cons, Nat.add_sub_cancel]
    exact List.take_length
theorem cutTo (xs : List V) (n : Nat) : cutV xs none (some (n : Int)) = xs.take n := by
  unfold cutV
  rw [HT.sIx_none, show HT.sIx xs.length xs.length (some (n : Int)) = min n xs.length from HT.sIx_nat xs.length xs.length n, List.drop_zero, Nat.sub_zero]
  rcases Nat.le_total n xs.length with h | h
  · rw [Nat.min_eq_left h]
  · rw [Nat.min_eq_right h, List.take_length, List.take_of_length_le h]
theorem vs_drop (l : List Nat) (n : Nat) : (vs l).drop n = vs (l.drop n) := by unfold vs; rw [List.map_drop]
theorem vs_take (l : List Nat) (n : Nat) : (vs l).take n = vs (l.take n) := by unfold vs; rw [List.map_take]
theorem vs_rev (l : List Nat) : (vs l).reverse = vs l.reverse := by unfold vs; rw [List.map_reverse]
end Vf
namespace K12
open PySem PySem.Spec PyProof.Rows L2 Vf
abbrev s_law_span : Stmt := topS 31
abbrev N_law_span : List Str := ["_law_words_here", "_law_found", "_law_word", "_law_one"]
theorem sc_law_span : FnScope N_law_span ["_law_words_here"] (defScope s_law_span) := ⟨rfl, rfl, rfl, by decide +kernel, rfl, by decide +kernel, by decide +kernel⟩
abbrev s_law_basis : Stmt := topS 32
abbrev N_law_basis : List Str := ["_law_span_here", "_law_found", "_law_high", "_law_word"]
theorem sc_law_basis : FnScope N_law_basis ["_law_span_here"] (defScope s_law_basis) := ⟨rfl, rfl, rfl, by decide +kernel, rfl, by decide +kernel, by decide +kernel⟩
section
variable {P : Program} {w : World} {K : PySem.W.Frag} {mg : Str → Option Value} {base : Heap}
def sp_span : Sp := fun vs0 H Q _ => ∃ (a : Addr) (ws : List Nat), vs0 = [.ref a] ∧ H a = some (.lst (vs ws)) ∧ ws.length ≤ 8 ∧
  ∀ (H' : Hp) (p : Addr) (L : List Nat), Same H H' → H p = none → H' p = some (.lst (vs L)) → (∀ v, v ∈ L ↔ span ws v) → L.Pairwise (· < ·) → L.length ≤ 2 ^ ws.length → Q (.ref p) H'
theorem ok_law_span {f : Addr} {fd : FuncData} (F : Fun K "_law_span" "_law_span" s_law_span f fd) (m_sorted : mg "sorted" = none) : FnOk P w K mg base CX0 1 f fd ["_law_words_here"] sp_span := by
  refine F.ok sc_law_span (fun vs H Q E h => ?_) (fun cdv A outer s H vs Q E hr h => ?_)
  · obtain ⟨a, ws, rfl, _⟩ := h
    rfl
  · obtain ⟨a, ws, rfl, eA, lw, q⟩ := h
    refine ⟨_, (pss_cons (ps_set (i := 1) sc_law_span.nd rfl (Or.inl rfl) (pe_lst (pa_cons pe_int pa_nil)))
    (pss_cons (ps_for PassesOwn.never rfl (pi_list (pv 0)) (pg_name (i := 2) sc_law_span.nd rfl (Or.inr rfl))
      (pss_one (ps_if (pt_cmpR op_notIn_seq (pv 2) (pv 1) (by with_unfolding_all rfl)) (pss_one (ps_set (i := 1) sc_law_span.nd rfl (Or.inl rfl) (pe_op op_cat (pv 1) (pe_lc (own := [("_law_one", 3)]) (g := gName 3) (by rfl) sc_law_span.nd (pi_list (pv 1)) (blkOk_by (own := [("_law_one", 3)]) (N := N_law_span) (sc := defScope s_law_span) (by decide +kernel)) (fun _ _ _ _ _ => pg_name (i := 3) sc_law_span.nd rfl (Or.inl rfl)) (fun _ _ _ _ _ => pts_nil) (fun _ _ _ _ _ => (pe_op op_xorN (pv 2) (pv 3))))))) pss_nil)))
    (pss_one (ps_ret (pe_callB cr_sortedI (by rfl) m_sorted (by decide +kernel) (pa_cons (pv 1) pa_nil)))))), ?_⟩
    refine ⟨Nat.succ_le_of_lt (sl_lt (by decide)), fun S0 nS0 => ⟨.ref a, rfl, a, rfl, ⟨_, SqL.of ((same_new nS0) _ _ eA)⟩, ?_⟩⟩
    refine for_list (K := K) (a := a) (xs := Vf.vs ws) (fun i σ H' => ∃ (z z2 : Option V) (S : Addr) (l : List Nat), σ = [some (.ref a), some (.ref S), z, z2] ∧ Same H H' ∧ H S = none ∧ H' S = some (.lst (Vf.vs l)) ∧ (∀ v, v ∈ l ↔ span (ws.take i) v) ∧ l.Nodup ∧ l.length ≤ 2 ^ i)
      ⟨none, none, S0, [0], rfl, same_new nS0, nS0, upd_same, fun v => ⟨fun k => by rw [List.mem_singleton.mp k]; exact span_zero _, fun k => List.mem_singleton.mpr (span_nil k)⟩, by simp, Nat.le_refl _⟩
      (fun i σ H' _ hI => ?_) (fun i x σ H' hx hI => ?_) fun σ H' hI => ?_
    · obtain ⟨z, z2, S, l, _, sm, _⟩ := hI
      exact SqL.of (sm _ _ eA)
    · obtain ⟨z, z2, S, l, rfl, sm, nS, eS, mem, nd, ln⟩ := hI
      obtain ⟨c, ec, rfl⟩ := get_vs hx
      have il : i < ws.length := (List.getElem?_eq_some_iff.mp ec).1
      have tk : ws.take (i + 1) = ws.take i ++ [c] := by
        rw [List.take_add_one, ec]
        rfl
      have l256 : 2 ^ i ≤ 256 := Nat.le_trans (Nat.pow_le_pow_right (by decide) (show i ≤ 8 by omega)) (by decide)
      refine ⟨.int c, rfl, .ref S, rfl, S, _, rfl, .inl (SqL.of eS), rfl, flatV_vs l, _, rfl, ?_⟩
      rw [inV_vs]
      by_cases hc : c ∈ l
      · rw [decide_eq_true hc]
        refine iteF ?_
        refine ⟨_, _, S, l, rfl, sm, nS, eS, fun v => ?_, nd, Nat.le_trans ln (Nat.pow_le_pow_right (by decide) (Nat.le_succ i))⟩
        rw [tk, mem, span_same ((mem c).mp hc)]
      · rw [decide_eq_false hc]
        refine iteT ?_
        refine ⟨.ref S, rfl, .ref S, rfl, S, rfl, ⟨_, SqL.of eS⟩, fun D hD => ?_⟩
        refine lc_list (K := K) (a := S) (xs := Vf.vs l) (fun j H2 => Same H' H2 ∧ H2 D = some (.lst (Vf.vs ((l.take j).map (c ^^^ ·))))) ⟨same_new hD, upd_same⟩
          (fun j H2 _ hP => hP.1.seq (SqL.of eS)) (fun j x H2 hx hP => ?_) fun H2 hP => ?_
        · obtain ⟨sm2, eD⟩ := hP
          obtain ⟨u, eu, rfl⟩ := get_vs hx
          refine ⟨rfl, yes_ ?_⟩
          refine iteT ?_
          refine ⟨.int c, rfl, .int u, rfl, c, u, rfl, rfl, _, eD, ?_, fun a o e => ?_, ?_⟩
          · rw [len_vs, List.length_map, List.length_take]
            exact sl_lt (by omega)
          · rw [upd_ne (ne_of_none e hD)]
            exact sm2 a o e
          · rw [upd_same, List.take_add_one, eu, List.map_append, vs_append]
            rfl
        · obtain ⟨sm2, eD⟩ := hP
          rw [len_vs, List.take_length] at eD
          refine ⟨S, D, _, _, rfl, rfl, sm2 _ _ eS, eD, ?_, fun p np => ?_⟩
          · rw [len_vs, len_vs, List.length_map]
            exact Nat.le_of_lt (sl_lt (by omega))
          · refine ⟨_, _, p, l ++ l.map (c ^^^ ·), rfl, sm.trans (sm2.trans (same_new np)), (sm.trans sm2).free np, ?_, fun v => ?_, nodup_step mem nd fun k => hc ((mem c).mpr k), ?_⟩
            · rw [upd_same, vs_append]
            · rw [tk]
              exact span_step mem v
            · rw [List.length_append, List.length_map, Nat.pow_succ]
              omega
    · obtain ⟨z, z2, S, l, rfl, sm, nS, eS, mem, nd, ln⟩ := hI
      rw [len_vs, List.take_length] at mem
      rw [len_vs] at ln
      refine ⟨.ref S, rfl, S, (l.map fun i : Nat => (i : Int)), rfl, SqL.of (by rw [← vs_int]; exact eS), fun ns' p pm od np => ?_⟩
      obtain ⟨L, rfl, p2⟩ := back_vs pm
      have o2 : (L.map fun i : Nat => (i : Int)).Pairwise (· ≤ ·) := od
      rw [List.pairwise_map] at o2
      refine q _ p L (sm.trans (same_new np)) (sm.free np) (by rw [upd_same, ← vs_int]) (fun v => by rw [p2.mem_iff]; exact mem v) (lt_of_le_nd (o2.imp fun h => by omega) (p2.nodup_iff.mpr nd)) ?_
      rw [p2.length_eq]
      exact ln
def sp_lbasis : Sp := fun vs0 H Q _ => ∃ (a : Addr) (L B : List Nat), vs0 = [.ref a] ∧ H a = some (.lst (vs L)) ∧ L.length ≤ 1000 ∧ L.Pairwise (· < ·) ∧ Plain B ∧ (∀ v, v ∈ L ↔ span B v) ∧
  ∀ (H' : Hp) (p : Addr), Same H H' → H p = none → H' p = some (.lst (vs B)) → Q (.ref p) H'
theorem ok_law_basis {f : Addr} {fd : FuncData} (F : Fun K "_law_basis" "_law_basis" s_law_basis f fd) : FnOk P w K mg base CX0 1 f fd ["_law_span_here"] sp_lbasis := by
  refine F.ok sc_law_basis (fun vs H Q E h => ?_) (fun cdv A outer s H vs Q E hr h => ?_)
  · obtain ⟨a, L, B, rfl, _⟩ := h
    rfl
  · obtain ⟨a, L, B, rfl, eA, lL, asc, pl, mem, q⟩ := h
    -- 0 stands first
    obtain ⟨M, rfl⟩ : ∃ M, L = 0 :: M := by
      have h0 : 0 ∈ L := (mem 0).mpr (span_zero B)
      cases L with
      | nil => cases h0
      | cons x M =>
        rcases List.mem_cons.mp h0 with e | e
        · exact ⟨M, by rw [e]⟩
        · have := (List.pairwise_cons.mp asc).1 0 e
          omega
    have ascM := (List.pairwise_cons.mp asc).2
    have posM : ∀ v ∈ M, 0 < v := fun v hv => (List.pairwise_cons.mp asc).1 v hv
    refine ⟨_, (pss_cons (ps_par (i := 1) (j := 2) (by rfl) sc_law_basis.nd rfl rfl (by decide) rfl rfl (pa_cons (pe_lst pa_nil) (pa_cons pe_int pa_nil)) (by rfl))
    (pss_cons (ps_for PassesOwn.never rfl (pi_list (pe_slice sl_list (pv 0) (po_some pe_int) po_none)) (pg_name (i := 3) sc_law_basis.nd rfl (Or.inl rfl))
      (pss_one (ps_if (pt_cmpR op_ge (pv 3) (pv 2) (nomark _)) (pss_cons (ps_expr (pe_bm PySem.F.plainAttrs_list PySem.F.slot_list_append PySem.F.type_list_append mt_append (pv 1) (pa_cons (pv 3) pa_nil)))
    (pss_cons (ps_set (i := 2) sc_law_basis.nd rfl (Or.inl rfl) pe_int)
    (pss_one (ps_while PassesOwn.never (pt_cmpR op_le (pv 2) (pv 3) (nomark _)) (pss_one (ps_set (i := 2) sc_law_basis.nd rfl (Or.inl rfl) (pe_op op_mulN pe_int (pv 2)))))))) pss_nil)))
    (pss_one (ps_ret (pe_revL (pv 1)))))), ?_⟩
    refine ⟨Nat.zero_le _, fun G hG => ⟨_, _, rfl, ?_⟩⟩
    have s1 := same_new (o := .lst []) hG
    refine ⟨.ref a, rfl, 1, rfl, a, _, rfl, SqL.of (s1 _ _ eA), fun T nT => ⟨T, rfl, ⟨_, SqL.of upd_same⟩, ?_⟩⟩
    have eT : cutV (Vf.vs (0 :: M)) (some 1) none = Vf.vs M := by rw [cut1]; rfl
    rw [eT]
    have s2 := same_new (o := .lst (Vf.vs M)) nT
    have nTG : T ≠ G := fun e => by
      rw [e, upd_same] at nT
      cases nT
    have nTH : H T = none := s1.free nT
    refine for_list (K := K) (a := T) (xs := Vf.vs M) (fun i σ H' => ∃ (l : List Nat) (high : Nat) (z : Option V), σ = [some (.ref a), some (.ref G), some (.int (high : Int)), z] ∧ Same H H' ∧ H' G = some (.lst (Vf.vs l)) ∧ H' T = some (.lst (Vf.vs M)) ∧
        (∀ v, v ∈ l ↔ v ∈ M.take i ∧ v ∈ B) ∧ l.Pairwise (· < ·) ∧ l.length ≤ i ∧ (∀ u ∈ M.take i, u < high) ∧ (high = 0 ∨ ∃ f ∈ M.take i, high = 2 ^ (f.log2 + 1) ∧ f ≠ 0))
      ⟨[], 0, none, rfl, s1.trans s2, s2 _ _ upd_same, upd_same, fun v => ⟨fun k => (List.not_mem_nil k).elim, fun k => (List.not_mem_nil k.1).elim⟩, List.Pairwise.nil, Nat.le_refl _, fun u k => (List.not_mem_nil k).elim, .inl rfl⟩
      (fun i σ H' _ hI => ?_) (fun i x σ H' hx hI => ?_) fun σ H' hI => ?_
    · obtain ⟨l, high, z, _, _, _, e, _⟩ := hI
      exact SqL.of e
    · obtain ⟨l, high, z, rfl, sm, eG, eT2, ml, al, ll, low, hh⟩ := hI
      obtain ⟨v, ev, rfl⟩ := get_vs hx
      have il : i < M.length := (List.getElem?_eq_some_iff.mp ev).1
      have vM : v ∈ M := List.mem_of_getElem? ev
      have tk : M.take (i + 1) = M.take i ++ [v] := by
        rw [List.take_add_one, ev]
        rfl
      have v0 : v ≠ 0 := Nat.ne_of_gt (posM v vM)
      have vs0 : span B v := (mem v).mp (List.mem_cons_of_mem _ vM)
      have lt1 : ∀ u ∈ M.take i, u < v := fun u hu => by
        have ev' : M[i] = v := by
          have := List.getElem?_eq_getElem il
          rw [this] at ev
          exact Option.some.inj ev
        obtain ⟨j, hj, rfl⟩ := List.getElem_of_mem hu
        rw [List.length_take] at hj
        rw [List.getElem_take, ← ev']
        exact List.pairwise_iff_getElem.mp ascM j i (by omega) il (by omega)
      have all : ∀ u, span B u → u < v → u = 0 ∨ u ∈ M.take i := fun u hu lt => by
        rcases List.mem_cons.mp ((mem u).mpr hu) with k | k
        · exact .inl k
        · right
          have sp : M = M.take i ++ M.drop i := (List.take_append_drop i M).symm
          rw [sp] at k
          rcases List.mem_append.mp k with k | k
          · exact k
          · exfalso
            obtain ⟨j, hj, e⟩ := List.getElem_of_mem k
            rw [List.length_drop] at hj
            rw [List.getElem_drop] at e
            have ev' : M[i] = v := by
              have := List.getElem?_eq_getElem il
              rw [this] at ev
              exact Option.some.inj ev
            by_cases j0 : j = 0
            · subst j0
              have : M[i + 0] = M[i] := rfl
              rw [this, ev'] at e
              omega
            · have := List.pairwise_iff_getElem.mp ascM i (i + j) il (by omega) (by omega)
              rw [ev', e] at this
              omega
      have sub : ∀ u ∈ M.take i, span B u := fun u hu => (mem u).mp (List.mem_cons_of_mem _ (List.mem_of_mem_take hu))
      have key := first_iff pl vs0 v0 all (fun u hu => ⟨low u hu, lt1 u hu⟩) hh sub
      refine ⟨.int v, rfl, .int high, rfl, v, high, rfl, rfl, _, rfl, ite2 (fun hb => ?_) (fun hb => ?_)⟩
      · have le : high ≤ v := by
          have := of_decide_eq_true hb
          omega
        have vB := key.mp le
        have npG : T ≠ G := nTG
        refine ⟨.ref G, rfl, .inl ⟨rfl, _, SqL.of eG⟩, .int v, rfl, G, _, .int v, rfl, rfl, eG, by rw [len_vs]; exact sl_lt (by rw [List.length_cons] at lL; omega), ?_⟩
        refine while_by (fun σ H2 => ∃ j : Nat, σ = [some (.ref a), some (.ref G), some (.int ((2 ^ j : Nat) : Int)), some (.int (v : Int))] ∧ (j = 0 ∨ 2 ^ (j - 1) ≤ v) ∧ H2 = upd H' G (.lst (Vf.vs l ++ [.int (v : Int)])))
          (fun σ _ => match σ with | [_, _, some (.int h), _] => v + 1 - h.toNat | _ => 0) ⟨0, rfl, .inl rfl, rfl⟩ ?_
          (fun σ H Q Q' f ⟨v1, e1, v2, e2, i1, j1, a1, a2, k1, a3, q1⟩ => ⟨v1, e1, v2, e2, i1, j1, a1, a2, k1, a3, f _ _ q1⟩)
        rintro σ H2 ⟨j, rfl, hj, rfl⟩
        have p1 := Nat.two_pow_pos j
        refine ⟨_, rfl, .int v, rfl, ((2 ^ j : Nat) : Int), v, rfl, rfl, _, rfl, ite2 (fun hb2 => ?_) (fun hb2 => ?_)⟩
        · have le2 : 2 ^ j ≤ v := by
            have := of_decide_eq_true hb2
            omega
          refine ⟨_, rfl, 2, 2 ^ j, rfl, rfl, by decide, ⟨j + 1, ?_, .inr le2, rfl⟩, ?_⟩
          · rw [Nat.pow_succ, Nat.mul_comm]
            rfl
          · show v + 1 - ((2 * 2 ^ j : Nat) : Int).toNat < v + 1 - ((2 ^ j : Nat) : Int).toNat
            rw [Int.toNat_natCast, Int.toNat_natCast]
            omega
        · have gt : v < 2 ^ j := by
            have : ¬ ((2 ^ j : Nat) : Int) ≤ (v : Int) := fun z => hb2 (decide_eq_true z)
            omega
          have ej : j = v.log2 + 1 := by
            have h1 : v.log2 < j := (lt_pow_log v0).mp gt
            rcases hj with rfl | hj
            · omega
            · have h2 : ¬ v < 2 ^ (j - 1) := by omega
              have h3 : ¬ v.log2 < j - 1 := fun k => h2 ((lt_pow_log v0).mpr k)
              omega
          have np2 : H G = none := hG
          refine ⟨l ++ [v], 2 ^ j, some (.int (v : Int)), rfl, fun b o e => ?_, ?_, ?_, fun u => ?_, ?_, ?_, fun u hu => ?_, .inr ⟨v, ?_, by rw [ej], v0⟩⟩
          · rw [upd_ne (ne_of_none e np2)]
            exact sm b o e
          · rw [upd_same, vs_append]
            rfl
          · rw [upd_ne npG]
            exact eT2
          · rw [tk, List.mem_append, List.mem_append, ml, List.mem_singleton]
            constructor
            · rintro (⟨k1, k2⟩ | rfl)
              · exact ⟨.inl k1, k2⟩
              · exact ⟨.inr rfl, vB⟩
            · rintro ⟨k1 | k1, k2⟩
              · exact .inl ⟨k1, k2⟩
              · exact .inr k1
          · rw [List.pairwise_append]
            exact ⟨al, List.pairwise_singleton _ _, fun x hx y hy => by rw [List.mem_singleton.mp hy]; exact lt1 x ((ml x).mp hx).1⟩
          · rw [List.length_append]
            show l.length + 1 ≤ i + 1
            omega
          · rw [tk] at hu
            rcases List.mem_append.mp hu with k | k
            · have := lt1 u k
              omega
            · rw [List.mem_singleton.mp k]
              exact gt
          · rw [tk]
            exact List.mem_append_right _ List.mem_cons_self
      · have lt : v < high := by
          have : ¬ (high : Int) ≤ (v : Int) := fun z => hb (decide_eq_true z)
          omega
        have nB : v ∉ B := fun k => by
          have := key.mpr k
          omega
        refine ⟨l, high, some (.int (v : Int)), rfl, sm, eG, eT2, fun u => ?_, al, by omega, fun u hu => ?_, ?_⟩
        · rw [tk, List.mem_append, ml, List.mem_singleton]
          constructor
          · rintro ⟨k1, k2⟩
            exact ⟨.inl k1, k2⟩
          · rintro ⟨k1 | k1, k2⟩
            · exact ⟨k1, k2⟩
            · exact absurd (k1 ▸ k2) nB
        · rw [tk] at hu
          rcases List.mem_append.mp hu with k | k
          · exact low u k
          · rw [List.mem_singleton.mp k]
            exact lt
        · rcases hh with k | ⟨f, hf, k⟩
          · exact .inl k
          · exact .inr ⟨f, by rw [tk]; exact List.mem_append_left _ hf, k⟩
    · obtain ⟨l, high, z, rfl, sm, eG, _, ml, al, ll, _, _⟩ := hI
      rw [len_vs, List.take_length] at ml
      have eB : l.reverse = B := asc_eq (List.pairwise_reverse.mpr al) pl.2 fun x => by
        rw [List.mem_reverse, ml]
        constructor
        · exact fun k => k.2
        · intro k
          have hx := (mem x).mpr (span_mem k)
          rcases List.mem_cons.mp hx with e | e
          · exact absurd e (pl.1.2 x k)
          · exact ⟨e, k⟩
      refine ⟨.ref G, rfl, G, _, rfl, SqL.of eG, fun p np => q _ p (sm.trans (same_new np)) (sm.free np) ?_⟩
      rw [upd_same, vs_rev, eB]
end
end K12

set_option Elab.async false
set_option linter.all false
set_option maxRecDepth 100000
set_option maxHeartbeats 4000000
set_option pp.maxSteps 300
namespace Vf
open PySem PySem.Spec PyProof.Rows L2
/-! ### str of data -/
structure rStrD (K : PySem.W.Frag) (xs : List V) (H : Hp) (Q : VK) : Prop where
  ex : ∃ a d, xs = [.ref a] ∧ Dp K H (.ref a) d ∧ d.showable = true ∧ d.hasDict = false ∧ d.depth ≤ 60 ∧ d.shown.length ≤ sizeLine ∧ Q (.str d.shown) H
theorem call_strD {X : Cx} (hg : X.A.guards = some []) (hu : X.A.units + 64 < cLine) : CallR X (.type "str") (rStrD X.K) := by
  intro pins s σ H xs us Q I r h
  obtain ⟨a, d, rfl, hD, hs, hn, hd, hz, q⟩ := h.ex
  obtain ⟨u1, rfl, r1⟩ := vals1 r
  cases (show u1 = Value.ref a from r1)
  obtain ⟨as, rd⟩ := Dp.reads I d _ _ hD rfl
  refine str_of_reads rd hs (fun z => ?_) hg (by omega) (fun _ _ e => e) (fun h' u tk hk => ?_) hz
  · rw [hn] at z
    cases z
  · exact ⟨.str d.shown, H, I.kept (fun b o e => hk b o e), ⟨u, rfl⟩, q⟩
theorem str_small {K : PySem.W.Frag} {H : Hp} {Q : VK} {a : Addr} {xs : List V} (ha : SqL K H a xs) (h : ∀ x ∈ xs, small x = true) (hl : xs.length ≤ 1000) (q : Q (.str (txt xs)) H) : rStrD K [.ref a] H Q := by
  obtain ⟨⟨a', d, e, r⟩⟩ := repr_small (Q := Q) ha h hl q
  exact ⟨⟨a', d, e, r⟩⟩
/-- [n, [..]] -/
def pairD (n : Nat) (B : List Nat) : PyData := .list [.int (n : Int), .list ((vs B).map toD)]
theorem repr_pair {K : PySem.W.Frag} {H : Hp} {Q : VK} {a b : Addr} {n : Nat} {B : List Nat} (ha : SqL K H a [.int (n : Int), .ref b]) (hb : SqL K H b (vs B)) (hn : n < 2 ^ 24) (hB : ∀ c ∈ B, c < 2 ^ 24) (hl : B.length ≤ 900) (q : Q (.str (pairD n B).shown) H) : rRepr K [.ref a] H Q := by
  have sm := small_vs hB
  obtain ⟨h1, h2, h3⟩ := shown_all sm
  have l1 := txt_len sm
  rw [len_vs] at l1
  have sn := small_nat hn
  refine ⟨⟨a, pairD n B, rfl, .lst ha (.cons (.int _) (.cons (.lst hb (dp_all (flat_vs B))) .nil)), ?_, ?_, ?_, ?_, q⟩⟩
  · unfold pairD
    have g1 : (PyData.int (n : Int)).showable = true := (small_show sn).1
    have g2 : (PyData.list ((vs B).map toD)).showable = true := by
      rw [PyData.showable]
      exact h1
    rw [PyData.showable, PyData.showableAll, PyData.showableAll, PyData.showableAll, g1, g2]
    rfl
  · unfold pairD
    have g2 : (PyData.list ((vs B).map toD)).hasDict = false := by
      rw [PyData.hasDict]
      exact h2
    rw [PyData.hasDict, PyData.hasDictAll, PyData.hasDictAll, PyData.hasDictAll, g2]
    rfl
  · unfold pairD
    rw [PyData.depth, PyData.depthAll, PyData.depthAll, PyData.depthAll, PyData.depth, PyData.depth, depth_all]
    decide
  · unfold pairD
    rw [PyData.shown]
    unfold listText
    rw [strLen_append, PyData.shownAll, PyData.shownAll, PyData.shownAll]
    have h4 := text_len [(PyData.int (n : Int)).shown, (PyData.list ((vs B).map toD)).shown] 0 "["
    have e1 : (("[" : String) : Str).length = 1 := rfl
    have e2 : (("]" : String) : Str).length = 1 := rfl
    have e3 : sizeLine = 16777216 := sizeLine_eq
    have e4 : (PyData.int (n : Int)).shown.length ≤ 1921 := small_len sn
    have e5 : (PyData.list ((vs B).map toD)).shown.length = (txt (vs B)).length := rfl
    simp only [List.map_cons, List.map_nil, List.sum_cons, List.sum_nil] at h4
    omega
/-! ### the rooms made, compared -/
theorem words_eq {B L M : List Nat} (pl : Piv B) (pm : M.Perm (sumsOf B)) (od : M.Pairwise (· ≤ ·)) (asc : L.Pairwise (· < ·)) (mem : ∀ v, v ∈ L ↔ span B v) : M = L :=
  up_eq (lt_of_le_nd od (pm.nodup_iff.mpr (sums_ok pl).2.1)) asc fun v => by rw [pm.mem_iff, (sums_ok pl).1, mem]
theorem span_in {B L : List Nat} (h : ∀ v ∈ L, span B v) (v : Nat) : span (L ++ B) v ↔ span B v :=
  span_iff (fun w k => (List.mem_append.mp k).elim (h w) span_mem) (fun w k => span_mem (List.mem_append_right _ k)) v
theorem sq_same {H H' : Hp} {a : Addr} {xs : List V} (s : Same H H') (h : H a = some (.lst xs) ∨ H a = some (.tup xs)) : H' a = some (.lst xs) ∨ H' a = some (.tup xs) := h.imp (s _ _) (s _ _)
end Vf
namespace K12
open PySem PySem.Spec PyProof.Rows L2 Vf
abbrev s_law_is : Stmt := topS 35
abbrev N_law_is : List Str := ["_law_room", "_law_places", "_law_span_here"]
theorem sc_law_is : FnScope N_law_is ["_law_room", "_law_places", "_law_span_here"] (defScope s_law_is) := ⟨rfl, rfl, rfl, by decide +kernel, rfl, by decide +kernel, by decide +kernel⟩
abbrev s_law_again_right : Stmt := topS 36
abbrev N_law_again_right : List Str := ["_law_pot_here", "_law_room", "_law_places", "_law_span_here", "_law_words_here", "_law_some", "_law_other", "_law_made", "_law_word"]
theorem sc_law_again_right : FnScope N_law_again_right ["_law_pot_here", "_law_room", "_law_places", "_law_span_here"] (defScope s_law_again_right) := ⟨rfl, rfl, rfl, by decide +kernel, rfl, by decide +kernel, by decide +kernel⟩
section
variable {P : Program} {w : World} {K : PySem.W.Frag} {mg : Str → Option Value} {base : Heap} {C : Addr}
theorem made_keep {H1 : Hp} {x dx : Addr} (hx : H1 x = none) (hdx : H1 dx = none) : Same H1 (upd (upd H1 dx (.own x)) x (.ins C dx [])) := fun b o e => by
  rw [upd_ne (ne_of_none e hx), upd_ne (ne_of_none e hdx)]
  exact e
theorem made_sq {H1 : Hp} {x dx a : Addr} {xs : List V} (hS : Sq H1 a xs) (hx : H1 x = none) (hdx : H1 dx = none) : Sq (upd (upd H1 dx (.own x)) x (.ins C dx [])) a xs := hS.imp (made_keep hx hdx _ _) (made_keep hx hdx _ _)
theorem made {H1 H2 : Hp} {x dx : Addr} {n : Nat} {B : List Nat} (hx : H1 x = none) (hdx : H1 dx = none) (b2 : But x (upd (upd H1 dx (.own x)) x (.ins C dx [])) H2) (rm : RoomNew C (upd (upd H1 dx (.own x)) x (.ins C dx [])) H2 x n B) :
    Same H1 H2 ∧ RoomNew C H1 H2 x n B := by
  refine ⟨fun b o e => b2 _ _ (ne_of_none e hx) (made_keep hx hdx b o e), ?_⟩
  obtain ⟨d, b, e1, e2, r1, r2, r3, r4, n0⟩ := rm
  refine ⟨d, b, e1, e2, r1, r2, r3, r4, ?_⟩
  cases k : H1 b with
  | none => rfl
  | some o =>
    rw [made_keep (C := C) hx hdx b o k] at n0
    cases n0
theorem neg_t {p : Prop} [Decidable p] (h : p) : V.bl (if true = true then !decide p else decide p) = V.bl false := by
  rw [if_pos rfl, decide_eq_true h]
  rfl
theorem pos_f {p : Prop} [Decidable p] (h : ¬ p) : V.bl (if false = true then !decide p else decide p) = V.bl false := by
  rw [if_neg (by simp), decide_eq_false h]
theorem _root_.Vf.RoomNew.plain {C : Addr} {H0 H : Hp} {a : Addr} {n : Nat} {B : List Nat} (h : RoomNew C H0 H a n B) : Plain B := by
  obtain ⟨_, _, _, _, p, _⟩ := h
  exact p
theorem _root_.Vf.RoomNew.at {C : Addr} {H0 H : Hp} {a : Addr} {n : Nat} {B : List Nat} (h : RoomNew C H0 H a n B) : RoomAt C H a n B := by
  obtain ⟨dx, b, e1, e2, a1, a2, a3, a4, _⟩ := h
  exact ⟨dx, b, e1, e2, a1, a2, a3, a4⟩
theorem own_rooms {X : Cx} {H : Hp} {Q : VK} {x z : Addr} {n m : Nat} {B D : List Nat} {neg : Bool} (hx : RoomAt C H x n B) (hz : RoomAt C H z m D) (q : Q (.bl (if neg then !decide (n = m ∧ B = D) else decide (n = m ∧ B = D))) H) :
    rOwn X C (sp_eq X.K C) neg (.ref x) (.ref z) H Q := by
  obtain ⟨dx, b, e1, _⟩ := id hx
  obtain ⟨dz, d, e2, _⟩ := id hz
  refine ⟨⟨x, dx, _, .ref C, rfl, e1, tyL_ins e2, by simp [PySem.W.notFirst], ⟨x, n, B, .ref z, rfl, hx, .inl ⟨z, m, D, rfl, hz, _, rfl, q⟩⟩⟩⟩
def sp_is (C : Addr) : Sp := fun vs0 H Q _ => ∃ (x : Addr) (n : Nat) (B : List Nat) (a : Addr) (L : List Nat), vs0 = [.ref x, .int (n : Int), .ref a] ∧ RoomAt C H x n B ∧ B.length ≤ 100 ∧ H a = some (.lst (vs L)) ∧ L.length ≤ 1000 ∧ L.Pairwise (· < ·) ∧ (∀ v, v ∈ L ↔ span B v) ∧
  ∀ H', Same H H' → Q (.bl true) H'
theorem ok_law_is {f : Addr} {fd : FuncData} (F : Fun K "_law_is" "_law_is" s_law_is f fd) (R : RKn K C) (P_places : PrpC P w K mg base C "places" 1 (sp_places C)) (M_basis : MthC P w K mg base C "basis" 1 ["self"] (sp_basis C))
    (C_law_basis : Cal P w K mg base "_law_basis" 1 ["_law_span_here"] [] sp_lbasis) (g_Room : mg "Room" = some (.ref C)) (m_isinstance : mg "isinstance" = none) (m_repr : mg "repr" = none) (n_basis : ∀ n b, (rf n b).lookup ("basis" : Str) = none) :
    GnOk P w K mg base 3 f fd ["_law_room", "_law_places", "_law_span_here"] (sp_is C) := by
  refine gn_ok F sc_law_is (fun vs H Q E h => ?_) (fun cdv A outer s H vs Q E hg hr h => ?_)
  · obtain ⟨x, n, B, a, L, rfl, _⟩ := h
    rfl
  · obtain ⟨x, n, B, a, L, rfl, hR, lB, eA, lL, asc, mem, q⟩ := h
    obtain ⟨dx, b, ex, eb, pl, n1, n24, hB⟩ := id hR
    have hn : n < 2 ^ 24 := Nat.lt_of_le_of_lt n24 (by decide)
    have hB24 : ∀ c ∈ B, c < 2 ^ 24 := fun c hc => lt24 n24 (hB c hc)
    refine ⟨_, (pss_one (ps_ret (pe_and (pe_callB call_isi (by rfl) m_isinstance (by decide +kernel) (pa_cons (pv 0) (pa_cons (pe_glob (v := .ref C) rfl g_Room rfl) pa_nil))) (pe_one (pe_cmpR op_eq (pe_callB (call_repr hg hr.units) (by rfl) m_repr (by decide +kernel) (pa_cons (pe_lst (pa_cons (pe_propC P_places (hr.mono (by decide)) (pv 0) rfl) (pa_cons (pe_meth0C M_basis (hr.mono (by decide)) (pv 0)) pa_nil))) pa_nil)) (pe_callB (call_repr hg hr.units) (by rfl) m_repr (by decide +kernel) (pa_cons (pe_lst (pa_cons (pv 1) (pa_cons (pe_cal C_law_basis (hr.mono (by decide)) (by rfl) (pa_cons (pv 2) pa_nil)) pa_nil))) pa_nil)) (nomark _)))))), ?_⟩
    refine ⟨.ref x, rfl, .ref x, .ref C, .ref C, .ref C, true, rfl, .own C, .base (.ins ex R.cl R.ca R.cn R.ct R.cm), if_pos (beq_self_eq_true _), true, rfl, iteT ?_⟩
    refine ⟨.ref x, rfl, x, dx, _, rfl, ex, x, n, B, rfl, hR, .ref x, rfl, x, dx, _, rfl, ex, n_basis n b, x, n, B, rfl, hR, fun H1 p1 s1 np1 ep1 => ⟨(by show 2 ≤ sizeLine; decide), fun R1 nR1 => ?_⟩⟩
    have t1 := same_new (o := .lst [.int (n : Int), .ref p1]) nR1
    refine repr_pair (SqL.of upd_same) (SqL.of (t1 _ _ ep1)) hn hB24 (by omega) ?_
    have s2 := s1.trans t1
    refine ⟨.int n, rfl, .ref a, rfl, a, L, B, rfl, s2 _ _ eA, lL, asc, pl, mem, fun H3 p3 s3 np3 ep3 => ⟨(by show 2 ≤ sizeLine; decide), fun R2 nR2 => ?_⟩⟩
    have t2 := same_new (o := .lst [.int (n : Int), .ref p3]) nR2
    refine repr_pair (SqL.of upd_same) (SqL.of (t2 _ _ ep3)) hn hB24 (by omega) ?_
    refine ⟨rfl, ?_⟩
    rw [decide_eq_true rfl]
    exact q _ ((s2.trans s3).trans t2)
def sp_again (C : Addr) : Sp := fun vs0 H Q _ => ∃ (p x : Addr) (n : Nat) (a : Addr) (B L : List Nat), vs0 = [.ref p, .ref x, .int (n : Int), .ref a] ∧ Pot H p ∧ a ≠ p ∧ RoomP C H x n B p ∧ n ≤ 10 ∧ B.length ≤ 7 ∧ H a = some (.lst (vs L)) ∧ L.length ≤ 256 ∧ L.Pairwise (· < ·) ∧ (∀ v, v ∈ L ↔ span B v) ∧
  ∀ H', But p H H' → Q (.bl true) H'
theorem ok_law_again {f : Addr} {fd : FuncData} (F : Fun K "_law_again_right" "_law_again_right" s_law_again_right f fd) (R : RKn K C) (M_basis : MthC P w K mg base C "basis" 1 ["self"] (sp_basis C)) (M_words : MthC P w K mg base C "words" 2 ["self"] (sp_words C))
    (MK_Room : MakC P w K mg base C "Room" 6 ["self", "places", "words"] (sp_init C)) (EC_Room : EqC P w K mg base C 1 (sp_eq K C))
    (C_law_mixed : Cal P w K mg base "_law_mixed" 2 ["_law_pot_here", "_law_some"] [] sp_mixed) (C_law_draw : Cal P w K mg base "_law_draw" 1 ["_law_pot_here", "_law_size"] [] sp_draw)
    (C_law_pick : Cal P w K mg base "_law_pick" 2 ["_law_pot_here", "_law_some"] [] sp_pick) (C_law_span : Cal P w K mg base "_law_span" 1 ["_law_words_here"] [] sp_span) (m_tuple : mg "tuple" = none)
    (n_basis : ∀ n b, (rf n b).lookup ("basis" : Str) = none) (n_words : ∀ n b, (rf n b).lookup ("words" : Str) = none)
    (kl : PySem.W.kitOne K (.type "list") (.ref C) = some false) (ki : PySem.W.kitOne K (.type "int") (.ref C) = some false) (fl : PySem.W.notFirst K C (.type "list") = true) (fi : PySem.W.notFirst K C (.type "int") = true) :
    GnOk P w K mg base 8 f fd ["_law_pot_here", "_law_room", "_law_places", "_law_span_here"] (sp_again C) := by
  refine gn_ok F sc_law_again_right (fun vs H Q E h => ?_) (fun cdv A outer s H vs Q E hg hr h => ?_)
  · obtain ⟨p, x, n, a, B, L, rfl, _⟩ := h
    rfl
  · obtain ⟨p, x, n, a, B, L, rfl, hP, nap, hR, n10, lB, eA, lL, asc, mem, q⟩ := h
    obtain ⟨dx, b, ex, eb, pl, n1, n24, hB, nbp⟩ := id hR
    have memL : ∀ v ∈ L, v < 2 ^ n := fun v hv => span_lt hB ((mem v).mp hv)
    -- what stands as long as only the pot changes
    have room : ∀ {H' : Hp}, But p H H' → RoomP C H' x n B p := fun {H'} b' => hR.but b' hP
    have list : ∀ {H' : Hp}, But p H H' → H' a = some (.lst (vs L)) := fun {H'} b' => b' _ _ nap eA
    have obj : ∀ {H' : Hp}, But p H H' → H' x = some (.ins C dx (rf n b)) := fun {H'} b' => b' _ _ (fun e => by
      subst e
      obtain ⟨x', y', e', _⟩ := hP
      rw [ex] at e'
      cases e') ex
    have h24 : ∀ {v}, v ∈ B → v < 2 ^ n := fun {v} hv => hB v hv
    refine ⟨_, (pss_cons (ps_set (i := 4) sc_law_again_right.nd rfl (Or.inl rfl) (pe_slice sl_list (pe_cal C_law_mixed (hr.mono (by decide)) (by rfl) (pa_cons (pv 0) (pa_cons (pv 3) pa_nil))) po_none (po_some pe_int)))
    (pss_cons (ps_set (i := 5) sc_law_again_right.nd rfl (Or.inl rfl) (pe_mkC MK_Room (hr.mono (by decide)) (by rfl) (pa_cons (pv 2) (pa_cons (pe_op op_cat (pv 4) (pe_meth0C M_basis (hr.mono (by decide)) (pv 1))) pa_nil))))
    (pss_cons (ps_if (PW.pt (pw_or (pt_cmpR (op_neO EC_Room (hr.mono (by decide))) (pv 5) (pv 1) (nomark _)) (pw_or (pt_cmpR (op_neO EC_Room (hr.mono (by decide))) (pe_mkC MK_Room (hr.mono (by decide)) (by rfl) (pa_cons (pv 2) (pa_cons (pe_callTy call_tuple_of (by rfl) m_tuple (by decide +kernel) (pa_cons (pe_revL (pe_meth0C M_basis (hr.mono (by decide)) (pv 1))) pa_nil)) pa_nil))) (pv 1) (nomark _)) (pw_or1 (pt_cmpR (op_neO EC_Room (hr.mono (by decide))) (pe_mkC MK_Room (hr.mono (by decide)) (by rfl) (pa_cons (pv 2) (pa_cons (pe_op op_cat (pe_lst (pa_cons pe_int pa_nil)) (pe_op op_rep (pe_meth0C M_basis (hr.mono (by decide)) (pv 1)) pe_int)) pa_nil))) (pv 1) (nomark _)))))) (pss_one (ps_ret pe_bl)) pss_nil)
    (pss_cons (ps_set (i := 6) sc_law_again_right.nd rfl (Or.inl rfl) (pe_mkC MK_Room (hr.mono (by decide)) (by rfl) (pa_cons (pe_op op_addN (pv 2) pe_int) (pa_cons (pe_meth0C M_basis (hr.mono (by decide)) (pv 1)) pa_nil))))
    (pss_cons (ps_if (PW.pt (pw_or (pt_cmpR (op_eqO EC_Room (hr.mono (by decide))) (pv 6) (pv 1) (nomark _)) (pw_or (pt_cmpR (op_neD hr.units) (pe_meth0C M_words (hr.mono (by decide)) (pv 6)) (pv 3) (nomark _)) (pw_or (pt_cmpR (op_eqO EC_Room (hr.mono (by decide))) (pv 1) (pe_meth0C M_basis (hr.mono (by decide)) (pv 1)) (nomark _)) (pw_or1 (pt_cmpR (op_eqO EC_Room (hr.mono (by decide))) (pv 1) pe_int (nomark _))))))) (pss_one (ps_ret pe_bl)) pss_nil)
    (pss_cons (ps_set (i := 7) sc_law_again_right.nd rfl (Or.inl rfl) (pe_lst pa_nil))
    (pss_cons (ps_for PassesOwn.never rfl (pi_list (pe_meth0C M_basis (hr.mono (by decide)) (pv 1))) (pg_name (i := 8) sc_law_again_right.nd rfl (Or.inl rfl))
      (pss_one (ps_expr (pe_bm PySem.F.plainAttrs_list PySem.F.slot_list_append PySem.F.type_list_append mt_append (pv 7) (pa_cons (pe_ifExp (pt_cmpR op_eqN (pe_cal C_law_draw (hr.mono (by decide)) (by rfl) (pa_cons (pv 0) (pa_cons pe_int pa_nil))) pe_int (nomark _)) (pe_op op_xorN (pv 8) (pe_cal C_law_pick (hr.mono (by decide)) (by rfl) (pa_cons (pv 0) (pa_cons (pv 3) pa_nil)))) (pv 8)) pa_nil)))))
    (pss_one (ps_ret (pe_cmpR op_eq (pe_cmpR (op_eqO EC_Room (hr.mono (by decide))) (pe_mkC MK_Room (hr.mono (by decide)) (by rfl) (pa_cons (pv 2) (pa_cons (pv 7) pa_nil))) (pv 1) (nomark _)) (pe_cmpR (op_eqD hr.units) (pe_cal C_law_span (hr.mono (by decide)) (by rfl) (pa_cons (pv 7) pa_nil)) (pv 3) (nomark _)) (nomark _))))))))))), ?_⟩
    -- some words of the room, and its basis
    refine ⟨.ref p, rfl, .ref a, rfl, p, a, vs L, rfl, hP, nap, eA, by rw [len_vs]; omega, fun H1 r l' b1 hP1 nr er pm => ?_⟩
    obtain ⟨L1, rfl, pm1⟩ := perm_vs pm
    refine ⟨24, rfl, r, vs L1, rfl, SqL.of er, fun t nt => ?_⟩
    have cut : cutV (vs L1) none (some 24) = vs (L1.take 24) := by
      have e := cutTo (vs L1) 24
      rw [vs_take] at e
      exact e
    rw [cut]
    have s2 := same_new (o := .lst (vs (L1.take 24))) nt
    have b2 := b1.trans (.of s2)
    have hP2 := hP1.same s2
    have et : (upd H1 t (.lst (vs (L1.take 24)))) t = some (.lst (vs (L1.take 24))) := upd_same
    generalize upd H1 t (.lst (vs (L1.take 24))) = H2 at b2 hP2 et s2 ⊢
    refine ⟨.int n, rfl, .ref t, rfl, .ref x, rfl, x, dx, _, rfl, obj b2, n_basis n b, x, n, B, rfl, (room b2).at, fun H3 p3 s3 np3 ep3 => ?_⟩
    refine ⟨t, p3, _, _, rfl, rfl, s3 _ _ et, ep3, ?_, fun u nu => ?_⟩
    · rw [len_vs, len_vs, List.length_take]
      exact Nat.le_of_lt (sl_lt (by omega))
    have s4 := s3.trans (same_new (o := .lst (vs (L1.take 24) ++ vs B)) nu)
    have eu : (upd H3 u (.lst (vs (L1.take 24) ++ vs B))) u = some (.lst (vs (L1.take 24 ++ B))) := by rw [upd_same, vs_append]
    have b4 := b2.trans (.of s4)
    have hP4 := hP2.same s4
    generalize upd H3 u (.lst (vs (L1.take 24) ++ vs B)) = H4 at b4 hP4 eu ⊢
    have mem1 : ∀ v ∈ L1.take 24, span B v := fun v hv => (mem v).mp (pm1.mem_iff.mp (List.mem_of_mem_take hv))
    refine fun y yd ny nyd _ => ⟨y, yd, _, _, _, rfl, upd_same, made_sq (.inl eu) ny nyd, n1, n24, (fun v hv => (List.mem_append.mp hv).elim (fun k => span_lt hB (mem1 v k)) h24), (by rw [List.length_append, List.length_take]; omega), fun H5 B5 s5' ry' sp5 ln5 => ⟨rfl, ?_⟩⟩
    obtain ⟨s5, ry⟩ := made ny nyd s5' ry'
    clear s5' ry'
    have b5 := b4.trans (.of s5)
    have hP5 := hP4.same s5
    have e5 : B5 = B := plain_unique ry.plain pl fun v => by rw [sp5, span_in mem1]
    subst e5
    have ryA := ry.at
    -- the first one
    refine ⟨.ref y, rfl, .ref x, rfl, own_rooms ryA (room b5).at ⟨false, neg_t ⟨rfl, rfl⟩, iteF ?_⟩⟩
    -- turned round, as a tuple
    refine ⟨.int n, rfl, .ref x, rfl, x, dx, _, rfl, obj b5, n_basis n b, x, n, B5, rfl, (room b5).at, fun H6 p6 s6 np6 ep6 => ⟨p6, _, rfl, SqL.of ep6, fun u6 nu6 => ⟨u6, _, rfl, .inl ⟨SqL.of upd_same, fun v6 nv6 => ?_⟩⟩⟩⟩
    have s7 := (s6.trans (same_new (o := .lst (vs B5).reverse) nu6)).trans (same_new (o := .tup (vs B5).reverse) nv6)
    have ev : (upd (upd H6 u6 (.lst (vs B5).reverse)) v6 (.tup (vs B5).reverse)) v6 = some (.tup (vs B5.reverse)) := by rw [upd_same, vs_rev]
    have b7 := b5.trans (.of s7)
    have hP7 := hP5.same s7
    have ry7 := ryA.same s7
    generalize upd (upd H6 u6 (.lst (vs B5).reverse)) v6 (.tup (vs B5).reverse) = H7 at b7 hP7 ev ry7 ⊢
    refine fun y8 y8d ny8 ny8d _ => ⟨y8, y8d, _, _, _, rfl, upd_same, made_sq (.inr ev) ny8 ny8d, n1, n24, (fun v hv => h24 (List.mem_reverse.mp hv)), (by rw [List.length_reverse]; omega), fun H8 B8 s8' r8' sp8 ln8 => ⟨rfl, ?_⟩⟩
    obtain ⟨s8, r8⟩ := made ny8 ny8d s8' r8'
    clear s8' r8'
    have b8 := b7.trans (.of s8)
    have hP8 := hP7.same s8
    have e8 : B8 = B5 := plain_unique r8.plain pl fun v => by rw [sp8, span_perm (List.reverse_perm B5)]
    refine ⟨.ref x, rfl, own_rooms r8.at (room b8).at ⟨false, neg_t ⟨rfl, e8⟩, iteF ?_⟩⟩
    -- twice, with 0
    refine ⟨.int n, rfl, Nat.succ_le_of_lt (sl_lt (by decide)), fun z9 nz9 => ?_⟩
    have s9 := same_new (o := .lst [V.int 0]) nz9
    have b9 := b8.trans (.of s9)
    refine ⟨.ref x, rfl, x, dx, _, rfl, obj b9, n_basis n b, x, n, B5, rfl, (room b9).at, fun Ha pa sa npa epa => ⟨pa, 2, _, rfl, rfl, epa, by omega, by omega, ?_, fun ua nua => ?_⟩⟩
    · rw [len_vs]
      exact Nat.le_of_lt (sl_lt (by show B5.length * 2 ≤ 100000; omega))
    have two : (List.replicate (2 : Int).toNat (vs B5)).flatten = vs (B5 ++ B5) := by
      rw [vs_append]
      show vs B5 ++ (vs B5 ++ []) = _
      rw [List.append_nil]
    rw [two]
    have sb := same_new (o := .lst (vs (B5 ++ B5))) nua
    refine ⟨z9, ua, _, _, rfl, rfl, sb _ _ (sa _ _ upd_same), upd_same, ?_, fun va nva => ?_⟩
    · rw [len_vs, List.length_append]
      exact Nat.le_of_lt (sl_lt (by show 1 + (B5.length + B5.length) ≤ 100000; omega))
    have sc := ((s9.trans sa).trans sb).trans (same_new (o := .lst ([V.int 0] ++ vs (B5 ++ B5))) nva)
    have eva : (upd (upd Ha ua (.lst (vs (B5 ++ B5)))) va (.lst ([V.int 0] ++ vs (B5 ++ B5)))) va = some (.lst (vs ([0] ++ (B5 ++ B5)))) := by
      rw [upd_same]
      show some (HO.lst (vs [0] ++ vs (B5 ++ B5))) = _
      rw [← vs_append]
    have bc := b8.trans (.of sc)
    have hPc := hP8.same sc
    generalize upd (upd Ha ua (.lst (vs (B5 ++ B5)))) va (.lst ([V.int 0] ++ vs (B5 ++ B5))) = Hc at bc hPc eva ⊢
    have in0 : ∀ v ∈ [0] ++ (B5 ++ B5), v = 0 ∨ v ∈ B5 := fun v hv => by
      rcases List.mem_append.mp hv with k | k
      · exact .inl (List.mem_singleton.mp k)
      · exact .inr ((List.mem_append.mp k).elim id id)
    refine fun yd ydd nyd nydd _ => ⟨yd, ydd, _, _, _, rfl, upd_same, made_sq (.inl eva) nyd nydd, n1, n24, (fun v hv => (in0 v hv).elim (fun e => by rw [e]; exact Nat.two_pow_pos n) h24), (by rw [List.length_append, List.length_append]; show 1 + (B5.length + B5.length) ≤ 48; omega), fun Hd Bd sd' rd' spd lnd => ⟨rfl, ?_⟩⟩
    obtain ⟨sd, rd⟩ := made nyd nydd sd' rd'
    clear sd' rd'
    have bd := bc.trans (.of sd)
    have hPd := hPc.same sd
    have ed : Bd = B5 := plain_unique rd.plain pl fun v => by
      rw [spd]
      exact span_iff (fun w k => (in0 w k).elim (fun e => by rw [e]; exact span_zero _) span_mem) (fun w k => span_mem (List.mem_append_right _ (List.mem_append_left _ k))) v
    refine ⟨.ref x, rfl, own_rooms rd.at (room bd).at ⟨false, neg_t ⟨rfl, ed⟩, iteF ?_⟩⟩
    -- a place more
    refine ⟨.int n, rfl, n, 1, rfl, rfl, .ref x, rfl, x, dx, _, rfl, obj bd, n_basis n b, x, n, B5, rfl, (room bd).at, fun He pe se npe epe => ?_⟩
    have be := bd.trans (.of se)
    have hPe := hPd.same se
    refine fun yf yfd nyf nyfd _ => ⟨yf, yfd, n + 1, pe, _, rfl, upd_same, made_sq (.inl epe) nyf nyfd, by omega, by omega, fun v hv => Nat.lt_of_lt_of_le (h24 hv) (Nat.pow_le_pow_right (by decide) (Nat.le_succ n)), by omega, fun Hf Bf sf' rg' spf lnf => ⟨rfl, ?_⟩⟩
    obtain ⟨sf, rf'⟩ := made nyf nyfd sf' rg'
    clear sf' rg'
    have bf := be.trans (.of sf)
    have hPf := hPe.same sf
    have ef : Bf = B5 := plain_unique rf'.plain pl spf
    subst ef
    obtain ⟨df, bfb, oyf, _⟩ := id rf'.at
    refine ⟨.ref yf, rfl, .ref x, rfl, own_rooms rf'.at (room bf).at ⟨false, pos_f (fun k => by omega), iteF ?_⟩⟩
    refine ⟨.ref yf, rfl, yf, df, _, rfl, oyf, n_words _ bfb, yf, n + 1, Bf, rfl, rf'.at, by omega, fun Hg pg Lg sg npg epg pmg odg => ?_⟩
    have bg := bf.trans (.of sg)
    have hPg := hPf.same sg
    refine ⟨.ref a, rfl, neD_vs (SqL.of epg) (SqL.of (list bg)) ⟨false, nbl_f (words_eq pl.1 pmg odg asc mem), iteF ?_⟩⟩
    -- other kinds
    refine ⟨.ref x, rfl, .ref x, rfl, x, dx, _, rfl, obj bg, n_basis n b, x, n, Bf, rfl, (room bg).at, fun Hh ph sh nph eph => ?_⟩
    have bh := bg.trans (.of sh)
    have hPh := hPg.same sh
    refine ⟨⟨x, dx, _, .type "list", rfl, obj bh, tyL_lst eph, fl, x, n, Bf, .ref ph, rfl, (room bh).at, .inr ⟨.type "list", .base (.lst eph), kl, false, rfl, false, rfl, iteF ?_⟩⟩⟩
    refine ⟨.ref x, rfl, ⟨x, dx, _, .type "int", rfl, obj bh, tyL_int, fi, x, n, Bf, .int 5, rfl, (room bh).at, .inr ⟨.type "int", .base (.int 5), ki, false, rfl, false, rfl, iteF ?_⟩⟩⟩
    -- other words in its place
    refine ⟨Nat.zero_le _, fun G nG => ?_⟩
    have si := same_new (o := .lst []) nG
    have bi := bh.trans (.of si)
    have hPi := hPh.same si
    have eG : (upd Hh G (.lst [])) G = some (.lst []) := upd_same
    have nGH : H G = none := bh.free hPh nG
    obtain ⟨oP, ePh⟩ := hPh.some
    have npG : p ≠ G := ne_of_none ePh nG
    generalize upd Hh G (.lst []) = Hi at bi hPi eG ⊢
    refine ⟨.ref x, rfl, x, dx, _, rfl, obj bi, n_basis n b, x, n, Bf, rfl, (room bi).at, fun Hj pj sj npj epj => ⟨pj, rfl, ⟨_, SqL.of epj⟩, ?_⟩⟩
    have bj := bi.trans (.of sj)
    have hPj := hPi.same sj
    obtain ⟨oP2, ePi⟩ := hPi.some
    have nppj : p ≠ pj := ne_of_none ePi npj
    have nGpj : G ≠ pj := ne_of_none eG npj
    have l0 : 0 < L.length := List.length_pos_of_mem ((mem 0).mpr (span_zero _))
    refine for_list (K := K) (a := pj) (xs := vs Bf) (fun i σ H' => ∃ (l : List Nat) (z : Option V), σ = [some (.ref p), some (.ref x), some (.int n), some (.ref a), some (.ref t), some (.ref y), some (.ref yf), some (.ref G), z] ∧ H' G = some (.lst (vs l)) ∧ l.length = i ∧ (∀ v ∈ l, v < 2 ^ n) ∧
        H' pj = some (.lst (vs Bf)) ∧ Pot H' p ∧ But p H H') ⟨[], none, rfl, sj _ _ eG, rfl, fun _ k => (List.not_mem_nil k).elim, epj, hPj, bj⟩ (fun i σ H' _ hI => ?_) (fun i v σ H' hx hI => ?_) fun σ H' hI => ?_
    · obtain ⟨l, z, _, _, _, _, e, _⟩ := hI
      exact SqL.of e
    · obtain ⟨l, z, rfl, eG', ll, lv, epj', hP', b'⟩ := hI
      obtain ⟨c, ec, rfl⟩ := get_vs hx
      have cB := List.mem_of_getElem? ec
      have il : i < Bf.length := (List.getElem?_eq_some_iff.mp ec).1
      refine ⟨.ref G, rfl, .inl ⟨rfl, _, SqL.of eG'⟩, .ref p, rfl, p, 2, rfl, hP', by decide, by decide, fun HA d bA hPA hd => ⟨d, 0, rfl, rfl, _, rfl, ite2 (fun hb => ?_) (fun hb => ?_)⟩⟩
      · have bA' := b'.trans bA
        refine ⟨.int c, rfl, .ref p, rfl, .ref a, rfl, p, a, L, rfl, hPA, nap, list bA', l0, by omega, fun HB u bB hPB hu => ⟨c, u, rfl, rfl, ?_⟩⟩
        have eGB := bB _ _ npG.symm (bA _ _ npG.symm eG')
        refine ⟨G, vs l, .int ((c ^^^ u : Nat) : Int), rfl, rfl, eGB, by rw [len_vs]; exact sl_lt (by omega), l ++ [c ^^^ u], some (.int (c : Int)), rfl, ?_, ?_, fun v hv => ?_, ?_, hPB.upd npG, (bA'.trans bB).new nGH⟩
        · rw [upd_same, vs_append]
          rfl
        · rw [List.length_append, ll]
          rfl
        · rcases List.mem_append.mp hv with k | k
          · exact lv v k
          · rw [List.mem_singleton.mp k]
            exact Nat.xor_lt_two_pow (h24 cB) (memL u hu)
        · rw [upd_ne nGpj.symm]
          exact bB _ _ nppj.symm (bA _ _ nppj.symm epj')
      · have eGA := bA _ _ npG.symm eG'
        refine ⟨.int c, rfl, G, vs l, .int (c : Int), rfl, rfl, eGA, by rw [len_vs]; exact sl_lt (by omega), l ++ [c], some (.int (c : Int)), rfl, ?_, ?_, fun v hv => ?_, ?_, hPA.upd npG, (b'.trans bA).new nGH⟩
        · rw [upd_same, vs_append]
          rfl
        · rw [List.length_append, ll]
          rfl
        · rcases List.mem_append.mp hv with k | k
          · exact lv v k
          · rw [List.mem_singleton.mp k]
            exact h24 cB
        · rw [upd_ne nGpj.symm]
          exact bA _ _ nppj.symm epj'
    · obtain ⟨l, z, rfl, eG', ll, lv, epj', hP', b'⟩ := hI
      rw [len_vs] at ll
      refine ⟨.int n, rfl, .ref G, rfl, fun yk ykd nyk nykd _ => ⟨yk, ykd, _, _, _, rfl, upd_same, made_sq (.inl eG') nyk nykd, n1, n24, lv, (by omega), fun Hk Bk sk' rk' spk lnk => ⟨rfl, ?_⟩⟩⟩
      obtain ⟨sk, rk⟩ := made nyk nykd sk' rk'
      clear sk' rk'
      have bk := b'.trans (.of sk)
      refine ⟨.ref x, rfl, own_rooms rk.at (room bk).at ⟨.ref G, rfl, G, l, rfl, sk _ _ eG', by omega, fun Hm pm Lm sm npm epm memm ascm lnm => ?_⟩⟩
      have bm := bk.trans (.of sm)
      refine ⟨.ref a, rfl, eqD_vs (SqL.of epm) (SqL.of (list bm)) ⟨rfl, ?_⟩⟩
      have iff1 : (n = n ∧ Bk = Bf) ↔ Lm = L := by
        constructor
        · rintro ⟨_, e⟩
          refine up_eq ascm asc fun v => ?_
          rw [memm, mem, ← spk, e]
        · intro e
          refine ⟨rfl, plain_unique rk.plain pl fun v => ?_⟩
          rw [spk, ← memm, e, mem]
      have fin : decide (V.bl (if false = true then !decide (n = n ∧ Bk = Bf) else decide (n = n ∧ Bk = Bf)) = V.bl (decide (Lm = L))) = true := by
        refine decide_eq_true ?_
        rw [if_neg (by simp)]
        exact congrArg V.bl (decide_eq_decide.mpr iff1)
      rw [fin]
      exact q _ bm
end
end K12

set_option Elab.async false
set_option linter.all false
set_option maxRecDepth 100000
set_option maxHeartbeats 4000000
set_option pp.maxSteps 300
namespace Vf
open PySem PySem.Spec PyProof.Rows L2
/-- a cut before what follows: what the rest asks, once -/
theorem seq_at {t u : TS} {D : Ends} {σ : L2.St} {H : Hp} (R : L2.St → Hp → Prop) (h2 : ∀ σ' H', R σ' H' → u D σ' H') (h1 : (∀ σ' H', R σ' H' → u D σ' H') → t { D with nx := u D } σ H) : tSeq t u D σ H := h1 h2
theorem cutLast (xs : List V) (x : V) : cutV (xs ++ [x]) none (some (-1)) = xs := by
  unfold cutV
  rw [HT.sIx_none]
  have e : HT.sIx (xs ++ [x]).length (xs ++ [x]).length (some (-1)) = xs.length := by
    show (if (-1 : Int) < 0 then ((-1 : Int) + ((xs ++ [x]).length : Int)).toNat else min (-1 : Int).toNat (xs ++ [x]).length) = xs.length
    rw [if_pos (by decide), List.length_append, List.length_singleton]
    omega
  rw [e, List.drop_zero, Nat.sub_zero, List.take_append_of_le_length (Nat.le_refl _), List.take_length]
end Vf
namespace K12
open PySem PySem.Spec PyProof.Rows L2 Vf
abbrev s_law_right : Stmt := topS 37
abbrev N_law_right : List Str := ["_law_pot_here", "_law_places", "_law_words_here", "_law_passed", "_law_room", "_law_span_here", "_law_shown", "_law_told", "_law_basis_here", "_law_word", "_law_other"]
theorem sc_law_right : FnScope N_law_right ["_law_pot_here"] (defScope s_law_right) := ⟨rfl, rfl, rfl, by decide +kernel, rfl, by decide +kernel, by decide +kernel⟩
theorem roomText_eq (n : Nat) (B : List Nat) : roomText n B = (((("Room(" : Str) ++ (toString (n : Int) : Str)) ++ (", " : Str)) ++ txt (vs B)) ++ (")" : Str) := by
  unfold roomText
  have e : Str.empty ++ ("Room(" : Str) = ("Room(" : Str) := by decide +kernel
  rw [e]
section
variable {P : Program} {w : World} {K : PySem.W.Frag} {mg : Str → Option Value} {base : Heap} {C : Addr}
abbrev kwA : List V → List V → List V := fun vs zs => vs ++ zs
abbrev kwR : List V → List V → List V := fun vs zs => vs ++ zs.reverse
def sp_right : Sp := fun vs0 H Q _ => ∃ p : Addr, vs0 = [.ref p] ∧ Pot H p ∧ ∀ H', But p H H' → Q (.bl true) H'
theorem sm_bl (l : List Bool) : ∀ x ∈ l.map V.bl, small x = true := fun x hx => by
  obtain ⟨b, _, rfl⟩ := List.mem_map.mp hx
  rfl
theorem ok_law_right {f : Addr} {fd : FuncData} (F : Fun K "_law_right" "_law_right" s_law_right f fd)
    (C_law_draw : Cal P w K mg base "_law_draw" 1 ["_law_pot_here", "_law_size"] [] sp_draw) (C_law_words : Cal P w K mg base "_law_words" 2 ["_law_pot_here", "_law_places", "_law_many"] [] sp_lwords)
    (C_law_pick : Cal P w K mg base "_law_pick" 2 ["_law_pot_here", "_law_some"] [] sp_pick) (C_law_mixed : Cal P w K mg base "_law_mixed" 2 ["_law_pot_here", "_law_some"] [] sp_mixed)
    (C_law_span : Cal P w K mg base "_law_span" 1 ["_law_words_here"] [] sp_span) (C_law_basis : Cal P w K mg base "_law_basis" 1 ["_law_span_here"] [] sp_lbasis)
    (C_law_is : CalG P w K mg base "_law_is" 3 ["_law_room", "_law_places", "_law_span_here"] (sp_is C)) (C_law_again_right : CalG P w K mg base "_law_again_right" 8 ["_law_pot_here", "_law_room", "_law_places", "_law_span_here"] (sp_again C))
    (MK_Room : MakC P w K mg base C "Room" 6 ["self", "places", "words"] (sp_init C)) (MKK_Room : MakK P w K mg base C "Room" 6 ["self", "places", "words"] ["words", "places"] kwR (sp_init C))
    (EC_Room : EqC P w K mg base C 1 (sp_eq K C)) (RC_Room : RepC P w K mg base C 1 (sp_repr C)) (P_dimension : PrpC P w K mg base C "dimension" 1 (sp_dimension C))
    (M_basis : MthC P w K mg base C "basis" 1 ["self"] (sp_basis C)) (M_words : MthC P w K mg base C "words" 2 ["self"] (sp_words C))
    (M_has : MthC P w K mg base C "has" 6 ["self", "word"] (sp_has C)) (MK_has : MthK P w K mg base C "has" 6 ["self", "word"] ["word"] kwA (sp_has C))
    (m_repr : mg "repr" = none) (m_len : mg "len" = none) (m_str : mg "str" = none)
    (n_basis : ∀ n b, (rf n b).lookup ("basis" : Str) = none) (n_words : ∀ n b, (rf n b).lookup ("words" : Str) = none) (n_has : ∀ n b, (rf n b).lookup ("has" : Str) = none) :
    GnOk P w K mg base 9 f fd ["_law_pot_here"] sp_right := by
  refine gn_ok F sc_law_right (fun vs H Q E h => ?_) (fun cdv A outer s H vs Q E hg hr h => ?_)
  · obtain ⟨p, rfl, _⟩ := h
    rfl
  · obtain ⟨p, rfl, hP, q⟩ := h
    refine ⟨_, (pss_cons (ps_set (i := 1) sc_law_right.nd rfl (Or.inl rfl) (pe_op op_addN pe_int (pe_cal C_law_draw (hr.mono (by decide)) (by rfl) (pa_cons (pv 0) (pa_cons pe_int pa_nil)))))
    (pss_cons (ps_set (i := 2) sc_law_right.nd rfl (Or.inl rfl) (pe_cal C_law_words (hr.mono (by decide)) (by rfl) (pa_cons (pv 0) (pa_cons (pv 1) (pa_cons (pe_cal C_law_draw (hr.mono (by decide)) (by rfl) (pa_cons (pv 0) (pa_cons pe_int pa_nil))) pa_nil)))))
    (pss_cons (ps_if (PW.pt (pw_and (pt_cmpR (op_neD hr.units) (pv 2) (pe_lst pa_nil) (nomark _)) (pw_and1 (pt_cmpR op_eqN (pe_cal C_law_draw (hr.mono (by decide)) (by rfl) (pa_cons (pv 0) (pa_cons pe_int pa_nil))) pe_int (nomark _))))) (pss_one (ps_set (i := 2) sc_law_right.nd rfl (Or.inl rfl) (pe_op op_cat (pv 2) (pe_lst (pa_cons (pe_op op_xorN (pe_cal C_law_pick (hr.mono (by decide)) (by rfl) (pa_cons (pv 0) (pa_cons (pv 2) pa_nil))) (pe_cal C_law_pick (hr.mono (by decide)) (by rfl) (pa_cons (pv 0) (pa_cons (pv 2) pa_nil)))) (pa_cons pe_int pa_nil)))))) pss_nil)
    (pss_cons (ps_set (i := 3) sc_law_right.nd rfl (Or.inl rfl) (pe_cal C_law_mixed (hr.mono (by decide)) (by rfl) (pa_cons (pv 0) (pa_cons (pe_op op_cat (pv 2) (pe_slice sl_list (pv 2) po_none (po_some pe_int))) pa_nil))))
    (pss_cons (ps_par3 (i := 4) (j := 5) (l := 6) (by rfl) sc_law_right.nd rfl rfl rfl (by decide) (by decide) (by decide) rfl rfl rfl (pa_cons (pe_mkC MK_Room (hr.mono (by decide)) (by rfl) (pa_cons (pv 1) (pa_cons (pv 3) pa_nil))) (pa_cons (pe_cal C_law_span (hr.mono (by decide)) (by rfl) (pa_cons (pv 2) pa_nil)) (pa_cons (pe_callB (call_repr hg hr.units) (by rfl) m_repr (by decide +kernel) (pa_cons (pv 3) pa_nil)) pa_nil))) (by rfl))
    (pss_cons (ps_if (PW.pt (pw_or (pt_not (pt_val (pe_calG C_law_is hg (hr.mono (by decide)) (by rfl) (pa_cons (pv 4) (pa_cons (pv 1) (pa_cons (pv 5) pa_nil)))))) (pw_or (pt_cmpR op_ne (pe_callB (call_repr hg hr.units) (by rfl) m_repr (by decide +kernel) (pa_cons (pe_meth0C M_words (hr.mono (by decide)) (pv 4)) pa_nil)) (pe_callB (call_repr hg hr.units) (by rfl) m_repr (by decide +kernel) (pa_cons (pv 5) pa_nil)) (nomark _)) (pw_or1 (pt_cmpR op_neN (pe_propC P_dimension (hr.mono (by decide)) (pv 4) rfl) (pe_callB call_len_seq (by rfl) m_len (by decide +kernel) (pa_cons (pe_cal C_law_basis (hr.mono (by decide)) (by rfl) (pa_cons (pv 5) pa_nil)) pa_nil)) (nomark _)))))) (pss_one (ps_ret pe_bl)) pss_nil)
    (pss_cons (ps_if (pt_cmpR op_ne (pe_reprC RC_Room hg (hr.mono (by decide)) (by rfl) m_repr (pa_cons (pv 4) pa_nil)) (pe_op op_add_str (pe_op op_add_str (pe_op op_add_str (pe_op op_add_str pe_str (pe_callTy call_str_int (by rfl) m_str (by decide +kernel) (pa_cons (pv 1) pa_nil))) pe_str) (pe_callTy (call_strD hg hr.units) (by rfl) m_str (by decide +kernel) (pa_cons (pe_cal C_law_basis (hr.mono (by decide)) (by rfl) (pa_cons (pv 5) pa_nil)) pa_nil))) pe_str) (nomark _)) (pss_one (ps_ret pe_bl)) pss_nil)
    (pss_cons (ps_if (pt_cmpR (op_neO EC_Room (hr.mono (by decide))) (pe_mkKC MKK_Room (hr.mono (by decide)) (by rfl) (pk_cons (pv 3) (pk_cons (pv 1) pk_nil))) (pv 4) (nomark _)) (pss_one (ps_ret pe_bl)) pss_nil)
    (pss_cons (ps_expr (pe_bm PySem.F.plainAttrs_list PySem.F.slot_list_append PySem.F.type_list_append mt_append (pv 3) (pa_cons pe_non pa_nil)))
    (pss_cons (ps_par (i := 7) (j := 8) (by rfl) sc_law_right.nd rfl rfl (by decide) rfl rfl (pa_cons (pe_meth0C M_words (hr.mono (by decide)) (pv 4)) (pa_cons (pe_meth0C M_basis (hr.mono (by decide)) (pv 4)) pa_nil)) (by rfl))
    (pss_cons (ps_expr (pe_bm PySem.F.plainAttrs_list PySem.F.slot_list_append PySem.F.type_list_append mt_append (pv 7) (pa_cons pe_int pa_nil)))
    (pss_cons (ps_expr (pe_bm PySem.F.plainAttrs_list PySem.F.slot_list_append PySem.F.type_list_append mt_append (pv 8) (pa_cons pe_int pa_nil)))
    (pss_cons (ps_if (PW.pt (pw_or (pt_cmpR (op_neD hr.units) (pe_meth0C M_words (hr.mono (by decide)) (pv 4)) (pv 5) (nomark _)) (pw_or (pt_cmpR (op_neD hr.units) (pe_meth0C M_basis (hr.mono (by decide)) (pv 4)) (pe_cal C_law_basis (hr.mono (by decide)) (by rfl) (pa_cons (pv 5) pa_nil)) (nomark _)) (pw_or1 (pt_cmpR op_ne (pe_callB (call_repr hg hr.units) (by rfl) m_repr (by decide +kernel) (pa_cons (pe_slice sl_list (pv 3) po_none (po_some (pe_un un_neg pe_int))) pa_nil)) (pv 6) (nomark _)))))) (pss_one (ps_ret pe_bl)) pss_nil)
    (pss_cons (ps_for PassesOwn.never rfl (pi_list (pe_op op_cat (pe_cal C_law_words (hr.mono (by decide)) (by rfl) (pa_cons (pv 0) (pa_cons (pv 1) (pa_cons pe_int pa_nil)))) (pe_lst (pa_cons pe_int (pa_cons (pe_op op_subN (pe_op op_pow2 pe_int (pv 1)) pe_int) (pa_cons (pe_cal C_law_pick (hr.mono (by decide)) (by rfl) (pa_cons (pv 0) (pa_cons (pv 5) pa_nil))) pa_nil)))))) (pg_name (i := 9) sc_law_right.nd rfl (Or.inl rfl))
      (pss_one (ps_if (pt_cmpR op_ne (pe_callB (call_repr hg hr.units) (by rfl) m_repr (by decide +kernel) (pa_cons (pe_lst (pa_cons (pe_methC M_has (hr.mono (by decide)) (pv 4) (pa_cons (pv 9) pa_nil)) (pa_cons (pe_methKC MK_has (hr.mono (by decide)) (pv 4) (pk_cons (pv 9) pk_nil)) pa_nil))) pa_nil)) (pe_callB (call_repr hg hr.units) (by rfl) m_repr (by decide +kernel) (pa_cons (pe_lst (pa_cons (pe_cmpR op_in_seq (pv 9) (pv 5) (by with_unfolding_all rfl)) (pa_cons (pe_cmpR op_in_seq (pv 9) (pv 5) (by with_unfolding_all rfl)) pa_nil))) pa_nil)) (nomark _)) (pss_one (ps_ret pe_bl)) pss_nil)))
    (pss_cons (ps_set (i := 10) sc_law_right.nd rfl (Or.inl rfl) (pe_mkC MK_Room (hr.mono (by decide)) (by rfl) (pa_cons (pv 1) (pa_cons (pe_cal C_law_words (hr.mono (by decide)) (by rfl) (pa_cons (pv 0) (pa_cons (pv 1) (pa_cons pe_int pa_nil)))) pa_nil))))
    (pss_cons (ps_if (PW.pt (pw_or (pt_cmpR op_ne (pe_cmpR (op_eqO EC_Room (hr.mono (by decide))) (pv 10) (pv 4) (nomark _)) (pe_cmpR (op_eqD hr.units) (pe_meth0C M_words (hr.mono (by decide)) (pv 10)) (pv 5) (nomark _)) (nomark _)) (pw_or1 (pt_cmpR op_ne (pe_cmpR (op_neO EC_Room (hr.mono (by decide))) (pv 10) (pv 4) (nomark _)) (pe_cmpR (op_neD hr.units) (pe_meth0C M_words (hr.mono (by decide)) (pv 10)) (pv 5) (nomark _)) (nomark _))))) (pss_one (ps_ret pe_bl)) pss_nil)
    (pss_one (ps_ret (pe_calG C_law_again_right hg (hr.mono (by decide)) (by rfl) (pa_cons (pv 0) (pa_cons (pv 4) (pa_cons (pv 1) (pa_cons (pv 5) pa_nil))))))))))))))))))))))), ?_⟩
    refine ⟨.ref p, rfl, p, 10, rfl, hP, by decide, by decide, fun H1 d0 b1 hP1 hd0 => ⟨1, d0, rfl, rfl, ?_⟩⟩
    generalize hn : 1 + d0 = n
    have n1 : 1 ≤ n := by omega
    have n10 : n ≤ 10 := by omega
    have n24 : n ≤ 24 := by omega
    refine ⟨.ref p, rfl, .int n, rfl, .ref p, rfl, p, 5, rfl, hP1, by decide, by decide, fun H2 m b2 hP2 hm => ⟨p, n, m, rfl, hP2, n24, by omega, fun H3 W l b3 hP3 nW npW eW ll lv => ?_⟩⟩
    have b30 := (b1.trans b2).trans b3
    dsimp only [gName]
    refine seq_at (fun σ' H' => ∃ (W : Addr) (ws : List Nat), σ' = [some (.ref p), some (.int n), some (.ref W), none, none, none, none, none, none, none, none] ∧ But p H H' ∧ Pot H' p ∧ W ≠ p ∧ H' W = some (.lst (Vf.vs ws)) ∧ ws.length ≤ 6 ∧ ∀ v ∈ ws, v < 2 ^ n)
      (fun σ' H' hR => ?_) (fun key => ?_)
    · obtain ⟨W, ws, rfl, b4, hP4, npW, eW, lw, lv⟩ := hR
      -- what is passed
      refine ⟨.ref p, rfl, .ref W, rfl, .ref W, rfl, 1, rfl, W, Vf.vs ws, rfl, SqL.of eW, fun t nt => ?_⟩
      have cut : cutV (Vf.vs ws) none (some 1) = Vf.vs (ws.take 1) := by
        have e := cutTo (Vf.vs ws) 1
        rw [vs_take] at e
        exact e
      rw [cut]
      have s5 := same_new (o := .lst (Vf.vs (ws.take 1))) nt
      refine ⟨W, t, _, _, rfl, rfl, s5 _ _ eW, upd_same, ?_, fun u nu => ?_⟩
      · rw [len_vs, len_vs, List.length_take]
        exact Nat.le_of_lt (sl_lt (by omega))
      have s6 := s5.trans (same_new (o := .lst (Vf.vs ws ++ Vf.vs (ws.take 1))) nu)
      have eu : (upd (upd H' t (.lst (Vf.vs (ws.take 1)))) u (.lst (Vf.vs ws ++ Vf.vs (ws.take 1)))) u = some (.lst (Vf.vs (ws ++ ws.take 1))) := by rw [upd_same, vs_append]
      have nup : u ≠ p := by
        obtain ⟨o, ho⟩ := hP4.some
        exact (ne_of_none (s5 _ _ ho) nu).symm
      have b6 := b4.trans (.of s6)
      have hP6 := hP4.same s6
      have eW6 := s6 _ _ eW
      generalize upd (upd H' t (.lst (Vf.vs (ws.take 1)))) u (.lst (Vf.vs ws ++ Vf.vs (ws.take 1))) = H6 at b6 hP6 eW6 eu ⊢
      refine ⟨p, u, _, rfl, hP6, nup, eu, by rw [len_vs, List.length_append, List.length_take]; omega, fun H7 Pa l' b7 hP7 nPa ePa pm => ?_⟩
      obtain ⟨ps, rfl, pm1⟩ := perm_vs pm
      have mps : ∀ v ∈ ps, v ∈ ws := fun v hv => (List.mem_append.mp (pm1.mem_iff.mp hv)).elim id List.mem_of_mem_take
      have mws : ∀ v ∈ ws, v ∈ ps := fun v hv => pm1.mem_iff.mpr (List.mem_append_left _ hv)
      have lps : ps.length ≤ 7 := by
        rw [pm1.length_eq, List.length_append, List.length_take]
        omega
      have vps : ∀ v ∈ ps, v < 2 ^ n := fun v hv => lv v (mps v hv)
      have sps : ∀ v, span ps v ↔ span ws v := fun v => span_iff (fun a k => span_mem (mps a k)) (fun a k => span_mem (mws a k)) v
      have b8 := b6.trans b7
      have eW7 := b7 _ _ npW eW6
      obtain ⟨oP, ep7⟩ := hP7.some
      have npPa : p ≠ Pa := by
        obtain ⟨o, ho⟩ := hP6.some
        exact ne_of_none ho nPa
      have fPa : H Pa = none := b6.free hP6 nPa
      have p24 : ∀ c ∈ ps, c < 2 ^ 24 := fun c hc => lt24 n24 (vps c hc)
      -- the room, its words and the text of what is passed
      refine ⟨.int n, rfl, .ref Pa, rfl, fun x xd nx nxd _ => ⟨x, xd, n, Pa, ps, rfl, upd_same, made_sq (.inl ePa) nx nxd, n1, n24, vps, by omega, fun H8 B s8' r8' spB lnB => ⟨rfl, ?_⟩⟩⟩
      obtain ⟨s8, r8⟩ := made nx nxd s8' r8'
      clear s8' r8'
      refine ⟨.ref W, rfl, W, ws, rfl, s8 _ _ eW7, by omega, fun H9 S L s9 nS eS memW asc lenL => ⟨.ref Pa, rfl, repr_small (SqL.of (s9 _ _ (s8 _ _ ePa))) (small_vs p24) (by rw [len_vs]; omega) ⟨_, _, _, rfl, ?_⟩⟩⟩
      have sA := s8.trans s9
      have b9 := b8.trans (.of sA)
      have hP9 := hP7.same sA
      obtain ⟨dx, b, ex8, eb8, pl, _, _, hB, nb⟩ := r8
      have ex := s9 _ _ ex8
      have eb := s9 _ _ eb8
      have ePa9 := sA _ _ ePa
      have nbp : b ≠ p := (ne_of_none ep7 nb).symm
      have nbPa : b ≠ Pa := (ne_of_none ePa nb).symm
      have nSp : S ≠ p := (ne_of_none (s8 _ _ ep7) nS).symm
      have nSPa : S ≠ Pa := (ne_of_none (s8 _ _ ePa) nS).symm
      have nxPa : x ≠ Pa := (ne_of_none ePa nx).symm
      have nxp : x ≠ p := (ne_of_none ep7 nx).symm
      have mem : ∀ v, v ∈ L ↔ span B v := fun v => (memW v).trans ((sps v).symm.trans (spB v).symm)
      have lB : B.length ≤ 7 := by omega
      have lL : L.length ≤ 64 := by
        have h6 : 2 ^ ws.length ≤ 2 ^ 6 := Nat.pow_le_pow_right (by decide) lw
        omega
      have vL : ∀ v ∈ L, v < 2 ^ n := fun v hv => span_lt hB ((mem v).mp hv)
      have L24 : ∀ c ∈ L, c < 2 ^ 24 := fun c hc => lt24 n24 (vL c hc)
      have B24 : ∀ c ∈ B, c < 2 ^ 24 := fun c hc => lt24 n24 (hB c hc)
      have room : ∀ {H' : Hp}, H' x = some (.ins C dx (rf n b)) → H' b = some (.lst (Vf.vs B)) → RoomAt C H' x n B := fun e1 e2 => ⟨dx, b, e1, e2, pl, n1, n24, hB⟩
      clear ex8 eb8 nb s9 s8 sA eW7 b7 b6 hP6 eW6 eu pm b8 memW lnB hP7 ePa
      -- a Room of these words; its words; its dimension
      refine ⟨.ref x, rfl, .int n, rfl, .ref S, rfl, x, n, B, S, L, rfl, room ex eb, by omega, eS, by omega, asc, mem, fun Ha sa => ⟨true, rfl, iteF ?_⟩⟩
      refine ⟨.ref x, rfl, x, dx, _, rfl, sa _ _ ex, n_words n b, x, n, B, rfl, room (sa _ _ ex) (sa _ _ eb), by omega, fun Hb p2 M sb np2 ep2 pm2 od2 => ?_⟩
      have eM := words_eq pl.1 pm2 od2 asc mem
      subst eM
      refine repr_small (SqL.of ep2) (small_vs L24) (by rw [len_vs]; omega) ⟨.ref S, rfl, repr_small (SqL.of (sb _ _ (sa _ _ eS))) (small_vs L24) (by rw [len_vs]; omega) (ne_str ⟨false, rfl, iteF ?_⟩)⟩
      have sab := sa.trans sb
      refine ⟨.ref x, rfl, x, dx, _, rfl, sab _ _ ex, x, n, B, rfl, room (sab _ _ ex) (sab _ _ eb), .ref S, rfl, S, M, B, rfl, sab _ _ eS, by omega, asc, pl, mem, fun Hc p3 sc np3 ep3 => ⟨p3, Vf.vs B, rfl, .inl (SqL.of ep3), _, _, rfl, rfl, false, nbl_f (by rw [len_vs]), iteF ?_⟩⟩
      have sC := sab.trans sc
      have ex := sC _ _ ex
      have eb := sC _ _ eb
      have eS := sC _ _ eS
      have ePa := sC _ _ ePa9
      have b9 := b9.trans (.of sC)
      have hP9 := hP9.same sC
      clear sa sb sc sab sC ePa9 np2 np3 ep2 ep3 pm2 od2
      -- its text
      have l1 := txt_len (small_vs B24)
      rw [len_vs] at l1
      have lt : n.log2 < 24 := (Nat.log2_lt (by omega)).mpr (Nat.lt_of_le_of_lt n24 (by decide))
      have l2 : ((toString (n : Int) : Str)).length ≤ 30 := by
        have e := int_text_length_le (a := (n : Int)) (k := 24) (by decide) lt
        show (Str.ofString (toString (n : Int))).length ≤ 30
        rw [PySem.ofString_length]
        omega
      have e3 : sizeLine = 16777216 := sizeLine_eq
      have k2 : (("Room(" : Str)).length = 5 := rfl
      have k3 : ((", " : Str)).length = 2 := rfl
      have k4 : ((")" : Str)).length = 1 := rfl
      refine ⟨.ref x, rfl, ⟨⟨x, dx, _, rfl, ex, x, n, B, rfl, room ex eb, by omega, _, rfl, ?_⟩⟩⟩
      refine ⟨.int n, rfl, n, rfl, Nat.lt_trans lt (by decide), _, _, rfl, rfl, by omega, _, _, rfl, rfl, by rw [strLen_append]; omega, ?_⟩
      refine ⟨.ref S, rfl, S, M, B, rfl, eS, by omega, asc, pl, mem, fun Hd p4 sd np4 ep4 => str_small (SqL.of ep4) (small_vs B24) (by rw [len_vs]; omega) ?_⟩
      refine ⟨_, _, rfl, rfl, by rw [strLen_append, strLen_append]; omega, _, _, rfl, rfl, by rw [strLen_append, strLen_append, strLen_append]; omega, ne_strE (roomText_eq n B) ⟨false, rfl, iteF ?_⟩⟩
      have ex := sd _ _ ex
      have eb := sd _ _ eb
      have eS := sd _ _ eS
      have ePa := sd _ _ ePa
      have b9 := b9.trans (.of sd)
      have hP9 := hP9.same sd
      clear sd ep4 np4
      -- made by names
      refine ⟨.ref Pa, rfl, .int n, rfl, rfl, rfl, fun y yd ny nyd _ => ⟨y, yd, n, Pa, ps, rfl, upd_same, made_sq (.inl ePa) ny nyd, n1, n24, vps, by omega, fun He Be se' re' spe lne => ⟨rfl, ?_⟩⟩⟩
      obtain ⟨se, re⟩ := made ny nyd se' re'
      clear se' re'
      have ee : Be = B := plain_unique re.plain pl fun v => (spe v).trans (spB v).symm
      have ex := se _ _ ex
      have eb := se _ _ eb
      have eS := se _ _ eS
      have ePa := se _ _ ePa
      have b9 := b9.trans (.of se)
      have hP9 := hP9.same se
      refine ⟨.ref x, rfl, own_rooms re.at (room ex eb) ⟨false, neg_t ⟨rfl, ee⟩, iteF ?_⟩⟩
      clear se re spe lne ee
      -- what was passed changes
      refine ⟨.ref Pa, rfl, .inl ⟨rfl, _, SqL.of ePa⟩, Pa, _, .non, rfl, rfl, ePa, by rw [len_vs]; exact sl_lt (by omega), ?_⟩
      have ex : (upd He Pa (.lst (Vf.vs ps ++ [V.non]))) x = _ := (upd_ne nxPa).trans ex
      have eb : (upd He Pa (.lst (Vf.vs ps ++ [V.non]))) b = _ := (upd_ne nbPa).trans eb
      have eS : (upd He Pa (.lst (Vf.vs ps ++ [V.non]))) S = _ := (upd_ne nSPa).trans eS
      have ePa : (upd He Pa (.lst (Vf.vs ps ++ [V.non]))) Pa = _ := upd_same
      have b9 : But p H (upd He Pa (.lst (Vf.vs ps ++ [V.non]))) := b9.new fPa
      have hP9 : Pot (upd He Pa (.lst (Vf.vs ps ++ [V.non]))) p := hP9.upd npPa
      generalize upd He Pa (.lst (Vf.vs ps ++ [V.non])) = Hf at ex eb eS ePa b9 hP9 ⊢
      -- what is told changes
      refine ⟨.ref x, rfl, x, dx, _, rfl, ex, n_words n b, x, n, B, rfl, room ex eb, by omega, fun Hg T M2 sg nT eT pm2 od2 => ⟨.ref x, rfl, x, dx, _, rfl, sg _ _ ex, n_basis n b, x, n, B, rfl, room (sg _ _ ex) (sg _ _ eb), fun Hh D sh nD eD => ⟨_, _, rfl, ?_⟩⟩⟩
      have eM2 := words_eq pl.1 pm2 od2 asc mem
      subst eM2
      have fT : H T = none := b9.free hP9 nT
      have fD : H D = none := (b9.trans (.of sg)).free (hP9.same sg) nD
      have nxT : x ≠ T := ne_of_none ex nT
      have nbT : b ≠ T := ne_of_none eb nT
      have nST : S ≠ T := ne_of_none eS nT
      have nPaT : Pa ≠ T := ne_of_none ePa nT
      have nxD : x ≠ D := ne_of_none (sg _ _ ex) nD
      have nbD : b ≠ D := ne_of_none (sg _ _ eb) nD
      have nSD : S ≠ D := ne_of_none (sg _ _ eS) nD
      have nPaD : Pa ≠ D := ne_of_none (sg _ _ ePa) nD
      have nTD : T ≠ D := ne_of_none eT nD
      obtain ⟨oP9, eP9⟩ := hP9.some
      have npT : p ≠ T := ne_of_none eP9 nT
      have npD : p ≠ D := ne_of_none (sg _ _ eP9) nD
      have sgh := sg.trans sh
      refine ⟨.ref T, rfl, .inl ⟨rfl, _, SqL.of (sh _ _ eT)⟩, T, _, .int 1, rfl, rfl, sh _ _ eT, by rw [len_vs]; exact sl_lt (by omega), ?_⟩
      refine ⟨.ref D, rfl, .inl ⟨rfl, _, SqL.of ((upd_ne nTD.symm).trans eD)⟩, D, _, .int 1, rfl, rfl, (upd_ne nTD.symm).trans eD, by rw [len_vs]; exact sl_lt (by omega), ?_⟩
      have keep : ∀ {z : Addr} {o : HO}, z ≠ T → z ≠ D → Hf z = some o → (upd (upd Hh T (.lst (Vf.vs M2 ++ [V.int 1]))) D (.lst (Vf.vs B ++ [V.int 1]))) z = some o := fun h1 h2 e => (upd_ne h2).trans ((upd_ne h1).trans (sgh _ _ e))
      have ex := keep nxT nxD ex
      have eb := keep nbT nbD eb
      have eS := keep nST nSD eS
      have ePa := keep nPaT nPaD ePa
      have b9 := ((b9.trans (.of sgh)).new (o := .lst (Vf.vs M2 ++ [V.int 1])) fT).new (o := .lst (Vf.vs B ++ [V.int 1])) fD
      have hP9 := ((hP9.same sgh).upd (o := .lst (Vf.vs M2 ++ [V.int 1])) npT).upd (o := .lst (Vf.vs B ++ [V.int 1])) npD
      clear keep
      generalize upd (upd Hh T (.lst (Vf.vs M2 ++ [V.int 1]))) D (.lst (Vf.vs B ++ [V.int 1])) = Hi at ex eb eS ePa b9 hP9 ⊢
      clear sg sh sgh pm2 od2 eT eD
      -- and yet
      refine ⟨.ref x, rfl, x, dx, _, rfl, ex, n_words n b, x, n, B, rfl, room ex eb, by omega, fun Hj p5 M3 sj np5 ep5 pm3 od3 => ⟨.ref S, rfl, neD_vs (SqL.of ep5) (SqL.of (sj _ _ eS)) ⟨false, nbl_f (words_eq pl.1 pm3 od3 asc mem), iteF ?_⟩⟩⟩
      have ex := sj _ _ ex
      have eb := sj _ _ eb
      have eS := sj _ _ eS
      have ePa := sj _ _ ePa
      have b9 := b9.trans (.of sj)
      have hP9 := hP9.same sj
      clear sj ep5 np5 pm3 od3
      refine ⟨.ref x, rfl, x, dx, _, rfl, ex, n_basis n b, x, n, B, rfl, room ex eb, fun Hk p6 sk np6 ep6 => ⟨.ref S, rfl, S, M2, B, rfl, sk _ _ eS, by omega, asc, pl, mem, fun Hl p7 sl np7 ep7' => neD_vs (SqL.of (sl _ _ ep6)) (SqL.of ep7') ⟨false, nbl_f rfl, iteF ?_⟩⟩⟩
      have skl := sk.trans sl
      have ex := skl _ _ ex
      have eb := skl _ _ eb
      have eS := skl _ _ eS
      have ePa := skl _ _ ePa
      have b9 := b9.trans (.of skl)
      have hP9 := hP9.same skl
      clear sk sl skl ep6 ep7' np6 np7
      refine ⟨.ref Pa, rfl, 1, rfl, -1, rfl, Pa, _, rfl, SqL.of ePa, fun t2 nt2 => ?_⟩
      rw [cutLast]
      refine repr_small (SqL.of upd_same) (small_vs p24) (by rw [len_vs]; omega) ⟨_, rfl, ne_str ⟨false, rfl, iteF ?_⟩⟩
      have st := same_new (o := .lst (Vf.vs ps)) nt2
      have ex := st _ _ ex
      have eb := st _ _ eb
      have eS := st _ _ eS
      have b9 := b9.trans (.of st)
      have hP9 := hP9.same st
      clear st
      generalize upd Hl t2 (.lst (Vf.vs ps)) = Hm at ex eb eS b9 hP9 ⊢
      -- words, within and without
      have pw1 : 0 < 2 ^ n := Nat.two_pow_pos n
      have l0 : 0 < M2.length := List.length_pos_of_mem ((mem 0).mpr (span_zero _))
      refine ⟨.ref p, rfl, .int n, rfl, p, n, 4, rfl, hP9, n24, by omega, fun Hn Wn ln bn hPn nWn npWn eWn lln lvn => ?_⟩
      have ex := bn _ _ nxp ex
      have eb := bn _ _ nbp eb
      have eS := bn _ _ nSp eS
      have b9 := b9.trans bn
      clear bn
      refine ⟨.int n, rfl, n, rfl, rfl, by omega, 2 ^ n, 1, rfl, rfl, pw1, .ref p, rfl, .ref S, rfl, p, S, M2, rfl, hPn, nSp, eS, l0, by omega, fun Ho o bo hPo ho => ⟨(by show 3 ≤ sizeLine; decide), fun R1 nR1 => ?_⟩⟩
      have ex := bo _ _ nxp ex
      have eb := bo _ _ nbp eb
      have eS := bo _ _ nSp eS
      have eWn := bo _ _ npWn eWn
      have b9 := b9.trans bo
      clear bo
      have sR := same_new (o := .lst [V.int 0, V.int ((2 ^ n - 1 : Nat) : Int), V.int (o : Int)]) nR1
      refine ⟨Wn, R1, _, _, rfl, rfl, sR _ _ eWn, upd_same, ?_, fun A nA => ⟨A, rfl, ⟨_, SqL.of upd_same⟩, ?_⟩⟩
      · rw [len_vs, lln]
        exact Nat.le_of_lt (sl_lt (by show 4 + 3 ≤ 100000; decide))
      have sA := sR.trans (same_new (o := .lst (Vf.vs ln ++ [V.int 0, V.int ((2 ^ n - 1 : Nat) : Int), V.int (o : Int)])) nA)
      have eA : (upd (upd Ho R1 (.lst [V.int 0, V.int ((2 ^ n - 1 : Nat) : Int), V.int (o : Int)])) A (.lst (Vf.vs ln ++ [V.int 0, V.int ((2 ^ n - 1 : Nat) : Int), V.int (o : Int)]))) A = some (.lst (Vf.vs (ln ++ [0, 2 ^ n - 1, o]))) := by
        rw [upd_same, vs_append]
        rfl
      have eAl : (Vf.vs ln ++ [V.int 0, V.int ((2 ^ n - 1 : Nat) : Int), V.int (o : Int)]) = Vf.vs (ln ++ [0, 2 ^ n - 1, o]) := by
        rw [vs_append]
        rfl
      have ex := sA _ _ ex
      have eb := sA _ _ eb
      have eS := sA _ _ eS
      have b9 := b9.trans (.of sA)
      have hP9 := hPo.same sA
      have vA : ∀ v ∈ ln ++ [0, 2 ^ n - 1, o], v < 2 ^ n := fun v hv => by
        rcases List.mem_append.mp hv with k | k
        · exact lvn v k
        · simp only [List.mem_cons, List.not_mem_nil, or_false] at k
          rcases k with rfl | rfl | rfl
          · exact pw1
          · omega
          · exact vL _ ho
      clear sA sR
      generalize upd (upd Ho R1 (.lst [V.int 0, V.int ((2 ^ n - 1 : Nat) : Int), V.int (o : Int)])) A (.lst (Vf.vs ln ++ [V.int 0, V.int ((2 ^ n - 1 : Nat) : Int), V.int (o : Int)])) = Hq at ex eb eS b9 hP9 eA ⊢
      refine for_list (K := K) (a := A) (xs := Vf.vs (ln ++ [0, 2 ^ n - 1, o])) (fun i σ H' => ∃ z : Option V, σ = [some (.ref p), some (.int n), some (.ref W), some (.ref Pa), some (.ref x), some (.ref S), some (.str (txt (Vf.vs ps))), some (.ref T), some (.ref D), z, none] ∧
          Pot H' p ∧ But p H H' ∧ H' x = some (.ins C dx (rf n b)) ∧ H' b = some (.lst (Vf.vs B)) ∧ H' S = some (.lst (Vf.vs M2)) ∧ H' A = some (.lst (Vf.vs (ln ++ [0, 2 ^ n - 1, o]))))
        ⟨none, rfl, hP9, b9, ex, eb, eS, eA⟩ (fun i σ H' _ hI => ?_) (fun i z σ H' hx hI => ?_) (fun σ H' hI => ?_)
      · obtain ⟨_, _, _, _, _, _, _, e⟩ := hI
        exact SqL.of e
      · obtain ⟨z9, rfl, hP', b', ex', eb', eS', eA'⟩ := hI
        obtain ⟨v, ev, rfl⟩ := get_vs hx
        have hv := vA v (List.mem_of_getElem? ev)
        refine ⟨.ref x, rfl, x, dx, _, rfl, ex', n_has n b, .int v, rfl, x, n, B, v, rfl, room ex' eb', hv, .ref x, rfl, x, dx, _, rfl, ex', n_has n b, .int v, rfl, rfl, x, n, B, v, rfl, room ex' eb', hv, (by show 2 ≤ sizeLine; decide), fun X1 nX1 => ?_⟩
        have t1 := same_new (o := .lst [V.bl (decide (restOf v B = 0)), V.bl (decide (restOf v B = 0))]) nX1
        refine repr_small (SqL.of upd_same) (sm_bl [_, _]) (show 2 ≤ 1000 by decide) ?_
        have eS1 := SqL.of (K := K) (t1 _ _ eS')
        refine ⟨.int v, rfl, .ref S, rfl, S, Vf.vs M2, rfl, .inl (SqL.of (t1 _ _ eS')), rfl, flatV_vs M2, .int v, rfl, .ref S, rfl, S, Vf.vs M2, rfl, .inl (SqL.of (t1 _ _ eS')), rfl, flatV_vs M2, (by show 2 ≤ sizeLine; decide), fun X2 nX2 => ?_⟩
        refine repr_small (SqL.of upd_same) (sm_bl [_, _]) (show 2 ≤ 1000 by decide) ?_
        have e1 : decide (restOf v B = 0) = (if false = true then !inV (.int (v : Int)) (Vf.vs M2) else inV (.int (v : Int)) (Vf.vs M2)) := by
          rw [if_neg (by simp), inV_vs]
          exact decide_eq_decide.mpr ((rest_zero pl.1 v).trans (mem v).symm)
        refine ne_strE (congrArg (fun c => txt [V.bl c, V.bl c]) e1) ⟨false, rfl, iteF ?_⟩
        have t2 := t1.trans (same_new (o := .lst [V.bl (if false = true then !inV (.int (v : Int)) (Vf.vs M2) else inV (.int (v : Int)) (Vf.vs M2)), V.bl (if false = true then !inV (.int (v : Int)) (Vf.vs M2) else inV (.int (v : Int)) (Vf.vs M2))]) nX2)
        exact ⟨_, rfl, hP'.same t2, b'.trans (.of t2), t2 _ _ ex', t2 _ _ eb', t2 _ _ eS', t2 _ _ eA'⟩
      · obtain ⟨z9, rfl, hP', b', ex', eb', eS', _⟩ := hI
        -- another room
        refine ⟨.int n, rfl, .ref p, rfl, .int n, rfl, p, n, 2, rfl, hP', n24, by omega, fun Hr Wr lr br hPr nWr npWr eWr llr lvr => fun y yd ny nyd _ => ⟨y, yd, n, Wr, lr, rfl, upd_same, made_sq (.inl eWr) ny nyd, n1, n24, lvr, by omega, fun Hs Bs ss' rs' sps' lns => ⟨rfl, ?_⟩⟩⟩
        obtain ⟨ss, rs⟩ := made ny nyd ss' rs'
        clear ss' rs'
        have ex' := ss _ _ (br _ _ nxp ex')
        have eb' := ss _ _ (br _ _ nbp eb')
        have eS' := ss _ _ (br _ _ nSp eS')
        have b' := (b'.trans br).trans (.of ss)
        have hP' := hPr.same ss
        have like : ∀ {N : List Nat}, N.Perm (sumsOf Bs) → N.Pairwise (· ≤ ·) → ((n = n ∧ Bs = B) ↔ N = M2) := fun {N} pm od => by
          constructor
          · rintro ⟨_, rfl⟩
            exact words_eq pl.1 pm od asc mem
          · rintro rfl
            exact ⟨rfl, plain_unique rs.plain pl fun v => by rw [← mem, pm.mem_iff, (sums_ok rs.plain.1).1]⟩
        have rsA := rs.at
        clear ss rs br
        obtain ⟨dy, c, ey, ec, _⟩ := id rsA
        refine ⟨.ref y, rfl, .ref x, rfl, own_rooms (neg := false) rsA (room ex' eb') ⟨.ref y, rfl, y, dy, _, rfl, ey, n_words n c, y, n, Bs, rfl, rsA, by omega, fun Ht p8 N st np8 ep8 pm8 od8 => ⟨.ref S, rfl, eqD_vs (SqL.of ep8) (SqL.of (st _ _ eS')) ⟨rfl, false, ?_, iteF ?_⟩⟩⟩⟩
        · rw [if_neg (by simp)]
          exact nbl_f (congrArg V.bl (decide_eq_decide.mpr (like pm8 od8)))
        have ex' := st _ _ ex'
        have eb' := st _ _ eb'
        have eS' := st _ _ eS'
        have b' := b'.trans (.of st)
        have hP' := hP'.same st
        have rsA := rsA.same st
        have ey := st _ _ ey
        clear st ep8 pm8 od8 np8
        refine ⟨.ref y, rfl, .ref x, rfl, own_rooms (neg := true) rsA (room ex' eb') ⟨.ref y, rfl, y, dy, _, rfl, ey, n_words n c, y, n, Bs, rfl, rsA, by omega, fun Hu p8 N st np8 ep8 pm8 od8 => ⟨.ref S, rfl, neD_vs (SqL.of ep8) (SqL.of (st _ _ eS')) ⟨rfl, false, ?_, iteF ?_⟩⟩⟩⟩
        · rw [if_pos rfl]
          exact nbl_f (congrArg (fun c => V.bl (!c)) (decide_eq_decide.mpr (like pm8 od8)))
        refine ⟨.ref p, rfl, .ref x, rfl, .int n, rfl, .ref S, rfl, p, x, n, S, B, M2, rfl, hP'.same st, nSp, ⟨dx, b, st _ _ ex', st _ _ eb', pl, n1, n24, hB, nbp⟩, n10, lB, st _ _ eS', by omega, asc, mem, fun H9 b9' => q _ ((b'.trans (.of st)).trans b9')⟩
    · refine ⟨.ref W, rfl, Nat.zero_le _, fun E nE => ?_⟩
      have sE := same_new (o := .lst []) nE
      have bE := b30.trans (.of sE)
      have hPE := hP3.same sE
      have eWE := sE _ _ eW
      refine neD_vs (B := l) (D := []) (SqL.of eWE) (SqL.of upd_same) ⟨!decide (l = []), rfl, ?_⟩
      generalize upd H3 E (.lst []) = HE at bE hPE eWE ⊢
      refine ite2 (fun hb => ?_) (fun hb => ?_)
      · have l0 : 0 < l.length := by
          cases l with
          | nil => cases hb
          | cons a r => exact Nat.succ_pos _
        refine ⟨.ref p, rfl, p, 2, rfl, hPE, by decide, by decide, fun HA d bA hPA hd => ⟨d, 0, rfl, rfl, _, rfl, ite2 (fun hc => ?_) (fun hc => ?_)⟩⟩
        · have eWA := bA _ _ npW eWE
          refine ⟨.ref W, rfl, .ref p, rfl, .ref W, rfl, p, W, l, rfl, hPA, npW, eWA, l0, by omega, fun HB a bB hPB ha => ⟨.ref p, rfl, .ref W, rfl, p, W, l, rfl, hPB, npW, bB _ _ npW eWA, l0, by omega, fun HC c bC hPC hcl => ⟨a, c, rfl, rfl, (by show 2 ≤ sizeLine; decide), fun D nD => ?_⟩⟩⟩
          have eWC := bC _ _ npW (bB _ _ npW eWA)
          have sD := same_new (o := .lst [V.int ((a ^^^ c : Nat) : Int), V.int 0]) nD
          refine ⟨W, D, _, _, rfl, rfl, sD _ _ eWC, upd_same, ?_, fun Z nZ => ?_⟩
          · rw [len_vs]
            exact Nat.le_of_lt (sl_lt (by show l.length + 2 ≤ 100000; omega))
          have sV := sD.trans (same_new (o := .lst (Vf.vs l ++ [V.int ((a ^^^ c : Nat) : Int), V.int 0])) nZ)
          have eV : (upd (upd HC D (.lst [V.int ((a ^^^ c : Nat) : Int), V.int 0])) Z (.lst (Vf.vs l ++ [V.int ((a ^^^ c : Nat) : Int), V.int 0]))) Z = some (.lst (Vf.vs (l ++ [a ^^^ c, 0]))) := by
            rw [upd_same, vs_append]
            rfl
          have npV : Z ≠ p := by
            obtain ⟨o, ho⟩ := hPC.some
            exact (ne_of_none (sD _ _ ho) nZ).symm
          refine key _ _ ⟨Z, l ++ [a ^^^ c, 0], rfl, ((bE.trans bA).trans bB).trans (bC.trans (.of sV)), hPC.same sV, npV, eV, ?_, fun v hv => ?_⟩
          · rw [List.length_append]
            show l.length + 2 ≤ 6
            omega
          · rcases List.mem_append.mp hv with k | k
            · exact lv v k
            · simp only [List.mem_cons, List.not_mem_nil, or_false] at k
              rcases k with rfl | rfl
              · exact Nat.xor_lt_two_pow (lv _ ha) (lv _ hcl)
              · exact Nat.two_pow_pos n
        · exact key _ _ ⟨W, l, rfl, bE.trans bA, hPA, npW, bA _ _ npW eWE, by omega, lv⟩
      · exact key _ _ ⟨W, l, rfl, bE, hPE, npW, eWE, by omega, lv⟩
end
end K12

set_option Elab.async false
set_option linter.all false
set_option maxRecDepth 100000
set_option maxHeartbeats 4000000
set_option pp.maxSteps 400
namespace Vf
open PySem PySem.Spec PyProof.Rows L2
theorem kit_own {K : PySem.W.Frag} {C : Addr} {T : String} (ic : PySem.W.isClsIn K C = true) (ty : PySem.W.typeIn K (.ref C) = some (.type "type")) (s : PySem.W.subIn K (.type T) (.ref C) = some false) : PySem.W.kitOne K (.type T) (.ref C) = some false := by
  unfold PySem.W.kitOne
  have e : (Value.type T == Value.ref C) = false := rfl
  rw [e, if_neg (by decide)]
  show (if ((PySem.W.clsIn K C).isSome && PySem.W.typeIn K (.ref C) == some (.type "type")) = true then PySem.W.subIn K (.type T) (.ref C) else none) = some false
  have ic' : (PySem.W.clsIn K C).isSome = true := ic
  rw [ic', ty, if_pos (by decide +kernel), s]
theorem all_true (n : Nat) : (List.replicate n true).all id = true := by
  rw [List.all_eq_true]
  intro x hx
  rw [(List.mem_replicate.mp hx).2]
  rfl
end Vf
namespace K12
open PySem PySem.Spec PyProof.Rows L2 Vf
abbrev s_law : Stmt := topS 38
abbrev N_law : List Str := ["_law_script", "_law_k"]
theorem sc_law : FnScope N_law ["_law_script"] (defScope s_law) := ⟨rfl, rfl, rfl, by decide +kernel, rfl, by decide +kernel, by decide +kernel⟩
theorem vals_rev : ∀ {xs : List V} {us : List Value}, Vals xs us → Vals xs.reverse us.reverse
  | [], _, .nil => .nil
  | x :: xs, u :: us, .cons r t => by
    rw [List.reverse_cons, List.reverse_cons]
    exact (vals_rev t).append (.cons r .nil)
section
variable {P : Program} {w : World} {K : PySem.W.Frag} {mg : Str → Option Value} {base : Heap}
def sp_law (K : PySem.W.Frag) : Sp := fun vs0 H Q _ => ∃ (a : Addr) (ns : List Int), vs0 = [.ref a] ∧ SqL K H a (ns.map V.int) ∧ ∀ H', Q (.bl true) H'
theorem ok_law {f : Addr} {fd : FuncData} (F : Fun K "law" "law" s_law f fd) (C_law_right : CalG P w K mg base "_law_right" 9 ["_law_pot_here"] sp_right)
    (C_law_pot : Cal P w K mg base "_law_pot" 1 ["_law_script", "_law_k"] [] (sp_pot K)) (m_all : mg "all" = none) (m_range : mg "range" = none) (m_max : mg "max" = none) (m_min : mg "min" = none) (m_len : mg "len" = none) :
    GnOk P w K mg base 10 f fd ["_law_script"] (sp_law K) := by
  refine gn_ok F sc_law (fun vs H Q E h => ?_) (fun cdv A outer s H vs Q E hg hr h => ?_)
  · obtain ⟨a, ns, rfl, _⟩ := h
    rfl
  · obtain ⟨a, ns, rfl, hS, q⟩ := h
    refine ⟨_, (pss_one (ps_ret (pe_callB (cr_all rfl) (by rfl) m_all (by decide +kernel) (pa_cons (pe_lc (own := [("_law_k", 1)]) (g := gName 1) (by rfl) sc_law.nd (pi_range1 (by rfl) m_range (pa_cons (pe_callB (call_max2 rfl) (by rfl) m_max (by decide +kernel) (pa_cons pe_int (pa_cons (pe_callB (call_min2 rfl) (by rfl) m_min (by decide +kernel) (pa_cons pe_int (pa_cons (pe_callB call_len_seq (by rfl) m_len (by decide +kernel) (pa_cons (pv 0) pa_nil)) pa_nil))) pa_nil))) pa_nil)) (blkOk_by (own := [("_law_k", 1)]) (N := N_law) (sc := defScope s_law) (by decide +kernel)) (fun _ _ _ _ _ => pg_name (i := 1) sc_law.nd rfl (Or.inl rfl)) (fun _ _ _ _ _ => pts_nil) (fun _ _ _ _ _ => (pe_calG C_law_right hg (hr.mono (by decide)) (by rfl) (pa_cons (pe_cal C_law_pot (hr.mono (by decide)) (by rfl) (pa_cons (pv 0) (pa_cons (pv 1) pa_nil))) pa_nil)))) pa_nil)))), ?_⟩
    obtain ⟨J, hJ, j1, j2⟩ : ∃ J : Int, (if (if (((ns.map V.int).length : Nat) : Int) < 2 then (((ns.map V.int).length : Nat) : Int) else 2) > 1 then (if (((ns.map V.int).length : Nat) : Int) < 2 then (((ns.map V.int).length : Nat) : Int) else 2) else 1) = J ∧ 1 ≤ J ∧ J ≤ 2 :=
      ⟨_, rfl, by split <;> (try split) <;> omega, by split <;> (try split) <;> omega⟩
    refine ⟨.ref a, rfl, a, _, rfl, .inl hS, 2, _, rfl, 1, _, rfl, J, by rw [hJ], by omega, by omega, fun D hD => ?_⟩
    refine lc_range (lo := 0) (n := J.toNat) (fun i H' => Same H H' ∧ H' D = some (.lst ((List.replicate i true).map V.bl))) ⟨same_new hD, upd_same⟩ (fun i H' hi hP => ?_) fun H' hP => ?_
    · obtain ⟨sm, eD⟩ := hP
      refine ⟨rfl, yes_ ?_⟩
      refine iteT ?_
      refine ⟨.ref a, rfl, .int (0 + (i : Int)), rfl, a, ns, i, by rw [Int.zero_add]; rfl, sm.seq hS, by omega, fun H1 p s1 np hP => ?_⟩
      have nD : D ≠ p := ne_of_none eD np
      refine ⟨p, rfl, hP, fun H2 b2 => ⟨_, b2 _ _ nD (s1 _ _ eD), ?_, fun b o e => ?_, ?_⟩⟩
      · rw [List.length_map, List.length_replicate]
        exact sl_lt (by omega)
      · have e1 := sm b o e
        rw [upd_ne (ne_of_none e hD)]
        exact b2 b o (ne_of_none e1 np) (s1 _ _ e1)
      · rw [upd_same, List.replicate_succ', List.map_append]
        rfl
    · refine ⟨D, _, rfl, SqL.of hP.2, ?_⟩
      rw [all_true]
      exact q _
end
theorem all_mk {l : PySem.W.OpenLaw} {w : World} {K : PySem.W.Frag} {h : Heap} {mg : Str → Option Value} {fa T C fP f1 f2 f3 f4 f5 f6 f7 f8 f9 f10 f11 f12 f13 f14 f15 f16 f17 f18 f19 f20 f21 f22 f23 fm1 fm2 fm3 fm4 fm5 fm6 fm7 fm8 prm2 prm3 : Addr} (X : K.In h) (G : h.Ns mainGlobals mg) (hfa : mg "law" = some (.ref fa))
    {odP anP od1 an1 od2 an2 od3 an3 od4 an4 od5 an5 od6 an6 od7 an7 od8 an8 od9 an9 od10 an10 od11 an11 od12 an12 od13 an13 od14 an14 od15 an15 od16 an16 od17 an17 od18 an18 od19 an19 od20 an20 od21 an21 od22 an22 od23 an23 odm1 anm1 odm2 anm2 odm3 anm3 odm4 anm4 odm5 anm5 odm6 anm6 odm7 anm7 odm8 anm8 dT : Option Addr} {slP sl1 sl2 sl3 sl4 sl5 sl6 sl7 sl8 sl9 sl10 sl11 sl12 sl13 sl14 sl15 sl16 sl17 sl18 sl19 sl20 sl21 sl22 sl23 slm1 slm2 slm3 slm4 slm5 slm6 slm7 slm8 sT : Array (Option Value)} {ocP kVP dcP pmP cdP ctP oc1 kV1 dc1 pm1 cd1 ct1 oc2 kV2 dc2 pm2 cd2 ct2 oc3 kV3 dc3 pm3 cd3 ct3 oc4 kV4 dc4 pm4 cd4 ct4 oc5 kV5 dc5 pm5 cd5 ct5 oc6 kV6 dc6 pm6 cd6 ct6 oc7 kV7 dc7 pm7 cd7 ct7 oc8 kV8 dc8 pm8 cd8 ct8 oc9 kV9 dc9 pm9 cd9 ct9 oc10 kV10 dc10 pm10 cd10 ct10 oc11 kV11 dc11 pm11 cd11 ct11 oc12 kV12 dc12 pm12 cd12 ct12 oc13 kV13 dc13 pm13 cd13 ct13 oc14 kV14 dc14 pm14 cd14 ct14 oc15 kV15 dc15 pm15 cd15 ct15 oc16 kV16 dc16 pm16 cd16 ct16 oc17 kV17 dc17 pm17 cd17 ct17 oc18 kV18 dc18 pm18 cd18 ct18 oc19 kV19 dc19 pm19 cd19 ct19 oc20 kV20 dc20 pm20 cd20 ct20 oc21 kV21 dc21 pm21 cd21 ct21 oc22 kV22 dc22 pm22 cd22 ct22 oc23 kV23 dc23 pm23 cd23 ct23 ocm1 kVm1 dcm1 pmm1 cdm1 ctm1 ocm2 kVm2 dcm2 pmm2 cdm2 ctm2 ocm3 kVm3 dcm3 pmm3 cdm3 ctm3 ocm4 kVm4 dcm4 pmm4 cdm4 ctm4 ocm5 kVm5 dcm5 pmm5 cdm5 ctm5 ocm6 kVm6 dcm6 pmm6 cdm6 ctm6 ocm7 kVm7 dcm7 pmm7 cdm7 ctm7 ocm8 kVm8 dcm8 pmm8 cdm8 ctm8 oT : Value} {nT : Nat} {tT t_MOST_PLACES t_MOST_WORDS t_MOST_DIMENSION : Tok} {rem2 rem3 : List Value}
    (aC : PySem.W.nsIn K mainGlobals "Room" = some (some (.ref C)))
    (a1 : PySem.W.nsIn K mainGlobals "is_integer" = some (some (.ref f1)))
    (l1 : K.lookup f1 = some ⟨oc1, od1, .func (PySem.W.fnOf "is_integer" "is_integer" (defArgs s_is_integer) (defBody s_is_integer) (defScope s_is_integer) .none kV1 dc1 pm1 an1 cd1 ct1), sl1⟩)
    (c1 : PySem.W.codeIn K cd1 "is_integer" = true)
    (k1 : PySem.W.keepIn K (.ref f1) = true)
    (a2 : PySem.W.nsIn K mainGlobals "is_count" = some (some (.ref f2)))
    (l2 : K.lookup f2 = some ⟨oc2, od2, .func (PySem.W.fnOf "is_count" "is_count" (defArgs s_is_count) (defBody s_is_count) (defScope s_is_count) .none kV2 dc2 pm2 an2 cd2 ct2), sl2⟩)
    (c2 : PySem.W.codeIn K cd2 "is_count" = true)
    (k2 : PySem.W.keepIn K (.ref f2) = true)
    (a3 : PySem.W.nsIn K mainGlobals "is_list" = some (some (.ref f3)))
    (l3 : K.lookup f3 = some ⟨oc3, od3, .func (PySem.W.fnOf "is_list" "is_list" (defArgs s_is_list) (defBody s_is_list) (defScope s_is_list) .none kV3 dc3 pm3 an3 cd3 ct3), sl3⟩)
    (c3 : PySem.W.codeIn K cd3 "is_list" = true)
    (k3 : PySem.W.keepIn K (.ref f3) = true)
    (aP : PySem.W.nsIn K mainGlobals "is_places" = some (some (.ref fP)))
    (lP : K.lookup fP = some ⟨ocP, odP, .func (PySem.W.fnOf "is_places" "is_places" (defArgs s_is_places) (defBody s_is_places) (defScope s_is_places) .none kVP dcP pmP anP cdP ctP), slP⟩)
    (cP : PySem.W.codeIn K cdP "is_places" = true) (kP : PySem.W.keepIn K (.ref fP) = true)
    (a4 : PySem.W.nsIn K mainGlobals "check_places" = some (some (.ref f4)))
    (l4 : K.lookup f4 = some ⟨oc4, od4, .func (PySem.W.fnOf "check_places" "check_places" (defArgs s_check_places) (defBody s_check_places) (defScope s_check_places) .none kV4 dc4 pm4 an4 cd4 ct4), sl4⟩)
    (c4 : PySem.W.codeIn K cd4 "check_places" = true)
    (k4 : PySem.W.keepIn K (.ref f4) = true)
    (a5 : PySem.W.nsIn K mainGlobals "is_word" = some (some (.ref f5)))
    (l5 : K.lookup f5 = some ⟨oc5, od5, .func (PySem.W.fnOf "is_word" "is_word" (defArgs s_is_word) (defBody s_is_word) (defScope s_is_word) .none kV5 dc5 pm5 an5 cd5 ct5), sl5⟩)
    (c5 : PySem.W.codeIn K cd5 "is_word" = true)
    (k5 : PySem.W.keepIn K (.ref f5) = true)
    (a6 : PySem.W.nsIn K mainGlobals "check_word" = some (some (.ref f6)))
    (l6 : K.lookup f6 = some ⟨oc6, od6, .func (PySem.W.fnOf "check_word" "check_word" (defArgs s_check_word) (defBody s_check_word) (defScope s_check_word) (.ref T) kV6 dc6 pm6 an6 cd6 ct6), sl6⟩)
    (c6 : PySem.W.codeIn K cd6 "check_word" = true)
    (k6 : PySem.W.keepIn K (.ref f6) = true)
    (a7 : PySem.W.nsIn K mainGlobals "highest" = some (some (.ref f7)))
    (l7 : K.lookup f7 = some ⟨oc7, od7, .func (PySem.W.fnOf "highest" "highest" (defArgs s_highest) (defBody s_highest) (defScope s_highest) .none kV7 dc7 pm7 an7 cd7 ct7), sl7⟩)
    (c7 : PySem.W.codeIn K cd7 "highest" = true)
    (k7 : PySem.W.keepIn K (.ref f7) = true)
    (a8 : PySem.W.nsIn K mainGlobals "rest_of" = some (some (.ref f8)))
    (l8 : K.lookup f8 = some ⟨oc8, od8, .func (PySem.W.fnOf "rest_of" "rest_of" (defArgs s_rest_of) (defBody s_rest_of) (defScope s_rest_of) .none kV8 dc8 pm8 an8 cd8 ct8), sl8⟩)
    (c8 : PySem.W.codeIn K cd8 "rest_of" = true)
    (k8 : PySem.W.keepIn K (.ref f8) = true)
    (a9 : PySem.W.nsIn K mainGlobals "put_in" = some (some (.ref f9)))
    (l9 : K.lookup f9 = some ⟨oc9, od9, .func (PySem.W.fnOf "put_in" "put_in" (defArgs s_put_in) (defBody s_put_in) (defScope s_put_in) .none kV9 dc9 pm9 an9 cd9 ct9), sl9⟩)
    (c9 : PySem.W.codeIn K cd9 "put_in" = true)
    (k9 : PySem.W.keepIn K (.ref f9) = true)
    (a10 : PySem.W.nsIn K mainGlobals "plain_basis" = some (some (.ref f10)))
    (l10 : K.lookup f10 = some ⟨oc10, od10, .func (PySem.W.fnOf "plain_basis" "plain_basis" (defArgs s_plain_basis) (defBody s_plain_basis) (defScope s_plain_basis) .none kV10 dc10 pm10 an10 cd10 ct10), sl10⟩)
    (c10 : PySem.W.codeIn K cd10 "plain_basis" = true)
    (k10 : PySem.W.keepIn K (.ref f10) = true)
    (a11 : PySem.W.nsIn K mainGlobals "sums_of" = some (some (.ref f11)))
    (l11 : K.lookup f11 = some ⟨oc11, od11, .func (PySem.W.fnOf "sums_of" "sums_of" (defArgs s_sums_of) (defBody s_sums_of) (defScope s_sums_of) .none kV11 dc11 pm11 an11 cd11 ct11), sl11⟩)
    (c11 : PySem.W.codeIn K cd11 "sums_of" = true)
    (k11 : PySem.W.keepIn K (.ref f11) = true)
    (a12 : PySem.W.nsIn K mainGlobals "check_words" = some (some (.ref f12)))
    (l12 : K.lookup f12 = some ⟨oc12, od12, .func (PySem.W.fnOf "check_words" "check_words" (defArgs s_check_words) (defBody s_check_words) (defScope s_check_words) .none kV12 dc12 pm12 an12 cd12 ct12), sl12⟩)
    (c12 : PySem.W.codeIn K cd12 "check_words" = true)
    (k12 : PySem.W.keepIn K (.ref f12) = true)
    (a13 : PySem.W.nsIn K mainGlobals "_law_pot" = some (some (.ref f13)))
    (l13 : K.lookup f13 = some ⟨oc13, od13, .func (PySem.W.fnOf "_law_pot" "_law_pot" (defArgs s_law_pot) (defBody s_law_pot) (defScope s_law_pot) .none kV13 dc13 pm13 an13 cd13 ct13), sl13⟩)
    (c13 : PySem.W.codeIn K cd13 "_law_pot" = true)
    (k13 : PySem.W.keepIn K (.ref f13) = true)
    (a14 : PySem.W.nsIn K mainGlobals "_law_draw" = some (some (.ref f14)))
    (l14 : K.lookup f14 = some ⟨oc14, od14, .func (PySem.W.fnOf "_law_draw" "_law_draw" (defArgs s_law_draw) (defBody s_law_draw) (defScope s_law_draw) .none kV14 dc14 pm14 an14 cd14 ct14), sl14⟩)
    (c14 : PySem.W.codeIn K cd14 "_law_draw" = true)
    (k14 : PySem.W.keepIn K (.ref f14) = true)
    (a15 : PySem.W.nsIn K mainGlobals "_law_pick" = some (some (.ref f15)))
    (l15 : K.lookup f15 = some ⟨oc15, od15, .func (PySem.W.fnOf "_law_pick" "_law_pick" (defArgs s_law_pick) (defBody s_law_pick) (defScope s_law_pick) .none kV15 dc15 pm15 an15 cd15 ct15), sl15⟩)
    (c15 : PySem.W.codeIn K cd15 "_law_pick" = true)
    (k15 : PySem.W.keepIn K (.ref f15) = true)
    (a16 : PySem.W.nsIn K mainGlobals "_law_words" = some (some (.ref f16)))
    (l16 : K.lookup f16 = some ⟨oc16, od16, .func (PySem.W.fnOf "_law_words" "_law_words" (defArgs s_law_words) (defBody s_law_words) (defScope s_law_words) .none kV16 dc16 pm16 an16 cd16 ct16), sl16⟩)
    (c16 : PySem.W.codeIn K cd16 "_law_words" = true)
    (k16 : PySem.W.keepIn K (.ref f16) = true)
    (a17 : PySem.W.nsIn K mainGlobals "_law_mixed" = some (some (.ref f17)))
    (l17 : K.lookup f17 = some ⟨oc17, od17, .func (PySem.W.fnOf "_law_mixed" "_law_mixed" (defArgs s_law_mixed) (defBody s_law_mixed) (defScope s_law_mixed) .none kV17 dc17 pm17 an17 cd17 ct17), sl17⟩)
    (c17 : PySem.W.codeIn K cd17 "_law_mixed" = true)
    (k17 : PySem.W.keepIn K (.ref f17) = true)
    (a18 : PySem.W.nsIn K mainGlobals "_law_span" = some (some (.ref f18)))
    (l18 : K.lookup f18 = some ⟨oc18, od18, .func (PySem.W.fnOf "_law_span" "_law_span" (defArgs s_law_span) (defBody s_law_span) (defScope s_law_span) .none kV18 dc18 pm18 an18 cd18 ct18), sl18⟩)
    (c18 : PySem.W.codeIn K cd18 "_law_span" = true)
    (k18 : PySem.W.keepIn K (.ref f18) = true)
    (a19 : PySem.W.nsIn K mainGlobals "_law_basis" = some (some (.ref f19)))
    (l19 : K.lookup f19 = some ⟨oc19, od19, .func (PySem.W.fnOf "_law_basis" "_law_basis" (defArgs s_law_basis) (defBody s_law_basis) (defScope s_law_basis) .none kV19 dc19 pm19 an19 cd19 ct19), sl19⟩)
    (c19 : PySem.W.codeIn K cd19 "_law_basis" = true)
    (k19 : PySem.W.keepIn K (.ref f19) = true)
    (a20 : PySem.W.nsIn K mainGlobals "_law_is" = some (some (.ref f20)))
    (l20 : K.lookup f20 = some ⟨oc20, od20, .func (PySem.W.fnOf "_law_is" "_law_is" (defArgs s_law_is) (defBody s_law_is) (defScope s_law_is) .none kV20 dc20 pm20 an20 cd20 ct20), sl20⟩)
    (c20 : PySem.W.codeIn K cd20 "_law_is" = true)
    (k20 : PySem.W.keepIn K (.ref f20) = true)
    (a21 : PySem.W.nsIn K mainGlobals "_law_again_right" = some (some (.ref f21)))
    (l21 : K.lookup f21 = some ⟨oc21, od21, .func (PySem.W.fnOf "_law_again_right" "_law_again_right" (defArgs s_law_again_right) (defBody s_law_again_right) (defScope s_law_again_right) .none kV21 dc21 pm21 an21 cd21 ct21), sl21⟩)
    (c21 : PySem.W.codeIn K cd21 "_law_again_right" = true)
    (k21 : PySem.W.keepIn K (.ref f21) = true)
    (a22 : PySem.W.nsIn K mainGlobals "_law_right" = some (some (.ref f22)))
    (l22 : K.lookup f22 = some ⟨oc22, od22, .func (PySem.W.fnOf "_law_right" "_law_right" (defArgs s_law_right) (defBody s_law_right) (defScope s_law_right) .none kV22 dc22 pm22 an22 cd22 ct22), sl22⟩)
    (c22 : PySem.W.codeIn K cd22 "_law_right" = true)
    (k22 : PySem.W.keepIn K (.ref f22) = true)
    (a23 : PySem.W.nsIn K mainGlobals "law" = some (some (.ref f23)))
    (l23 : K.lookup f23 = some ⟨oc23, od23, .func (PySem.W.fnOf "law" "law" (defArgs s_law) (defBody s_law) (defScope s_law) .none kV23 dc23 pm23 an23 cd23 ct23), sl23⟩)
    (c23 : PySem.W.codeIn K cd23 "law" = true)
    (k23 : PySem.W.keepIn K (.ref f23) = true)
    (am1 : PySem.W.findIn K (.ref C) "__init__" = some (some (.ref fm1)))
    (im1 : PySem.W.isFn K (.ref fm1) = true)
    (lm1 : K.lookup fm1 = some ⟨ocm1, odm1, .func (PySem.W.fnOf "__init__" "Room.__init__" (defArgs s_Room___init__) (defBody s_Room___init__) (defScope s_Room___init__) .none kVm1 dcm1 pmm1 anm1 cdm1 ctm1), slm1⟩)
    (cm1 : PySem.W.codeIn K cdm1 "Room.__init__" = true)
    (km1 : PySem.W.keepIn K (.ref fm1) = true)
    (am2 : PySem.W.findIn K (.ref C) "places" = some (some (.ref prm2)))
    (gm2 : PySem.W.specialIn K (.ref prm2) "__get__" = some (some (.builtin "property.__get__")))
    (um2 : PySem.W.takesIn K (.ref prm2) = some true)
    (rm2 : PySem.W.recIn K prm2 "property" = some (.ref fm2 :: rem2))
    (lm2 : K.lookup fm2 = some ⟨ocm2, odm2, .func (PySem.W.fnOf "places" "Room.places" (defArgs s_Room_places) (defBody s_Room_places) (defScope s_Room_places) .none kVm2 dcm2 pmm2 anm2 cdm2 ctm2), slm2⟩)
    (cm2 : PySem.W.codeIn K cdm2 "Room.places" = true)
    (km2 : PySem.W.keepIn K (.ref fm2) = true)
    (am3 : PySem.W.findIn K (.ref C) "dimension" = some (some (.ref prm3)))
    (gm3 : PySem.W.specialIn K (.ref prm3) "__get__" = some (some (.builtin "property.__get__")))
    (um3 : PySem.W.takesIn K (.ref prm3) = some true)
    (rm3 : PySem.W.recIn K prm3 "property" = some (.ref fm3 :: rem3))
    (lm3 : K.lookup fm3 = some ⟨ocm3, odm3, .func (PySem.W.fnOf "dimension" "Room.dimension" (defArgs s_Room_dimension) (defBody s_Room_dimension) (defScope s_Room_dimension) .none kVm3 dcm3 pmm3 anm3 cdm3 ctm3), slm3⟩)
    (cm3 : PySem.W.codeIn K cdm3 "Room.dimension" = true)
    (km3 : PySem.W.keepIn K (.ref fm3) = true)
    (am4 : PySem.W.findIn K (.ref C) "basis" = some (some (.ref fm4)))
    (im4 : PySem.W.isFn K (.ref fm4) = true)
    (lm4 : K.lookup fm4 = some ⟨ocm4, odm4, .func (PySem.W.fnOf "basis" "Room.basis" (defArgs s_Room_basis) (defBody s_Room_basis) (defScope s_Room_basis) .none kVm4 dcm4 pmm4 anm4 cdm4 ctm4), slm4⟩)
    (cm4 : PySem.W.codeIn K cdm4 "Room.basis" = true)
    (km4 : PySem.W.keepIn K (.ref fm4) = true)
    (am5 : PySem.W.findIn K (.ref C) "has" = some (some (.ref fm5)))
    (im5 : PySem.W.isFn K (.ref fm5) = true)
    (lm5 : K.lookup fm5 = some ⟨ocm5, odm5, .func (PySem.W.fnOf "has" "Room.has" (defArgs s_Room_has) (defBody s_Room_has) (defScope s_Room_has) .none kVm5 dcm5 pmm5 anm5 cdm5 ctm5), slm5⟩)
    (cm5 : PySem.W.codeIn K cdm5 "Room.has" = true)
    (km5 : PySem.W.keepIn K (.ref fm5) = true)
    (am6 : PySem.W.findIn K (.ref C) "words" = some (some (.ref fm6)))
    (im6 : PySem.W.isFn K (.ref fm6) = true)
    (lm6 : K.lookup fm6 = some ⟨ocm6, odm6, .func (PySem.W.fnOf "words" "Room.words" (defArgs s_Room_words) (defBody s_Room_words) (defScope s_Room_words) .none kVm6 dcm6 pmm6 anm6 cdm6 ctm6), slm6⟩)
    (cm6 : PySem.W.codeIn K cdm6 "Room.words" = true)
    (km6 : PySem.W.keepIn K (.ref fm6) = true)
    (am7 : PySem.W.findIn K (.ref C) "__eq__" = some (some (.ref fm7)))
    (im7 : PySem.W.isFn K (.ref fm7) = true)
    (lm7 : K.lookup fm7 = some ⟨ocm7, odm7, .func (PySem.W.fnOf "__eq__" "Room.__eq__" (defArgs s_Room___eq__) (defBody s_Room___eq__) (defScope s_Room___eq__) .none kVm7 dcm7 pmm7 anm7 cdm7 ctm7), slm7⟩)
    (cm7 : PySem.W.codeIn K cdm7 "Room.__eq__" = true)
    (km7 : PySem.W.keepIn K (.ref fm7) = true)
    (am8 : PySem.W.findIn K (.ref C) "__repr__" = some (some (.ref fm8)))
    (im8 : PySem.W.isFn K (.ref fm8) = true)
    (lm8 : K.lookup fm8 = some ⟨ocm8, odm8, .func (PySem.W.fnOf "__repr__" "Room.__repr__" (defArgs s_Room___repr__) (defBody s_Room___repr__) (defScope s_Room___repr__) .none kVm8 dcm8 pmm8 anm8 cdm8 ctm8), slm8⟩)
    (cm8 : PySem.W.codeIn K cdm8 "Room.__repr__" = true)
    (km8 : PySem.W.keepIn K (.ref fm8) = true)
    (lT : K.lookup T = some ⟨oT, dT, .seq [Value.int 24 tT].toArray nT, sT⟩)
    (v_MOST_PLACES : PySem.W.nsIn K mainGlobals "MOST_PLACES" = some (some (.int 24 t_MOST_PLACES)))
    (v_MOST_WORDS : PySem.W.nsIn K mainGlobals "MOST_WORDS" = some (some (.int 48 t_MOST_WORDS)))
    (v_MOST_DIMENSION : PySem.W.nsIn K mainGlobals "MOST_DIMENSION" = some (some (.int 8 t_MOST_DIMENSION)))
    (z_isinstance : PySem.W.nsIn K mainGlobals "isinstance" = some none)
    (z_int : PySem.W.nsIn K mainGlobals "int" = some none)
    (z_bool : PySem.W.nsIn K mainGlobals "bool" = some none)
    (z_list : PySem.W.nsIn K mainGlobals "list" = some none)
    (z_tuple : PySem.W.nsIn K mainGlobals "tuple" = some none)
    (z_range : PySem.W.nsIn K mainGlobals "range" = some none)
    (z_all : PySem.W.nsIn K mainGlobals "all" = some none)
    (z_len : PySem.W.nsIn K mainGlobals "len" = some none)
    (z_sorted : PySem.W.nsIn K mainGlobals "sorted" = some none)
    (z_abs : PySem.W.nsIn K mainGlobals "abs" = some none)
    (z_max : PySem.W.nsIn K mainGlobals "max" = some none)
    (z_min : PySem.W.nsIn K mainGlobals "min" = some none)
    (z_divmod : PySem.W.nsIn K mainGlobals "divmod" = some none)
    (z_repr : PySem.W.nsIn K mainGlobals "repr" = some none)
    (z_str : PySem.W.nsIn K mainGlobals "str" = some none)
    (z_enumerate : PySem.W.nsIn K mainGlobals "enumerate" = some none)
    (pg : PySem.W.plainGet K C Str.empty = true)
    (hd : PySem.W.hasDictIn K C = true)
    (po : PySem.W.plainOver K C = true)
    (sa : PySem.W.findIn K (.ref C) "__setattr__" = some (some (.builtin "object.__setattr__")))
    (mk : PySem.W.makesIn K C = true)
    (kc : PySem.W.keepIn K (.ref C) = true)
    (nP : PySem.W.findIn K (.ref C) "_places" = some none)
    (nB : PySem.W.findIn K (.ref C) "_basis" = some none)
    (ca : PySem.W.findIn K (.ref C) "__class__" = some (some (.builtin "object.__class__")))
    (cn : PySem.W.specialIn K (.builtin "object.__class__") "__get__" = some (some (.builtin "getset_descriptor.__get__")))
    (ct : PySem.W.takesIn K (.builtin "object.__class__") = some true)
    (cm : PySem.W.mroIn K C (.type "object") = some true)
    (ne : PySem.W.findIn K (.ref C) "__ne__" = some (some (.builtin "object.__ne__")))
    (ic : PySem.W.isClsIn K C = true)
    (ty : PySem.W.typeIn K (.ref C) = some (.type "type"))
    (sl : PySem.W.subIn K (.type "list") (.ref C) = some false)
    (si : PySem.W.subIn K (.type "int") (.ref C) = some false)
    (fl : PySem.W.notFirst K C (.type "list") = true)
    (fi : PySem.W.notFirst K C (.type "int") = true)
    : ∃ fd : FuncData, (∀ (s : Shared) (v : Value), BindsTo s fd ⟨[v], []⟩ [("_law_script", v)]) ∧ ∀ base : Heap, K.In base → base.Ns mainGlobals mg → GnOk l.prog w K mg base 10 fa fd ["_law_script"] (sp_law K) := by
  have e := hfa.symm.trans (PySem.W.mg_of X G a23)
  cases e
  have F1 := fun_mk (st := s_is_integer) l1 c1 k1
  have b1 := F1.binds (ps := ["value"]) fun _ _ _ _ _ _ us hl => match us, hl with | [_], _ => rfl
  have g1 := PySem.W.mg_of X G a1
  have F2 := fun_mk (st := s_is_count) l2 c2 k2
  have b2 := F2.binds (ps := ["value"]) fun _ _ _ _ _ _ us hl => match us, hl with | [_], _ => rfl
  have g2 := PySem.W.mg_of X G a2
  have F3 := fun_mk (st := s_is_list) l3 c3 k3
  have b3 := F3.binds (ps := ["value"]) fun _ _ _ _ _ _ us hl => match us, hl with | [_], _ => rfl
  have g3 := PySem.W.mg_of X G a3
  have FP := fun_mk (st := s_is_places) lP cP kP
  have bP := FP.binds (ps := ["value"]) fun _ _ _ _ _ _ us hl => match us, hl with | [_], _ => rfl
  have gP := PySem.W.mg_of X G aP
  have F4 := fun_mk (st := s_check_places) l4 c4 k4
  have b4 := F4.binds (ps := ["places"]) fun _ _ _ _ _ _ us hl => match us, hl with | [_], _ => rfl
  have g4 := PySem.W.mg_of X G a4
  have F5 := fun_mk (st := s_is_word) l5 c5 k5
  have b5 := F5.binds (ps := ["places", "value"]) fun _ _ _ _ _ _ us hl => match us, hl with | [_, _], _ => rfl
  have g5 := PySem.W.mg_of X G a5
  have F6 : FunD K "check_word" "check_word" (defArgs s_check_word) (defBody s_check_word) (defScope s_check_word) [.int 24] [] f6 _ := ⟨⟨_, _, _, _, _, _, _, _, _, _, rfl, l6, c6, .inr ⟨by simp, T, _, _, _, rfl, lT, rfl, .cons ⟨_, rfl⟩ .nil⟩, .inl rfl⟩, k6⟩
  obtain ⟨ds6, hv6, b6⟩ := F6.binds1 (ps := ["word", "places"]) 2 1 (by simp) rfl fun _ _ _ _ _ _ _ us its h1 h2 => match us, its, h1, h2 with | [_, _], [_], _, _ => ⟨_, rfl, rfl⟩
  have g6 := PySem.W.mg_of X G a6
  have F7 := fun_mk (st := s_highest) l7 c7 k7
  have b7 := F7.binds (ps := ["word"]) fun _ _ _ _ _ _ us hl => match us, hl with | [_], _ => rfl
  have g7 := PySem.W.mg_of X G a7
  have F8 := fun_mk (st := s_rest_of) l8 c8 k8
  have b8 := F8.binds (ps := ["word", "basis"]) fun _ _ _ _ _ _ us hl => match us, hl with | [_, _], _ => rfl
  have g8 := PySem.W.mg_of X G a8
  have F9 := fun_mk (st := s_put_in) l9 c9 k9
  have b9 := F9.binds (ps := ["rest", "basis"]) fun _ _ _ _ _ _ us hl => match us, hl with | [_, _], _ => rfl
  have g9 := PySem.W.mg_of X G a9
  have F10 := fun_mk (st := s_plain_basis) l10 c10 k10
  have b10 := F10.binds (ps := ["words"]) fun _ _ _ _ _ _ us hl => match us, hl with | [_], _ => rfl
  have g10 := PySem.W.mg_of X G a10
  have F11 := fun_mk (st := s_sums_of) l11 c11 k11
  have b11 := F11.binds (ps := ["basis"]) fun _ _ _ _ _ _ us hl => match us, hl with | [_], _ => rfl
  have g11 := PySem.W.mg_of X G a11
  have F12 := fun_mk (st := s_check_words) l12 c12 k12
  have b12 := F12.binds (ps := ["places", "words"]) fun _ _ _ _ _ _ us hl => match us, hl with | [_, _], _ => rfl
  have g12 := PySem.W.mg_of X G a12
  have F13 := fun_mk (st := s_law_pot) l13 c13 k13
  have b13 := F13.binds (ps := ["_law_script", "_law_k"]) fun _ _ _ _ _ _ us hl => match us, hl with | [_, _], _ => rfl
  have g13 := PySem.W.mg_of X G a13
  have F14 := fun_mk (st := s_law_draw) l14 c14 k14
  have b14 := F14.binds (ps := ["_law_pot_here", "_law_size"]) fun _ _ _ _ _ _ us hl => match us, hl with | [_, _], _ => rfl
  have g14 := PySem.W.mg_of X G a14
  have F15 := fun_mk (st := s_law_pick) l15 c15 k15
  have b15 := F15.binds (ps := ["_law_pot_here", "_law_some"]) fun _ _ _ _ _ _ us hl => match us, hl with | [_, _], _ => rfl
  have g15 := PySem.W.mg_of X G a15
  have F16 := fun_mk (st := s_law_words) l16 c16 k16
  have b16 := F16.binds (ps := ["_law_pot_here", "_law_places", "_law_many"]) fun _ _ _ _ _ _ us hl => match us, hl with | [_, _, _], _ => rfl
  have g16 := PySem.W.mg_of X G a16
  have F17 := fun_mk (st := s_law_mixed) l17 c17 k17
  have b17 := F17.binds (ps := ["_law_pot_here", "_law_some"]) fun _ _ _ _ _ _ us hl => match us, hl with | [_, _], _ => rfl
  have g17 := PySem.W.mg_of X G a17
  have F18 := fun_mk (st := s_law_span) l18 c18 k18
  have b18 := F18.binds (ps := ["_law_words_here"]) fun _ _ _ _ _ _ us hl => match us, hl with | [_], _ => rfl
  have g18 := PySem.W.mg_of X G a18
  have F19 := fun_mk (st := s_law_basis) l19 c19 k19
  have b19 := F19.binds (ps := ["_law_span_here"]) fun _ _ _ _ _ _ us hl => match us, hl with | [_], _ => rfl
  have g19 := PySem.W.mg_of X G a19
  have F20 := fun_mk (st := s_law_is) l20 c20 k20
  have b20 := F20.binds (ps := ["_law_room", "_law_places", "_law_span_here"]) fun _ _ _ _ _ _ us hl => match us, hl with | [_, _, _], _ => rfl
  have g20 := PySem.W.mg_of X G a20
  have F21 := fun_mk (st := s_law_again_right) l21 c21 k21
  have b21 := F21.binds (ps := ["_law_pot_here", "_law_room", "_law_places", "_law_span_here"]) fun _ _ _ _ _ _ us hl => match us, hl with | [_, _, _, _], _ => rfl
  have g21 := PySem.W.mg_of X G a21
  have F22 := fun_mk (st := s_law_right) l22 c22 k22
  have b22 := F22.binds (ps := ["_law_pot_here"]) fun _ _ _ _ _ _ us hl => match us, hl with | [_], _ => rfl
  have g22 := PySem.W.mg_of X G a22
  have F23 := fun_mk (st := s_law) l23 c23 k23
  have b23 := F23.binds (ps := ["_law_script"]) fun _ _ _ _ _ _ us hl => match us, hl with | [_], _ => rfl
  have g23 := PySem.W.mg_of X G a23
  have Fm1 := fun_mk (st := s_Room___init__) lm1 cm1 km1
  have bm1 := Fm1.binds (ps := ["self", "places", "words"]) fun _ _ _ _ _ _ us hl => match us, hl with | [_, _, _], _ => rfl
  have Fm2 := fun_mk (st := s_Room_places) lm2 cm2 km2
  have bm2 := Fm2.binds (ps := ["self"]) fun _ _ _ _ _ _ us hl => match us, hl with | [_], _ => rfl
  have Fm3 := fun_mk (st := s_Room_dimension) lm3 cm3 km3
  have bm3 := Fm3.binds (ps := ["self"]) fun _ _ _ _ _ _ us hl => match us, hl with | [_], _ => rfl
  have Fm4 := fun_mk (st := s_Room_basis) lm4 cm4 km4
  have bm4 := Fm4.binds (ps := ["self"]) fun _ _ _ _ _ _ us hl => match us, hl with | [_], _ => rfl
  have Fm5 := fun_mk (st := s_Room_has) lm5 cm5 km5
  have bm5 := Fm5.binds (ps := ["self", "word"]) fun _ _ _ _ _ _ us hl => match us, hl with | [_, _], _ => rfl
  have Fm6 := fun_mk (st := s_Room_words) lm6 cm6 km6
  have bm6 := Fm6.binds (ps := ["self"]) fun _ _ _ _ _ _ us hl => match us, hl with | [_], _ => rfl
  have Fm7 := fun_mk (st := s_Room___eq__) lm7 cm7 km7
  have bm7 := Fm7.binds (ps := ["self", "other"]) fun _ _ _ _ _ _ us hl => match us, hl with | [_, _], _ => rfl
  have Fm8 := fun_mk (st := s_Room___repr__) lm8 cm8 km8
  have bm8 := Fm8.binds (ps := ["self"]) fun _ _ _ _ _ _ us hl => match us, hl with | [_], _ => rfl
  have m_isinstance := PySem.W.mg_none_of X G z_isinstance
  have m_int := PySem.W.mg_none_of X G z_int
  have m_bool := PySem.W.mg_none_of X G z_bool
  have m_list := PySem.W.mg_none_of X G z_list
  have m_tuple := PySem.W.mg_none_of X G z_tuple
  have m_range := PySem.W.mg_none_of X G z_range
  have m_all := PySem.W.mg_none_of X G z_all
  have m_len := PySem.W.mg_none_of X G z_len
  have m_sorted := PySem.W.mg_none_of X G z_sorted
  have m_abs := PySem.W.mg_none_of X G z_abs
  have m_max := PySem.W.mg_none_of X G z_max
  have m_min := PySem.W.mg_none_of X G z_min
  have m_divmod := PySem.W.mg_none_of X G z_divmod
  have m_repr := PySem.W.mg_none_of X G z_repr
  have m_str := PySem.W.mg_none_of X G z_str
  have m_enumerate := PySem.W.mg_none_of X G z_enumerate
  have g_MOST_PLACES := PySem.W.mg_of X G v_MOST_PLACES
  have g_MOST_WORDS := PySem.W.mg_of X G v_MOST_WORDS
  have g_MOST_DIMENSION := PySem.W.mg_of X G v_MOST_DIMENSION
  have g_Room := PySem.W.mg_of X G aC
  have RK : RKn K C := ⟨⟨pg, hd, po, sa⟩, nP, nB, ca, cn, ct, cm⟩
  have n_basis : ∀ n b, (rf n b).lookup ("basis" : Str) = none := fun n b => rf_no n b (by decide +kernel) (by decide +kernel)
  have n_words : ∀ n b, (rf n b).lookup ("words" : Str) = none := fun n b => rf_no n b (by decide +kernel) (by decide +kernel)
  have n_has : ∀ n b, (rf n b).lookup ("has" : Str) = none := fun n b => rf_no n b (by decide +kernel) (by decide +kernel)
  have kl := kit_own (T := "list") ic ty sl
  have ki := kit_own (T := "int") ic ty si
  refine ⟨PySem.W.fnOf "law" "law" (defArgs s_law) (defBody s_law) (defScope s_law) .none kV23 dc23 pm23 an23 cd23 ct23, fun s v => .of_eq rfl, fun base _ _ => ?_⟩
  have C_is_integer : Cal l.prog w K mg base "is_integer" 1 ["value"] [] sp_is_integer := ⟨f1, _, [], ok_is_integer F1 m_isinstance m_int m_bool, g1, k1, b1, .nil⟩
  have C_is_count : Cal l.prog w K mg base "is_count" 2 ["value"] [] sp_is_count := ⟨f2, _, [], ok_is_count F2 C_is_integer, g2, k2, b2, .nil⟩
  have C_is_list : Cal l.prog w K mg base "is_list" 1 ["value"] [] sp_is_list := ⟨f3, _, [], ok_is_list F3 m_isinstance m_list m_tuple, g3, k3, b3, .nil⟩
  have C_is_places : Cal l.prog w K mg base "is_places" 2 ["value"] [] sp_is_places := ⟨fP, _, [], ok_is_places FP C_is_integer g_MOST_PLACES, gP, kP, bP, .nil⟩
  have C_check_places : Cal l.prog w K mg base "check_places" 3 ["places"] [] sp_check_places := ⟨f4, _, [], ok_check_places F4 C_is_places, g4, k4, b4, .nil⟩
  have C_is_word : Cal l.prog w K mg base "is_word" 4 ["places", "value"] [] sp_is_word := ⟨f5, _, [], ok_is_word F5 C_check_places C_is_count, g5, k5, b5, .nil⟩
  have C_check_word : Cal l.prog w K mg base "check_word" 5 ["word", "places"] [] sp_check_word := ⟨f6, _, ds6, ok_check_word F6 C_is_word, g6, k6, b6, hv6⟩
  have C_highest : Cal l.prog w K mg base "highest" 1 ["word"] [] sp_highest := ⟨f7, _, [], ok_highest F7, g7, k7, b7, .nil⟩
  have C_rest_of : Cal l.prog w K mg base "rest_of" 2 ["word", "basis"] [] sp_rest_of := ⟨f8, _, [], ok_rest_of F8 C_highest, g8, k8, b8, .nil⟩
  have C_put_in : Cal l.prog w K mg base "put_in" 2 ["rest", "basis"] [] sp_put_in := ⟨f9, _, [], ok_put_in F9 C_highest m_sorted, g9, k9, b9, .nil⟩
  have C_plain_basis : Cal l.prog w K mg base "plain_basis" 3 ["words"] [] sp_plain_basis := ⟨f10, _, [], ok_plain_basis F10 C_rest_of C_put_in, g10, k10, b10, .nil⟩
  have C_sums_of : Cal l.prog w K mg base "sums_of" 1 ["basis"] [] sp_sums_of := ⟨f11, _, [], ok_sums_of F11 m_sorted, g11, k11, b11, .nil⟩
  have C_check_words : Cal l.prog w K mg base "check_words" 5 ["places", "words"] [] sp_check_words := ⟨f12, _, [], ok_check_words F12 C_is_list C_is_word g_MOST_WORDS m_len m_enumerate, g12, k12, b12, .nil⟩
  have C_law_pot : Cal l.prog w K mg base "_law_pot" 1 ["_law_script", "_law_k"] [] (sp_pot K) := ⟨f13, _, [], ok_law_pot F13 m_len m_abs m_max m_int, g13, k13, b13, .nil⟩
  have C_law_draw : Cal l.prog w K mg base "_law_draw" 1 ["_law_pot_here", "_law_size"] [] sp_draw := ⟨f14, _, [], ok_law_draw F14 m_divmod m_int, g14, k14, b14, .nil⟩
  have C_law_mixed : Cal l.prog w K mg base "_law_mixed" 2 ["_law_pot_here", "_law_some"] [] sp_mixed := ⟨f17, _, [], ok_law_mixed F17 C_law_draw m_list m_range m_len, g17, k17, b17, .nil⟩
  have C_law_pick : Cal l.prog w K mg base "_law_pick" 2 ["_law_pot_here", "_law_some"] [] sp_pick := ⟨f15, _, [], ok_law_pick F15 C_law_draw m_len, g15, k15, b15, .nil⟩
  have C_law_words : Cal l.prog w K mg base "_law_words" 2 ["_law_pot_here", "_law_places", "_law_many"] [] sp_lwords := ⟨f16, _, [], ok_law_words F16 C_law_draw m_range, g16, k16, b16, .nil⟩
  have C_law_span : Cal l.prog w K mg base "_law_span" 1 ["_law_words_here"] [] sp_span := ⟨f18, _, [], ok_law_span F18 m_sorted, g18, k18, b18, .nil⟩
  have C_law_basis : Cal l.prog w K mg base "_law_basis" 1 ["_law_span_here"] [] sp_lbasis := ⟨f19, _, [], ok_law_basis F19, g19, k19, b19, .nil⟩
  have O_init := ok_init (P := l.prog) (w := w) (mg := mg) (base := base) Fm1 RK C_check_places C_check_words C_plain_basis
  have MM : Mk K C fm1 := ⟨mk, am1, im1, kc⟩
  have MK_Room : MakC l.prog w K mg base C "Room" 6 ["self", "places", "words"] (sp_init C) := ⟨fm1, _, O_init, MM, g_Room, bm1⟩
  have MKK_Room : MakK l.prog w K mg base C "Room" 6 ["self", "places", "words"] ["words", "places"] kwR (sp_init C) :=
    ⟨fm1, _, fun us ws => us ++ ws.reverse, O_init, MM, g_Room, ⟨fun s us ws X h1 h2 => match us, ws, h1, h2 with | [_], [_, _], _, _ => .of_eq rfl, fun r1 r2 => r1.append (vals_rev r2)⟩⟩
  have P_places : PrpC l.prog w K mg base C "places" 1 (sp_places C) := ⟨prm2, fm2, _, ok_places Fm2 RK, ⟨am2, gm2, um2, ⟨_, rm2⟩⟩, bm2, RK.cl⟩
  have P_dimension : PrpC l.prog w K mg base C "dimension" 1 (sp_dimension C) := ⟨prm3, fm3, _, ok_dimension Fm3 RK m_len, ⟨am3, gm3, um3, ⟨_, rm3⟩⟩, bm3, RK.cl⟩
  have M_basis : MthC l.prog w K mg base C "basis" 1 ["self"] (sp_basis C) := ⟨fm4, _, ok_basis Fm4 RK m_list, ⟨am4, im4, km4⟩, bm4, RK.cl⟩
  have M_words : MthC l.prog w K mg base C "words" 2 ["self"] (sp_words C) := ⟨fm6, _, ok_words Fm6 RK C_sums_of g_MOST_DIMENSION m_len, ⟨am6, im6, km6⟩, bm6, RK.cl⟩
  have O_has := ok_has (P := l.prog) (w := w) (mg := mg) (base := base) Fm5 RK C_check_word C_rest_of
  have M_has : MthC l.prog w K mg base C "has" 6 ["self", "word"] (sp_has C) := ⟨fm5, _, O_has, ⟨am5, im5, km5⟩, bm5, RK.cl⟩
  have MK_has : MthK l.prog w K mg base C "has" 6 ["self", "word"] ["word"] kwA (sp_has C) := ⟨fm5, _, fun us ws => us ++ ws, O_has, ⟨am5, im5, km5⟩, ⟨fun s us ws X h1 h2 => match us, ws, h1, h2 with | [_], [_], _, _ => .of_eq rfl, fun r1 r2 => r1.append r2⟩, RK.cl⟩
  have EC_Room : EqC l.prog w K mg base C 1 (sp_eq K C) := ⟨fm7, _, ok_eq Fm7 RK g_Room m_isinstance, am7, im7, bm7, ne, cm⟩
  have RC_Room : RepC l.prog w K mg base C 1 (sp_repr C) := ⟨fm8, _, ok_repr Fm8 RK, am8, im8, bm8⟩
  have C_law_is : CalG l.prog w K mg base "_law_is" 3 ["_law_room", "_law_places", "_law_span_here"] (sp_is C) := ⟨f20, _, ok_law_is F20 RK P_places M_basis C_law_basis g_Room m_isinstance m_repr n_basis, g20, k20, b20⟩
  have C_law_again_right : CalG l.prog w K mg base "_law_again_right" 8 ["_law_pot_here", "_law_room", "_law_places", "_law_span_here"] (sp_again C) := ⟨f21, _, ok_law_again F21 RK M_basis M_words MK_Room EC_Room C_law_mixed C_law_draw C_law_pick C_law_span m_tuple n_basis n_words kl ki fl fi, g21, k21, b21⟩
  have C_law_right : CalG l.prog w K mg base "_law_right" 9 ["_law_pot_here"] sp_right := ⟨f22, _, ok_law_right F22 C_law_draw C_law_words C_law_pick C_law_mixed C_law_span C_law_basis C_law_is C_law_again_right MK_Room MKK_Room EC_Room RC_Room P_dimension M_basis M_words M_has MK_has m_repr m_len m_str n_basis n_words n_has, g22, k22, b22⟩
  exact ok_law F23 C_law_right C_law_pot m_all m_range m_max m_min m_len
end K12

open PySem PySem.W PyProof.Rows
set_option Elab.async false
set_option maxRecDepth 100000 in
set_option maxHeartbeats 0 in
theorem PySem.Challenge.cw_owncontraries_k12_whole_rooms_made_holds : PySem.Challenge.rw_owncontraries_k12_whole_rooms_made.Holds := by
  w_on; o_law; k_head; (case hw => w_witness2)
  k_fill
  refine Vf.walk_gn (l := PySem.Challenge.rw_owncontraries_k12_whole_rooms_made) (n := 63) (k := 10) (x := "_law_script") (sp := fun w => K12.sp_law _) rfl (by decide) rfl ⟨rfl, by decide, by decide⟩ (fun w h Y => PySem.W.kIn_of Y) ?F (fun _ _ a ns _ _ _ hS => ⟨a, ns, rfl, hS, fun _ => rfl⟩)
  case F =>
    intro w mg fa h KX G hmg
    refine' K12.all_mk KX G hmg ?aC ?a1 ?l1 ?c1 ?k1 ?a2 ?l2 ?c2 ?k2 ?a3 ?l3 ?c3 ?k3 ?aP ?lP ?cP ?kP ?a4 ?l4 ?c4 ?k4 ?a5 ?l5 ?c5 ?k5 ?a6 ?l6 ?c6 ?k6 ?a7 ?l7 ?c7 ?k7 ?a8 ?l8 ?c8 ?k8 ?a9 ?l9 ?c9 ?k9 ?a10 ?l10 ?c10 ?k10 ?a11 ?l11 ?c11 ?k11 ?a12 ?l12 ?c12 ?k12 ?a13 ?l13 ?c13 ?k13 ?a14 ?l14 ?c14 ?k14 ?a15 ?l15 ?c15 ?k15 ?a16 ?l16 ?c16 ?k16 ?a17 ?l17 ?c17 ?k17 ?a18 ?l18 ?c18 ?k18 ?a19 ?l19 ?c19 ?k19 ?a20 ?l20 ?c20 ?k20 ?a21 ?l21 ?c21 ?k21 ?a22 ?l22 ?c22 ?k22 ?a23 ?l23 ?c23 ?k23 ?am1 ?im1 ?lm1 ?cm1 ?km1 ?am2 ?gm2 ?um2 ?rm2 ?lm2 ?cm2 ?km2 ?am3 ?gm3 ?um3 ?rm3 ?lm3 ?cm3 ?km3 ?am4 ?im4 ?lm4 ?cm4 ?km4 ?am5 ?im5 ?lm5 ?cm5 ?km5 ?am6 ?im6 ?lm6 ?cm6 ?km6 ?am7 ?im7 ?lm7 ?cm7 ?km7 ?am8 ?im8 ?lm8 ?cm8 ?km8 ?lT ?v_MOST_PLACES ?v_MOST_WORDS ?v_MOST_DIMENSION ?z_isinstance ?z_int ?z_bool ?z_list ?z_tuple ?z_range ?z_all ?z_len ?z_sorted ?z_abs ?z_max ?z_min ?z_divmod ?z_repr ?z_str ?z_enumerate ?pg ?hd ?po ?sa ?mk ?kc ?nP ?nB ?ca ?cn ?ct ?cm ?ne ?ic ?ty ?sl ?si ?fl ?fi
    (case aC => k_is)
    (case a1 => k_is)
    (case l1 => k_is)
    (case c1 => k_is)
    (case k1 => k_is)
    (case a2 => k_is)
    (case l2 => k_is)
    (case c2 => k_is)
    (case k2 => k_is)
    (case a3 => k_is)
    (case l3 => k_is)
    (case c3 => k_is)
    (case k3 => k_is)
    (case aP => k_is)
    (case lP => k_is)
    (case cP => k_is)
    (case kP => k_is)
    (case a4 => k_is)
    (case l4 => k_is)
    (case c4 => k_is)
    (case k4 => k_is)
    (case a5 => k_is)
    (case l5 => k_is)
    (case c5 => k_is)
    (case k5 => k_is)
    (case a6 => k_is)
    (case l6 => k_is)
    (case c6 => k_is)
    (case k6 => k_is)
    (case a7 => k_is)
    (case l7 => k_is)
    (case c7 => k_is)
    (case k7 => k_is)
    (case a8 => k_is)
    (case l8 => k_is)
    (case c8 => k_is)
    (case k8 => k_is)
    (case a9 => k_is)
    (case l9 => k_is)
    (case c9 => k_is)
    (case k9 => k_is)
    (case a10 => k_is)
    (case l10 => k_is)
    (case c10 => k_is)
    (case k10 => k_is)
    (case a11 => k_is)
    (case l11 => k_is)
    (case c11 => k_is)
    (case k11 => k_is)
    (case a12 => k_is)
    (case l12 => k_is)
    (case c12 => k_is)
    (case k12 => k_is)
    (case a13 => k_is)
    (case l13 => k_is)
    (case c13 => k_is)
    (case k13 => k_is)
    (case a14 => k_is)
    (case l14 => k_is)
    (case c14 => k_is)
    (case k14 => k_is)
    (case a15 => k_is)
    (case l15 => k_is)
    (case c15 => k_is)
    (case k15 => k_is)
    (case a16 => k_is)
    (case l16 => k_is)
    (case c16 => k_is)
    (case k16 => k_is)
    (case a17 => k_is)
    (case l17 => k_is)
    (case c17 => k_is)
    (case k17 => k_is)
    (case a18 => k_is)
    (case l18 => k_is)
    (case c18 => k_is)
    (case k18 => k_is)
    (case a19 => k_is)
    (case l19 => k_is)
    (case c19 => k_is)
    (case k19 => k_is)
    (case a20 => k_is)
    (case l20 => k_is)
    (case c20 => k_is)
    (case k20 => k_is)
    (case a21 => k_is)
    (case l21 => k_is)
    (case c21 => k_is)
    (case k21 => k_is)
    (case a22 => k_is)
    (case l22 => k_is)
    (case c22 => k_is)
    (case k22 => k_is)
    (case a23 => k_is)
    (case l23 => k_is)
    (case c23 => k_is)
    (case k23 => k_is)
    (case am1 => k_is)
    (case im1 => k_is)
    (case lm1 => k_is)
    (case cm1 => k_is)
    (case km1 => k_is)
    (case am2 => k_is)
    (case gm2 => k_is)
    (case um2 => k_is)
    (case rm2 => k_is)
    (case lm2 => k_is)
    (case cm2 => k_is)
    (case km2 => k_is)
    (case am3 => k_is)
    (case gm3 => k_is)
    (case um3 => k_is)
    (case rm3 => k_is)
    (case lm3 => k_is)
    (case cm3 => k_is)
    (case km3 => k_is)
    (case am4 => k_is)
    (case im4 => k_is)
    (case lm4 => k_is)
    (case cm4 => k_is)
    (case km4 => k_is)
    (case am5 => k_is)
    (case im5 => k_is)
    (case lm5 => k_is)
    (case cm5 => k_is)
    (case km5 => k_is)
    (case am6 => k_is)
    (case im6 => k_is)
    (case lm6 => k_is)
    (case cm6 => k_is)
    (case km6 => k_is)
    (case am7 => k_is)
    (case im7 => k_is)
    (case lm7 => k_is)
    (case cm7 => k_is)
    (case km7 => k_is)
    (case am8 => k_is)
    (case im8 => k_is)
    (case lm8 => k_is)
    (case cm8 => k_is)
    (case km8 => k_is)
    (case lT => k_is)
    (case v_MOST_PLACES => k_is)
    (case v_MOST_WORDS => k_is)
    (case v_MOST_DIMENSION => k_is)
    (case z_isinstance => k_is)
    (case z_int => k_is)
    (case z_bool => k_is)
    (case z_list => k_is)
    (case z_tuple => k_is)
    (case z_range => k_is)
    (case z_all => k_is)
    (case z_len => k_is)
    (case z_sorted => k_is)
    (case z_abs => k_is)
    (case z_max => k_is)
    (case z_min => k_is)
    (case z_divmod => k_is)
    (case z_repr => k_is)
    (case z_str => k_is)
    (case z_enumerate => k_is)
    (case pg => k_is)
    (case hd => k_is)
    (case po => k_is)
    (case sa => k_is)
    (case mk => k_is)
    (case kc => k_is)
    (case nP => k_is)
    (case nB => k_is)
    (case ca => k_is)
    (case cn => k_is)
    (case ct => k_is)
    (case cm => k_is)
    (case ne => k_is)
    (case ic => k_is)
    (case ty => k_is)
    (case sl => k_is)
    (case si => k_is)
    (case fl => k_is)
    (case fi => k_is)

