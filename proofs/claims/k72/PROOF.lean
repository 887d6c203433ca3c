import PyProof.Rows.All
import Wide.All
import OpenK.AllK
import Wide.FinOn
import HandS.ForMost
import HandS.IsInst
import HandS.Defaults
import HandS.Zip
import HandS.Strs
import HandS.Style
import HandS.Flow
import HandS.WideBits
import HandS.EndBits
import HandS.SetFor
import HandS.SortKw
import HandS.SortInts
import HandS.Property
import HandS.OwnEq
import HandS.FStr
import PyProof.ReprRoads
import PyProof.InstNe
import KE.GoesEnum
import HandS.MakeKwOnly
import HandS.ClsMeth
import HandS.Conv
import HandS.Small
import HandS.TupAny
import HandS.RevTup
import KE.SortKeyHeap
import HandS.Lambda
import KE.DataCmp
import HandS.TryOnly
import PyProof.NeKinds
import HandS.ExcOwn
import HandS.WordsExc
import HandS.Deep
import PySem.Challenge.RW_owncontraries_k72_whole_part_rooms
set_option Elab.async false
set_option linter.all false
set_option maxRecDepth 100000
set_option maxHeartbeats 4000000
namespace Vf
open PySem PySem.Spec PyProof.Rows L2
/-! ### defs that ask that no repr is under way -/
/-- a def's promise, kept where no guard is up -/
structure GnOk (P : Program) (w : World) (K : PySem.W.Frag) (mg : Str → Option Value) (base : Heap)
    (k : Nat) (f : Addr) (fd : FuncData) (ps : List Str) (sp : Sp) : Prop where
  len : ∀ vs H Q E, sp vs H Q E → vs.length = ps.length
  go : ∀ (A : Around) (outer : List Env) (s : Shared) (H : Hp) (args : Args) (us : List Value) (vs : List V) (Q : VK) (E : XK),
    A.guards = some [] → Room k A → Env0 P w K mg base A outer s H → BindsTo s fd args (ps.zip us) → Vals vs us →
    sp vs H Q E → codeAny (model P w) A (.call (.ref f) args) (CR CX0 outer P w H s Q E) s
theorem GnOk.of {P : Program} {w : World} {K : PySem.W.Frag} {mg : Str → Option Value} {base : Heap} {k : Nat} {f : Addr} {fd : FuncData} {ps : List Str} {sp : Sp}
    (F : FnOk P w K mg base CX0 k f fd ps sp) : GnOk P w K mg base k f fd ps sp :=
  ⟨F.len, fun A outer s H args us vs Q E _ => F.run A outer s H args us vs Q E⟩
theorem deeper_guards {A : Around} {env : Env} (h : A.guards = some []) : (A.deeper env).guards = some [] := by
  first | exact h | simpa [Around.deeper] using h
section
variable {P : Program} {w : World} {K : PySem.W.Frag} {mg : Str → Option Value} {base : Heap}
/-- a def of the text by its body, its guards told -/
theorem gn_ok {x qual : Str} {st : Stmt} {f : Addr} {fd : FuncData} {N ps : List Str} {k : Nat} {sp : Sp}
    (F : Fun K x qual st f fd) (S : FnScope N ps (defScope st)) (len : ∀ vs H Q E, sp vs H Q E → vs.length = ps.length)
    (hb : ∀ (cdv : Value) (A : Around) (outer : List Env) (s : Shared) (H : Hp) (vs : List V) (Q : VK) (E : XK),
      (A.deeper (envOfC qual (defScope st) s.heap.objs.size f cdv)).guards = some [] →
      Room k (A.deeper (envOfC qual (defScope st) s.heap.objs.size f cdv)) → sp vs H Q E →
      ∃ t, PSs (cxOf CX0 P w K mg base N qual (defScope st) f cdv A outer s H E).nox (defBody st) t ∧
        t { nx := fun _ H' => Q .non H', rt := Q } (start N vs) H) : GnOk P w K mg base (k + 1) f fd ps sp := by
  refine ⟨len, fun A outer s H args us vs Q E hg hr e0 hbd rv hs => ?_⟩
  -- the body is walked at this around alone
  obtain ⟨oc, od, kV, doc, pm, an, cdv, ct, osl, rfl, lk, hcd⟩ := F.ex
  let sp1 : Sp := fun vs' H' Q' E' => sp vs' H' Q' E'
  have lenU : vs.length = ps.length := len _ _ _ _ hs
  have kin : K.In s.heap := e0.mod.kin.keeps fun b o e => (e0.bs b o e).1
  have nolim : s.heap.NoLimit := e0.mod.nolimit.keeps fun b o e => (e0.bs b o e).1
  have kinds : ∀ y ∈ ps.zip us, (defScope st).names.lookup y.1 = some .local ∨
      ((defScope st).names.lookup y.1 = some .cell ∧
        ((cellsFrom (s.heap.objs.size + 1) (defScope st).names []).lookup y.1).isSome = true) := by
    rintro ⟨n, v⟩ hy
    cases S.par n (List.of_mem_zip hy).1 with
    | inl q => exact .inl q
    | inr q => exact .inr ⟨q, PySem.W.cellsFrom_some _ _ _ (.inl q)⟩
  refine codeAny_call_function hr.depth (kin _ _ lk) rfl S.co S.gen rfl
    (PySem.W.codeRec_of kin hcd) (hbd _ _ _ _ ?_)
  refine wpAny_newFunctionEnv_cells S.kind kinds fun env he s1 y => ?_
  subst he
  refine ⟨nolim.keeps y.toInCall.keep, codeAny_func ?_⟩
  obtain ⟨t, ht, hq⟩ := hb cdv A outer s H vs Q E (deeper_guards hg) (hr.deeper _) hs
  have I0 := inv_start (CX := CX0) (P := P) (w := w) (K := K) (mg := mg) (base := base) (N := N) (qual := qual)
    (f := f) (cd := cdv) (A := A) (outer := outer) (s := s) (H := H) (E := E) S hr.hd e0 lenU rv y
  refine wpAny_mono (ht.nox.run [] s1 (start N vs) H _ I0 hq) (fun fl s' hh => ?_) fun e s' hh => hh
  cases fl with
  | next =>
    obtain ⟨σ', H', J, q⟩ := hh
    exact ⟨V.non, H', J.os, J.bare, J.base, J.hok, rfl, q⟩
  | ret u =>
    obtain ⟨v, σ', H', J, r2, q⟩ := hh
    exact ⟨v, H', J.os, J.bare, J.base, J.hok, r2, q⟩
  | brk => obtain ⟨_, _, _, q⟩ := hh; exact q.elim
  | cont => obtain ⟨_, _, _, q⟩ := hh; exact q.elim
end
section
variable {X : Cx} {k : Nat} {f : Addr} {fd : FuncData} {ps ks : List Str} {sp : Sp} {E : XK} {x : Str} {p pos : Pos}
  {e : Expr} {es : List Expr} {kws : List Keyword} {t tk : TA} {g : List Value → List Value → List Value} {gV : List V → List V → List V}
/-- f(k = v, ..): keywords alone -/
theorem pe_callKw {CX : CXT} (F : FnOk X.prog X.w X.K X.mg X.base CX k f fd ps sp) (hr : Room k X.A) (hg : Gl X x)
    (hm : X.mg x = some (.ref f)) (hk : PySem.W.keepIn X.K (.ref f) = true) (hb : KBn X.K fd ps 0 ks g gV) (hx : Passes CX X E)
    (hkw : PK X kws tk) (hall : (backToKw pos (keywordEach kws X.env)).all (·.1.isSome) = true := by rfl)
    (hks : (backToKw pos (keywordEach kws X.env)).filterMap (·.1) = ks := by rfl)
    (hdb : (x == ("__debug__" : Str)) = false := by decide)
    (hpl : ((backTo pos (starEach [] X.env)).any (·.1) || (backToKw pos (keywordEach kws X.env)).any (·.1.isNone)) = false := by rfl) :
    PE X (.Call (.Name x p) [] kws pos) (fun σ H Q => tk σ H fun zs H1 => zs.length = ks.length ∧ sp (gV [] zs) H1 Q E) := by
  refine ⟨fun pins s σ H Q I h => wpAny_Call_Name_kw (ld_glob I hg hm ?_ hdb)⟩
  refine PySem.W.callWith_KW0 (h₀ := X.base) I.ok.mod.kin hk hall ?_ hpl
  refine thn (hkw.run pos pins s σ H _ I h) fun ws s2 ⟨zs, H2, I2, rz, l2, q2⟩ => ⟨I2.kIn, ?_⟩
  rw [hks]
  exact run_fnN (us := []) (vs := []) F hr hb hx I2 .nil rz rfl l2 q2
end
end Vf
namespace Vf
open PySem PySem.Spec PyProof.Rows L2
/-! ### the end of a law whose promise wants the guards -/
theorem law_run {P : Program} {w : World} {K : PySem.W.Frag} {mg mb : Str → Option Value} {k : Nat} {fa a : Addr} {fd : FuncData}
    {x : Str} {sp : Sp} {s₁ : Shared} {vs : List Value} {ns : List Int} (kin : K.In s₁.heap)
    (hns : s₁.heap.Ns mainGlobals mg) (hb : s₁.heap.Ns builtinsNs mb) (hbb : ∀ x : Str, x ≠ "__name__" → mb x = bootBuiltins x)
    (hlim : s₁.heap.NoLimit) (hg : s₁.gens = #[]) (ha : s₁.heap.get? a = some { cls := .type "list", data := .seq vs.toArray })
    (hi : IntsAre vs ns) (hl : ns.length ≤ sizeLine) (hr : Room k callerA)
    (F : ∀ base : Heap, K.In base → base.Ns mainGlobals mg → GnOk P w K mg base k fa fd [x] sp)
    (hbind : ∀ (s : Shared) (u : Value), BindsTo s fd ⟨[u], []⟩ [(x, u)])
    (hsp : ∀ H : Hp, Only H → SqL K H a (ns.map V.int) → sp [.ref a] H (fun v _ => v = .bl true) E0) :
    codeAny (model P w) callerA (.call (.ref fa) ⟨[.ref a], []⟩)
      (fun r s' => r = .ok (.ret (.bool true)) ∧ OldK s₁.heap s'.heap ∧ s'.os = s₁.os ∧ AllBare s'.gens) s₁ := by
  have rv : Vals (ns.map V.int) vs := vals_ints hi
  have hlen : vs.length = ns.length := hi.length
  -- once the tracked heap is chosen
  have main : ∀ H : Hp, Only H → SqL K H a (ns.map V.int) → HOk P w H s₁.heap → (∀ b u, H b = some u → b = a) →
      (∀ u, H a = some u → K.lookup a = none) → codeAny (model P w) callerA (.call (.ref fa) ⟨[.ref a], []⟩)
      (fun r s' => r = .ok (.ret (.bool true)) ∧ OldK s₁.heap s'.heap ∧ s'.os = s₁.os ∧ AllBare s'.gens) s₁ := by
    intro H only seq ok onlyA notK
    have free : ∀ {b : Addr}, b ≠ a → H b = none := fun {b} nb => by
      cases q : H b with
      | none => rfl
      | some u => exact absurd (onlyA b u q) nb
    have seen : ∀ {b : Addr} {m : Str → Option Value}, s₁.heap.Ns b m → (hidT s₁.heap H).Ns b m := by
      rintro b m ⟨o, es, ep, e, d, r⟩
      refine ⟨o, es, ep, hidT_get e (free ?_), d, r⟩
      rintro rfl
      rw [ha] at e
      cases e
      exact absurd (show Data.seq vs.toArray _ = Data.dict es ep from d) (by intro z; cases z)
    have kinb : K.In (hidT s₁.heap H) := by
      intro b o e
      refine hidT_get (kin b o e) ?_
      cases q : H b with
      | none => rfl
      | some u =>
        obtain rfl := onlyA b u q
        rw [notK u q] at e
        cases e
    have md : Mod K mg (hidT s₁.heap H) := by
      obtain ⟨mc, h1, h2⟩ := hlim
      exact ⟨kinb, seen hns, ⟨mb, seen hb, hbb⟩, ⟨mc, seen h1, h2⟩⟩
    have e0 : Env0 P w K mg (hidT s₁.heap H) callerA [] s₁ H :=
      ⟨rfl, md, fun b o e => of_hidT e, Nat.le_of_eq (hidT_size _ _), trivial, fun b z => (List.not_mem_nil z).elim, ok, .of_eq hg⟩
    have run := (F _ kinb (seen hns)).go callerA [] s₁ H ⟨[.ref a], []⟩ [.ref a] [.ref a] _ _ rfl hr e0 (hbind s₁ (.ref a))
      (.cons rfl .nil) (hsp H only seq)
    refine codeAny_mono run fun r s' h => ?_
    cases r with
    | error e => exact h.elim
    | ok fl =>
      cases fl with
      | ret u =>
        obtain ⟨v, H', os, bare, un, ok', r', q⟩ := h
        obtain rfl : v = .bl true := q
        obtain rfl : u = Value.bool true := r'
        refine ⟨rfl, .of_keep fun b o e => ?_, os, bare⟩
        cases only b with
        | inl z => exact un.keep b o e z (fun z => (List.not_mem_nil z).elim) (fun z => (List.not_mem_nil z).elim)
        | inr z =>
          obtain ⟨ob, xs, z⟩ := z
          have f1 := (ok b _ z).1
          have f2 := (ok' b _ (un.frzs b ob _ z)).1
          rw [e] at f1
          cases f1
          exact f2
      | next => exact h.elim
      | brk => exact h.elim
      | cont => exact h.elim
  cases hk : K.lookup a with
  | none =>
    refine main (fun b => if b = a then some (.frz { cls := .type "list", data := .seq vs.toArray } (.lst (ns.map V.int))) else none)
      (fun b => ?_) (.inl (.inr ⟨_, if_pos rfl⟩)) (fun b u z => ?_) (fun b u z => ?_) fun _ _ => hk
    · by_cases hb : b = a
      · exact .inr ⟨_, _, if_pos hb⟩
      · exact .inl (if_neg hb)
    · by_cases hb : b = a
      · subst hb
        cases (if_pos rfl).symm.trans z
        refine ⟨ha, ?_, vs, _, rv, ha⟩
        rw [List.length_map]
        exact hl
      · cases (if_neg hb).symm.trans z
    · by_cases hb : b = a
      · exact hb
      · cases (if_neg hb).symm.trans z
  | some o =>
    have e := kin a o hk
    rw [ha] at e
    cases e
    refine main (fun _ => none) (fun _ => .inl rfl) (.inr ⟨_, vs.toArray, _, hk, rfl, rfl, rfl, ?_, by simpa using rv⟩)
      (fun b u z => ?_) (fun b u z => ?_) fun u z => ?_
    · rw [List.size_toArray, hlen]
      exact hl
    · cases (show (none : Option HO) = some u from z)
    · cases (show (none : Option HO) = some u from z)
    · cases (show (none : Option HO) = some u from z)
theorem walk_gn {l : PySem.W.OpenLaw} {n k : Nat} {q : Program} {loose : List Str} {XP : (Str → Option Value) → Heap → Prop}
    {YP : World → Heap → Prop} {d : DefRec} {K : Params → PySem.W.Frag} {sp : World → Sp} {x : Str}
    (hn : l.most = some n) (hn2 : n ≤ sizeLine) (hdf : d.params.defaults = []) (hr : Room k callerA)
    (hY : ∀ (w : World) (h : Heap), YP w h → (K w.params).In h)
    (F : ∀ (w : World) (mg : Str → Option Value) (fa : Addr) (h : Heap), (K w.params).In h → h.Ns mainGlobals mg → mg d.name = some (.ref fa) →
      ∃ fd : FuncData, (∀ (s : Shared) (u : Value), BindsTo s fd ⟨[u], []⟩ [(x, u)]) ∧
        ∀ base : Heap, (K w.params).In base → base.Ns mainGlobals mg → GnOk l.prog w (K w.params) mg base k fa fd [x] (sp w))
    (hsp : ∀ (w : World) (H : Hp) (a : Addr) (ns : List Int), ns.length ≤ n → (∀ k ∈ ns, Builtin.Int.intBits k ≤ 1048576) → Only H →
      SqL (K w.params) H a (ns.map V.int) → sp w [.ref a] H (fun v _ => v = .bl true) E0) :
    PySem.W.WalkO q loose XP YP l.row.toRowW d [] (fun f vs => PySem.call f vs) := by
  refine Att.attach_callB hn hdf fun w s₀ s₁ mg mb fa o pm cd doc a vs ns G Y ho hd hcd hmg hobj hints hlen hbits hg => ?_
  obtain ⟨fd, hb, hF⟩ := F w mg fa _ (hY w _ Y) G.T.g hmg
  exact law_run (hY w _ Y) G.T.g G.T.b G.T.builtins G.T.nolimit hg hobj hints (Nat.le_trans hlen hn2) hr hF hb
    fun H hO hS => hsp w H a ns hlen hbits hO hS
end Vf
namespace Vf
/-! ### how many places are on -/
def pcK : Nat → Nat → Nat
  | 0, _ => 0
  | k + 1, n => n % 2 + pcK k (n / 2)
def spotsK (k n : Nat) : List Nat := (List.range k).filter fun i => n.testBit i
theorem spotsK_succ (k n : Nat) : spotsK (k + 1) n = (if n % 2 = 1 then [0] else []) ++ (spotsK k (n / 2)).map (· + 1) := by
  unfold spotsK
  rw [List.range_succ_eq_map, List.filter_cons, List.filter_map]
  have e : ((fun i => n.testBit i) ∘ Nat.succ) = fun i => (n / 2).testBit i := by
    funext i
    show n.testBit (i + 1) = _
    rw [Nat.testBit_succ]
  rw [e]
  rw [Nat.testBit_zero]
  by_cases h : n % 2 = 1
  · simp [h]
  · simp [h]
theorem spotsK_len : ∀ k n, (spotsK k n).length = pcK k n
  | 0, _ => rfl
  | k + 1, n => by
    rw [spotsK_succ, List.length_append, List.length_map, spotsK_len k]
    show _ = n % 2 + pcK k (n / 2)
    by_cases h : n % 2 = 1
    · rw [if_pos h, h]; rfl
    · rw [if_neg h]
      have : n % 2 = 0 := by omega
      rw [this]; rfl
theorem sum_double : ∀ l : List Nat, ((l.map (· + 1)).map (2 ^ ·)).sum = 2 * (l.map (2 ^ ·)).sum
  | [] => rfl
  | x :: l => by
    rw [List.map_cons, List.map_cons, List.sum_cons, sum_double l, List.map_cons, List.sum_cons, Nat.pow_succ]
    omega
theorem spotsK_sum : ∀ k n, ((spotsK k n).map (2 ^ ·)).sum = n % 2 ^ k
  | 0, n => by
    show 0 = n % 1
    omega
  | k + 1, n => by
    rw [spotsK_succ, List.map_append, List.sum_append, sum_double, spotsK_sum k]
    have e := Nat.mod_mul (x := n) (a := 2) (b := 2 ^ k)
    rw [Nat.pow_succ, Nat.mul_comm (2 ^ k) 2, e]
    by_cases h : n % 2 = 1
    · rw [if_pos h, h]; rfl
    · rw [if_neg h]
      have : n % 2 = 0 := by omega
      rw [this]; rfl
theorem pcK_zero : ∀ k, pcK k 0 = 0
  | 0 => rfl
  | k + 1 => by
    show 0 % 2 + pcK k (0 / 2) = 0
    rw [show (0 : Nat) / 2 = 0 from rfl, pcK_zero k]
theorem and_mod2 (a b : Nat) : (a &&& b) % 2 = (a % 2) * (b % 2) := by
  have h := Nat.testBit_and a b 0
  rw [Nat.testBit_zero, Nat.testBit_zero, Nat.testBit_zero] at h
  rcases Nat.mod_two_eq_zero_or_one (a &&& b) with hc | hc <;> rcases Nat.mod_two_eq_zero_or_one a with ha | ha <;>
    rcases Nat.mod_two_eq_zero_or_one b with hb | hb <;> rw [hc, ha, hb] at h <;> rw [hc, ha, hb] <;> first | rfl | exact absurd h (by decide)
theorem xor_mod2 (a b : Nat) : (a ^^^ b) % 2 = (a + b) % 2 := by
  have h := Nat.testBit_xor a b 0
  rw [Nat.testBit_zero, Nat.testBit_zero, Nat.testBit_zero] at h
  rcases Nat.mod_two_eq_zero_or_one (a ^^^ b) with hc | hc <;> rcases Nat.mod_two_eq_zero_or_one a with ha | ha <;>
    rcases Nat.mod_two_eq_zero_or_one b with hb | hb <;> rw [hc, ha, hb] at h <;> first | omega | exact absurd h (by decide)
theorem and_div2 (a b : Nat) : (a &&& b) / 2 = (a / 2) &&& (b / 2) := by
  apply Nat.eq_of_testBit_eq
  intro i
  rw [← Nat.testBit_succ, Nat.testBit_and, Nat.testBit_and, Nat.testBit_succ, Nat.testBit_succ]
theorem xor_div2 (a b : Nat) : (a ^^^ b) / 2 = (a / 2) ^^^ (b / 2) := by
  apply Nat.eq_of_testBit_eq
  intro i
  rw [← Nat.testBit_succ, Nat.testBit_xor, Nat.testBit_xor, Nat.testBit_succ, Nat.testBit_succ]
theorem pcK_two : ∀ k a b, pcK k a + pcK k b = pcK k (a ^^^ b) + 2 * pcK k (a &&& b)
  | 0, _, _ => rfl
  | k + 1, a, b => by
    have ih := pcK_two k (a / 2) (b / 2)
    show a % 2 + pcK k (a / 2) + (b % 2 + pcK k (b / 2)) = (a ^^^ b) % 2 + pcK k ((a ^^^ b) / 2) + 2 * ((a &&& b) % 2 + pcK k ((a &&& b) / 2))
    rw [and_mod2, xor_mod2, and_div2, xor_div2]
    rcases Nat.mod_two_eq_zero_or_one a with ha | ha <;> rcases Nat.mod_two_eq_zero_or_one b with hb | hb <;> rw [ha, hb] <;> omega
/-! ### words of 24 places -/
def pc (n : Nat) : Nat := pcK 24 n
def spots (n : Nat) : List Nat := spotsK 24 n
theorem spots_len (n : Nat) : (spots n).length = pc n := spotsK_len 24 n
theorem spots_sum {n : Nat} (h : n < 2 ^ 24) : ((spots n).map (2 ^ ·)).sum = n := by
  unfold spots
  rw [spotsK_sum]
  exact Nat.mod_eq_of_lt h
theorem spots_nd (n : Nat) : (spots n).Nodup := List.Nodup.sublist List.filter_sublist List.nodup_range
theorem pc_two (a b : Nat) : pc a + pc b = pc (a ^^^ b) + 2 * pc (a &&& b) := pcK_two 24 a b
theorem pc_zero : pc 0 = 0 := pcK_zero 24
theorem pc_dist (a b c : Nat) : pc ((a ^^^ c) &&& b) % 2 = (pc (a &&& b) + pc (c &&& b)) % 2 := by
  have e : (a ^^^ c) &&& b = (a &&& b) ^^^ (c &&& b) := by
    apply Nat.eq_of_testBit_eq
    intro i
    simp only [Nat.testBit_and, Nat.testBit_xor]
    cases a.testBit i <;> cases b.testBit i <;> cases c.testBit i <;> rfl
  have := pc_two (a &&& b) (c &&& b)
  rw [e]
  omega
end Vf
namespace Vf
/-! ### rooms: words under ^^^ -/
def Lin (S : Nat → Prop) : Prop := S 0 ∧ ∀ a b, S a → S b → S (a ^^^ b)
/-- the room that the words make -/
def span (ws : List Nat) (v : Nat) : Prop := ∀ S : Nat → Prop, Lin S → (∀ w ∈ ws, S w) → S v
theorem span_zero (ws : List Nat) : span ws 0 := fun _ h _ => h.1
theorem span_xor {ws : List Nat} {a b : Nat} (ha : span ws a) (hb : span ws b) : span ws (a ^^^ b) := fun S h k => h.2 _ _ (ha S h k) (hb S h k)
theorem span_mem {ws : List Nat} {a : Nat} (h : a ∈ ws) : span ws a := fun _ _ k => k a h
theorem span_lin (ws : List Nat) : Lin (span ws) := ⟨span_zero ws, fun _ _ => span_xor⟩
theorem span_sub {ws vs : List Nat} (h : ∀ w ∈ ws, span vs w) {a : Nat} (ha : span ws a) : span vs a := ha _ (span_lin vs) h
theorem span_iff {ws vs : List Nat} (h : ∀ w ∈ ws, span vs w) (h' : ∀ w ∈ vs, span ws w) (a : Nat) : span ws a ↔ span vs a := ⟨span_sub h, span_sub h'⟩
theorem span_perm {ws vs : List Nat} (h : ws.Perm vs) (a : Nat) : span ws a ↔ span vs a := span_iff (fun _ k => span_mem (h.mem_iff.mp k)) (fun _ k => span_mem (h.mem_iff.mpr k)) a
theorem xor_cancel (a b : Nat) : (a ^^^ b) ^^^ b = a := by rw [Nat.xor_assoc, Nat.xor_self, Nat.xor_zero]
theorem span_nil {a : Nat} (h : span [] a) : a = 0 := h (fun v => v = 0) ⟨rfl, fun a b h1 h2 => by rw [h1, h2]; rfl⟩ (fun _ k => (List.not_mem_nil k).elim)
theorem span_cons {w : Nat} {ws : List Nat} {a : Nat} : span (w :: ws) a ↔ span ws a ∨ span ws (a ^^^ w) := by
  constructor
  · intro h
    refine h (fun v => span ws v ∨ span ws (v ^^^ w)) ⟨.inl (span_zero ws), fun a b ha hb => ?_⟩ fun v hv => ?_
    · rcases ha with ha | ha <;> rcases hb with hb | hb
      · exact .inl (span_xor ha hb)
      · refine .inr ?_
        rw [Nat.xor_assoc]
        exact span_xor ha hb
      · refine .inr ?_
        rw [Nat.xor_assoc, Nat.xor_comm b w, ← Nat.xor_assoc]
        exact span_xor ha hb
      · refine .inl ?_
        have := span_xor ha hb
        rw [Nat.xor_assoc, Nat.xor_comm b w, ← Nat.xor_assoc w, Nat.xor_self, Nat.zero_xor] at this
        exact this
    · rcases List.mem_cons.mp hv with rfl | hv
      · refine .inr ?_
        rw [Nat.xor_self]
        exact span_zero ws
      · exact .inl (span_mem hv)
  · have up : ∀ {v}, span ws v → span (w :: ws) v := fun h => span_sub (fun v k => span_mem (List.mem_cons_of_mem _ k)) h
    rintro (h | h)
    · exact up h
    · have := span_xor (up h) (span_mem (ws := w :: ws) List.mem_cons_self)
      rwa [xor_cancel] at this
theorem span_lt {ws : List Nat} {n a : Nat} (h : ∀ w ∈ ws, w < 2 ^ n) (ha : span ws a) : a < 2 ^ n :=
  ha (fun v => v < 2 ^ n) ⟨Nat.two_pow_pos n, fun _ _ => Nat.xor_lt_two_pow⟩ h
/-! ### tops -/
theorem top_bit {b : Nat} (h : b ≠ 0) : b.testBit b.log2 = true := by
  have h1 := Nat.log2_self_le h
  have h2 : b < 2 ^ (b.log2 + 1) := (Nat.log2_lt h).mp (Nat.lt_succ_self _)
  rw [Nat.testBit_eq_decide_div_mod_eq]
  have h3 : b / 2 ^ b.log2 = 1 := by
    rw [Nat.pow_succ] at h2
    apply Nat.div_eq_of_lt_le
    · omega
    · omega
  rw [h3]
  rfl
theorem bit_above {b i : Nat} (h : b.log2 < i) : b.testBit i = false := by
  by_cases h0 : b = 0
  · subst h0
    exact Nat.zero_testBit i
  · apply Nat.testBit_lt_two_pow
    exact (Nat.log2_lt h0).mp h
theorem log_of {b i : Nat} (h1 : b.testBit i = true) (h2 : ∀ j, i < j → b.testBit j = false) : b ≠ 0 ∧ b.log2 = i := by
  have h0 : b ≠ 0 := by
    rintro rfl
    rw [Nat.zero_testBit] at h1
    cases h1
  refine ⟨h0, ?_⟩
  have a := top_bit h0
  rcases Nat.lt_trichotomy b.log2 i with h | h | h
  · rw [bit_above h] at h1
    cases h1
  · exact h
  · rw [h2 _ h] at a
    cases a
theorem lt_xor {b u : Nat} (hu : u ≠ 0) (h : b.testBit u.log2 = false) : b < b ^^^ u := by
  have e1 : (b ^^^ u) >>> u.log2 = (b >>> u.log2) ^^^ (u >>> u.log2) := Nat.shiftRight_xor_distrib ..
  have e2 : u >>> u.log2 = 1 := by
    rw [Nat.shiftRight_eq_div_pow]
    have h1 := Nat.log2_self_le hu
    have h2 : u < 2 ^ (u.log2 + 1) := (Nat.log2_lt hu).mp (Nat.lt_succ_self _)
    rw [Nat.pow_succ] at h2
    apply Nat.div_eq_of_lt_le <;> omega
  have e3 : (b >>> u.log2) % 2 = 0 := by
    rw [Nat.testBit_eq_decide_div_mod_eq] at h
    have := of_decide_eq_false h
    rw [Nat.shiftRight_eq_div_pow]
    omega
  rw [e2] at e1
  have m1 := xor_mod2 (b >>> u.log2) 1
  have m2 := xor_div2 (b >>> u.log2) 1
  rw [show 1 / 2 = 0 from rfl, Nat.xor_zero] at m2
  rw [← e1] at m1 m2
  have lt : b >>> u.log2 < (b ^^^ u) >>> u.log2 := by omega
  rw [Nat.shiftRight_eq_div_pow, Nat.shiftRight_eq_div_pow] at lt
  refine Nat.lt_of_not_le fun k => ?_
  have := Nat.div_le_div_right (c := 2 ^ u.log2) k
  omega
theorem lt_pow_log {b n : Nat} (h : b ≠ 0) : b < 2 ^ n ↔ b.log2 < n := (Nat.log2_lt h).symm
/-! ### plain bases -/
def Off (b c : Nat) : Prop := c.testBit b.log2 = false ∧ b.testBit c.log2 = false
/-- each top is off in all others -/
def Piv (B : List Nat) : Prop := B.Pairwise Off ∧ ∀ b ∈ B, b ≠ 0
def Plain (B : List Nat) : Prop := Piv B ∧ B.Pairwise (· > ·)
theorem Off.symm {b c : Nat} (h : Off b c) : Off c b := ⟨h.2, h.1⟩
theorem piv_nodup {B : List Nat} (h : Piv B) : B.Nodup := by
  refine h.1.imp_of_mem fun {a b} ha hb o e => ?_
  subst e
  have := top_bit (h.2 a ha)
  rw [o.1] at this
  cases this
theorem piv_perm {B C : List Nat} (p : B.Perm C) (h : Piv B) : Piv C :=
  ⟨p.pairwise h.1 fun h => h.symm, fun b k => h.2 b (p.mem_iff.mpr k)⟩
theorem piv_off {B : List Nat} (h : Piv B) {b c : Nat} (hb : b ∈ B) (hc : c ∈ B) (n : b ≠ c) : c.testBit b.log2 = false := by
  obtain ⟨i, hi, rfl⟩ := List.getElem_of_mem hb
  obtain ⟨j, hj, rfl⟩ := List.getElem_of_mem hc
  rcases Nat.lt_trichotomy i j with k | k | k
  · exact (List.pairwise_iff_getElem.mp h.1 i j hi hj k).1
  · subst k
    exact absurd rfl n
  · exact (List.pairwise_iff_getElem.mp h.1 j i hj hi k).2
def rest1 (r b : Nat) : Nat := if r.testBit b.log2 = true then r ^^^ b else r
def restOf (w : Nat) (B : List Nat) : Nat := B.foldl rest1 w
/-- the sum of the basis words whose tops are on -/
def comb (v : Nat) : List Nat → Nat
  | [] => 0
  | b :: B => (if v.testBit b.log2 = true then b else 0) ^^^ comb v B
theorem comb_nil (v : Nat) : comb v [] = 0 := rfl
theorem comb_cons (v b : Nat) (B : List Nat) : comb v (b :: B) = (if v.testBit b.log2 = true then b else 0) ^^^ comb v B := rfl
theorem comb_same {v u : Nat} : ∀ {B : List Nat}, (∀ b ∈ B, v.testBit b.log2 = u.testBit b.log2) → comb v B = comb u B
  | [], _ => rfl
  | b :: B, h => by
    rw [comb_cons, comb_cons, h b List.mem_cons_self, comb_same fun c k => h c (List.mem_cons_of_mem _ k)]
theorem rest_eq : ∀ {B : List Nat} (w : Nat), Piv B → restOf w B = w ^^^ comb w B
  | [], w, _ => (Nat.xor_zero w).symm
  | b :: B, w, h => by
    have hB : Piv B := ⟨(List.pairwise_cons.mp h.1).2, fun c k => h.2 c (List.mem_cons_of_mem _ k)⟩
    have ho := (List.pairwise_cons.mp h.1).1
    show restOf (rest1 w b) B = _
    rw [rest_eq _ hB]
    have e : comb (rest1 w b) B = comb w B := comb_same fun c k => by
      unfold rest1
      split
      · rw [Nat.testBit_xor, (ho c k).2, Bool.xor_false]
      · rfl
    rw [e]
    rw [comb_cons]
    unfold rest1
    split
    · rw [Nat.xor_assoc]
    · rw [Nat.zero_xor]
theorem comb_xor (a b : Nat) : ∀ B : List Nat, comb (a ^^^ b) B = comb a B ^^^ comb b B
  | [] => by rw [comb_nil, comb_nil, comb_nil]; rfl
  | c :: B => by
    rw [comb_cons, comb_cons, comb_cons, comb_xor a b B, Nat.testBit_xor]
    apply Nat.eq_of_testBit_eq
    intro i
    cases a.testBit c.log2 <;> cases b.testBit c.log2 <;> simp [Nat.testBit_xor] <;> cases c.testBit i <;> cases (comb a B).testBit i <;> cases (comb b B).testBit i <;> rfl
theorem comb_off {v : Nat} : ∀ {B : List Nat}, (∀ b ∈ B, v.testBit b.log2 = false) → comb v B = 0
  | [], _ => rfl
  | b :: B, h => by
    rw [comb_cons]
    rw [h b List.mem_cons_self, comb_off fun c k => h c (List.mem_cons_of_mem _ k), if_neg (by simp)]
    rfl
theorem comb_self : ∀ {B : List Nat} {b : Nat}, Piv B → b ∈ B → comb b B = b
  | c :: B, b, h, k => by
    have hB : Piv B := ⟨(List.pairwise_cons.mp h.1).2, fun c k => h.2 c (List.mem_cons_of_mem _ k)⟩
    have ho := (List.pairwise_cons.mp h.1).1
    rw [comb_cons]
    rcases List.mem_cons.mp k with rfl | k
    · rw [top_bit (h.2 b List.mem_cons_self), if_pos rfl, comb_off fun d kd => (ho d kd).2, Nat.xor_zero]
    · rw [(ho b k).1, comb_self hB k, if_neg (by simp)]
      exact Nat.zero_xor b
theorem comb_zero (B : List Nat) : comb 0 B = 0 := comb_off fun _ _ => Nat.zero_testBit _
theorem comb_span : ∀ (v : Nat) (B : List Nat), span B (comb v B)
  | _, [] => span_zero []
  | v, b :: B => by
    have up := span_sub (ws := B) (vs := b :: B) (fun w k => span_mem (List.mem_cons_of_mem _ k)) (comb_span v B)
    rw [comb_cons]
    split
    · exact span_xor (span_mem List.mem_cons_self) up
    · rw [Nat.zero_xor]
      exact up
theorem span_comb {B : List Nat} (h : Piv B) {v : Nat} (hv : span B v) : comb v B = v :=
  hv (fun v => comb v B = v) ⟨comb_zero B, fun a b (ha : comb a B = a) (hb : comb b B = b) => by show comb (a ^^^ b) B = a ^^^ b; rw [comb_xor, ha, hb]⟩ fun b k => comb_self h k
theorem rest_zero {B : List Nat} (h : Piv B) (w : Nat) : restOf w B = 0 ↔ span B w := by
  rw [rest_eq w h]
  constructor
  · intro e
    have e2 : w = comb w B := by
      have := congrArg (· ^^^ comb w B) e
      simpa [xor_cancel] using this
    rw [e2]
    exact comb_span w B
  · intro hw
    rw [span_comb h hw, Nat.xor_self]
theorem comb_bit {B : List Nat} (h : Piv B) (w : Nat) {b : Nat} (hb : b ∈ B) : (comb w B).testBit b.log2 = w.testBit b.log2 := by
  induction B with
  | nil => cases hb
  | cons c B ih =>
    have hB : Piv B := ⟨(List.pairwise_cons.mp h.1).2, fun c k => h.2 c (List.mem_cons_of_mem _ k)⟩
    have ho := (List.pairwise_cons.mp h.1).1
    rw [comb_cons]
    rcases List.mem_cons.mp hb with rfl | hb
    · have e : (comb w B).testBit b.log2 = false := by
        have : ∀ C : List Nat, (∀ c ∈ C, c.testBit b.log2 = false) → (comb w C).testBit b.log2 = false := by
          intro C
          induction C with
          | nil => intro _; exact Nat.zero_testBit _
          | cons d C ih2 =>
            intro hC
            rw [comb_cons]
            rw [Nat.testBit_xor, ih2 fun c k => hC c (List.mem_cons_of_mem _ k), Bool.xor_false]
            split
            · exact hC d List.mem_cons_self
            · exact Nat.zero_testBit _
        exact this B fun c k => (ho c k).1
      rw [Nat.testBit_xor, e, Bool.xor_false]
      cases hw : w.testBit b.log2
      · rw [if_neg (by simp)]
        exact Nat.zero_testBit _
      · rw [if_pos rfl]
        exact top_bit (h.2 b List.mem_cons_self)
    · rw [Nat.testBit_xor, ih hB hb]
      split
      · rw [(ho b hb).2, Bool.false_xor]
      · rw [Nat.zero_testBit, Bool.false_xor]
theorem rest_off {B : List Nat} (h : Piv B) (w : Nat) {b : Nat} (hb : b ∈ B) : (restOf w B).testBit b.log2 = false := by
  rw [rest_eq w h, Nat.testBit_xor, comb_bit h w hb, Bool.xor_self]
theorem rest_span {B : List Nat} (h : Piv B) (w : Nat) : span B (w ^^^ restOf w B) := by
  rw [rest_eq w h, ← Nat.xor_assoc, Nat.xor_self, Nat.zero_xor]
  exact comb_span w B
/-! ### a word more -/
def clear1 (r b : Nat) : Nat := if b.testBit r.log2 = true then b ^^^ r else b
theorem clear_log {r b : Nat} (hb : b ≠ 0) (hr : r ≠ 0) (h : r.testBit b.log2 = false) : clear1 r b ≠ 0 ∧ (clear1 r b).log2 = b.log2 := by
  unfold clear1
  split
  · rename_i k
    have l : r.log2 < b.log2 := by
      rcases Nat.lt_trichotomy r.log2 b.log2 with l | l | l
      · exact l
      · have := top_bit hr
        rw [l, h] at this
        cases this
      · rw [bit_above l] at k
        cases k
    refine log_of ?_ fun j hj => ?_
    · rw [Nat.testBit_xor, top_bit hb, h]
      rfl
    · rw [Nat.testBit_xor, bit_above hj, bit_above (Nat.lt_trans l hj)]
      rfl
  · exact ⟨hb, rfl⟩
theorem clear_bit {r b i : Nat} (h : r.testBit i = false) : (clear1 r b).testBit i = b.testBit i := by
  unfold clear1
  split
  · rw [Nat.testBit_xor, h, Bool.xor_false]
  · rfl
theorem clear_off {r b : Nat} (hr : r ≠ 0) : (clear1 r b).testBit r.log2 = false := by
  unfold clear1
  split
  · rename_i k
    rw [Nat.testBit_xor, k, top_bit hr]
    rfl
  · rename_i k
    simpa using k
/-- the basis with the rest put in, in any sequence -/
theorem put_piv {B : List Nat} {r : Nat} (h : Piv B) (hr : r ≠ 0) (ho : ∀ b ∈ B, r.testBit b.log2 = false) : Piv (B.map (clear1 r) ++ [r]) := by
  constructor
  · rw [List.pairwise_append]
    refine ⟨?_, List.pairwise_singleton _ _, fun a ha b hb => ?_⟩
    · rw [List.pairwise_map]
      refine h.1.imp_of_mem fun {a b} ha hb o => ?_
      have la := (clear_log (h.2 a ha) hr (ho a ha)).2
      have lb := (clear_log (h.2 b hb) hr (ho b hb)).2
      exact ⟨by rw [la, clear_bit (ho a ha)]; exact o.1, by rw [lb, clear_bit (ho b hb)]; exact o.2⟩
    · rw [List.mem_singleton.mp hb]
      obtain ⟨c, hc, rfl⟩ := List.mem_map.mp ha
      have lc := (clear_log (h.2 c hc) hr (ho c hc)).2
      exact ⟨by rw [lc]; exact ho c hc, clear_off hr⟩
  · intro b hb
    rcases List.mem_append.mp hb with hb | hb
    · obtain ⟨c, hc, rfl⟩ := List.mem_map.mp hb
      exact (clear_log (h.2 c hc) hr (ho c hc)).1
    · rw [List.mem_singleton.mp hb]
      exact hr
theorem clear_span {C : List Nat} {r b : Nat} (hr : span C r) : span C (clear1 r b) ↔ span C b := by
  unfold clear1
  split
  · constructor
    · intro k
      have := span_xor k hr
      rwa [xor_cancel] at this
    · exact fun k => span_xor k hr
  · exact Iff.rfl
theorem put_span (B : List Nat) (r a : Nat) : span (B.map (clear1 r) ++ [r]) a ↔ span (r :: B) a := by
  refine span_iff (fun w hw => ?_) (fun w hw => ?_) a
  · rcases List.mem_append.mp hw with hw | hw
    · obtain ⟨c, hc, rfl⟩ := List.mem_map.mp hw
      exact (clear_span (span_mem List.mem_cons_self)).mpr (span_mem (List.mem_cons_of_mem _ hc))
    · rw [List.mem_singleton.mp hw]
      exact span_mem List.mem_cons_self
  · have hr : span (B.map (clear1 r) ++ [r]) r := span_mem (List.mem_append_right _ List.mem_cons_self)
    rcases List.mem_cons.mp hw with rfl | hw
    · exact hr
    · exact (clear_span hr).mp (span_mem (List.mem_append_left _ (List.mem_map_of_mem hw)))
/-- the room of the basis with the rest is that with the word -/
theorem rest_room {B : List Nat} (h : Piv B) (w a : Nat) : span (restOf w B :: B) a ↔ span (w :: B) a := by
  have up : ∀ {u v}, span B v → span (u :: B) v := fun k => span_sub (fun v k => span_mem (List.mem_cons_of_mem _ k)) k
  refine span_iff (fun v hv => ?_) (fun v hv => ?_) a
  · rcases List.mem_cons.mp hv with rfl | hv
    · have := span_xor (up (u := w) (rest_span h w)) (span_mem (ws := w :: B) List.mem_cons_self)
      rwa [Nat.xor_comm w, xor_cancel] at this
    · exact up (span_mem hv)
  · rcases List.mem_cons.mp hv with rfl | hv
    · have := span_xor (up (u := restOf v B) (rest_span h v)) (span_mem (ws := restOf v B :: B) List.mem_cons_self)
      rwa [xor_cancel] at this
    · exact up (span_mem hv)
/-! ### a plain basis is told by its room -/
theorem plain_logs {B : List Nat} (h : Plain B) : B.Pairwise fun b c => c.log2 < b.log2 := by
  refine (List.Pairwise.and h.1.1 h.2).imp_of_mem fun {b c} hb hc k => ?_
  obtain ⟨o, gt⟩ := k
  rcases Nat.lt_trichotomy c.log2 b.log2 with l | l | l
  · exact l
  · have := top_bit (h.1.2 c hc)
    rw [l, o.1] at this
    cases this
  · exfalso
    have h1 : b < 2 ^ c.log2 := (lt_pow_log (h.1.2 b hb)).mpr l
    have h2 := Nat.log2_self_le (h.1.2 c hc)
    have h3 : b > c := gt
    omega
theorem comb_log : ∀ {B : List Nat} {u : Nat}, (∀ b ∈ B, b ≠ 0) → B.Pairwise (fun b c => c.log2 < b.log2) → comb u B ≠ 0 → ∃ c ∈ B, u.testBit c.log2 = true ∧ (comb u B).log2 = c.log2
  | [], u, _, _, h => absurd (comb_nil u) h
  | b :: B, u, h0, hp, h => by
    have hp2 := List.pairwise_cons.mp hp
    cases k : u.testBit b.log2 with
    | true =>
      refine ⟨b, List.mem_cons_self, k, ?_⟩
      have small : comb u B < 2 ^ b.log2 := by
        refine span_lt (ws := B) (fun c hc => (lt_pow_log (h0 c (List.mem_cons_of_mem _ hc))).mpr (hp2.1 c hc)) (comb_span u B)
      rw [comb_cons, if_pos k]
      refine (log_of ?_ fun j hj => ?_).2
      · rw [Nat.testBit_xor, top_bit (h0 b List.mem_cons_self), Nat.testBit_lt_two_pow small]
        rfl
      · rw [Nat.testBit_xor, bit_above hj, Nat.testBit_lt_two_pow (Nat.lt_trans small (Nat.pow_lt_pow_right (by decide) hj))]
        rfl
    | false =>
      have e : comb u (b :: B) = comb u B := by
        rw [comb_cons, k, if_neg (by simp), Nat.zero_xor]
      rw [e] at h ⊢
      obtain ⟨c, hc, r⟩ := comb_log (fun c hc => h0 c (List.mem_cons_of_mem _ hc)) hp2.2 h
      exact ⟨c, List.mem_cons_of_mem _ hc, r⟩
theorem span_log {B : List Nat} (h : Plain B) {u : Nat} (hu : span B u) (h0 : u ≠ 0) : ∃ c ∈ B, u.log2 = c.log2 := by
  have e := span_comb h.1 hu
  obtain ⟨c, hc, _, l⟩ := comb_log (u := u) h.1.2 (plain_logs h) (by rw [e]; exact h0)
  rw [e] at l
  exact ⟨c, hc, l⟩
theorem basis_least {B : List Nat} (h : Plain B) {b v : Nat} (hb : b ∈ B) (hv : span B v) (h0 : v ≠ 0) (l : v.log2 = b.log2) : b ≤ v := by
  by_cases e : v = b
  · omega
  · have hu : span B (v ^^^ b) := span_xor hv (span_mem hb)
    have u0 : v ^^^ b ≠ 0 := fun z => e (by
      have := congrArg (· ^^^ b) z
      simpa [xor_cancel] using this)
    obtain ⟨c, hc, lc⟩ := span_log h hu u0
    have n : c ≠ b := by
      rintro rfl
      have t := top_bit u0
      rw [lc, Nat.testBit_xor, top_bit (h.1.2 c hb), ← l, top_bit h0] at t
      cases t
    have off : b.testBit (v ^^^ b).log2 = false := by
      rw [lc]
      exact piv_off h.1 hc hb n
    have := lt_xor u0 off
    rw [Nat.xor_comm v b, ← Nat.xor_assoc, Nat.xor_self, Nat.zero_xor] at this
    omega
/-- the words of a plain basis: of each top the least word of the room -/
theorem basis_iff {B : List Nat} (h : Plain B) (v : Nat) : v ∈ B ↔ span B v ∧ v ≠ 0 ∧ ∀ u, span B u → u < v → u < 2 ^ v.log2 := by
  constructor
  · intro hv
    refine ⟨span_mem hv, h.1.2 v hv, fun u hu lt => ?_⟩
    by_cases u0 : u = 0
    · rw [u0]
      exact Nat.two_pow_pos _
    · refine (lt_pow_log u0).mpr ?_
      rcases Nat.lt_trichotomy u.log2 v.log2 with l | l | l
      · exact l
      · have := basis_least h hv hu u0 l
        omega
      · have h1 : v < 2 ^ u.log2 := (lt_pow_log (h.1.2 v hv)).mpr l
        have h2 := Nat.log2_self_le u0
        omega
  · rintro ⟨hv, h0, least⟩
    obtain ⟨c, hc, l⟩ := span_log h hv h0
    have le := basis_least h hc hv h0 l
    rcases Nat.lt_or_ge c v with lt | ge
    · have := least c (span_mem hc) lt
      have h2 := Nat.log2_self_le (h.1.2 c hc)
      rw [l] at this
      omega
    · have : v = c := by omega
      rw [this]
      exact hc
theorem asc_eq : ∀ {l m : List Nat}, l.Pairwise (· > ·) → m.Pairwise (· > ·) → (∀ x, x ∈ l ↔ x ∈ m) → l = m
  | [], [], _, _, _ => rfl
  | [], x :: m, _, _, h => ((List.not_mem_nil ((h x).mpr List.mem_cons_self))).elim
  | x :: l, [], _, _, h => ((List.not_mem_nil ((h x).mp List.mem_cons_self))).elim
  | x :: l, y :: m, hl, hm, h => by
    have h1 := List.pairwise_cons.mp hl
    have h2 := List.pairwise_cons.mp hm
    have e : x = y := by
      rcases List.mem_cons.mp ((h x).mp List.mem_cons_self) with k | k
      · exact k
      · rcases List.mem_cons.mp ((h y).mpr List.mem_cons_self) with k2 | k2
        · exact k2.symm
        · have := h2.1 x k
          have := h1.1 y k2
          omega
    subst e
    congr 1
    refine asc_eq h1.2 h2.2 fun z => ⟨fun hz => ?_, fun hz => ?_⟩
    · rcases List.mem_cons.mp ((h z).mp (List.mem_cons_of_mem _ hz)) with k | k
      · have := h1.1 z hz
        omega
      · exact k
    · rcases List.mem_cons.mp ((h z).mpr (List.mem_cons_of_mem _ hz)) with k | k
      · have := h2.1 z hz
        omega
      · exact k
theorem plain_unique {B C : List Nat} (hB : Plain B) (hC : Plain C) (h : ∀ v, span B v ↔ span C v) : B = C :=
  asc_eq hB.2 hC.2 fun v => by
    rw [basis_iff hB, basis_iff hC, h v]
    constructor
    · rintro ⟨a, b, c⟩
      exact ⟨a, b, fun u hu => c u ((h u).mpr hu)⟩
    · rintro ⟨a, b, c⟩
      exact ⟨a, b, fun u hu => c u ((h u).mp hu)⟩
/-! ### all sums -/
def sumsOf (B : List Nat) : List Nat := B.foldl (fun s b => s ++ s.map (· ^^^ b)) [0]
theorem sums_gen : ∀ (B C s : List Nat), (∀ v, v ∈ s ↔ span C v) → s.Nodup → Piv (C ++ B) →
    (∀ v, v ∈ B.foldl (fun s b => s ++ s.map (· ^^^ b)) s ↔ span (C ++ B) v) ∧ (B.foldl (fun s b => s ++ s.map (· ^^^ b)) s).Nodup ∧ (B.foldl (fun s b => s ++ s.map (· ^^^ b)) s).length = s.length * 2 ^ B.length
  | [], C, s, h, nd, _ => ⟨by rw [List.append_nil]; exact h, nd, by simp⟩
  | b :: B, C, s, h, nd, hp => by
    have hCB : C ++ b :: B = (C ++ [b]) ++ B := by rw [List.append_assoc]; rfl
    have hC : Piv (C ++ [b]) := by
      rw [hCB] at hp
      exact ⟨(List.pairwise_append.mp hp.1).1, fun c hc => hp.2 c (List.mem_append_left _ hc)⟩
    have pv : Piv C := ⟨(List.pairwise_append.mp hC.1).1, fun c hc => hC.2 c (List.mem_append_left _ hc)⟩
    have nb : ¬ span C b := fun k => by
      have := (rest_zero pv b).mpr k
      rw [rest_eq b pv, comb_off fun c hc => ((List.pairwise_append.mp hC.1).2.2 c hc b List.mem_cons_self).1, Nat.xor_zero] at this
      exact hC.2 b (List.mem_append_right _ List.mem_cons_self) this
    have key : ∀ v, v ∈ s ++ s.map (· ^^^ b) ↔ span (C ++ [b]) v := fun v => by
      rw [List.mem_append, h, List.mem_map, (span_perm (List.perm_append_comm (l₁ := C) (l₂ := [b])) v)]
      show _ ↔ span (b :: C) v
      rw [span_cons]
      refine or_congr Iff.rfl ⟨?_, fun k => ⟨v ^^^ b, (h _).mpr k, xor_cancel v b⟩⟩
      rintro ⟨u, hu, rfl⟩
      rw [xor_cancel]
      exact (h u).mp hu
    have nd2 : (s ++ s.map (· ^^^ b)).Nodup := by
      rw [List.nodup_append]
      refine ⟨nd, ?_, fun x hx y hy e => ?_⟩
      · unfold List.Nodup
        rw [List.pairwise_map]
        exact nd.imp fun n e => n (by
          have := congrArg (· ^^^ b) e
          simpa [xor_cancel] using this)
      · subst e
        obtain ⟨u, hu, e⟩ := List.mem_map.mp hy
        apply nb
        have := span_xor ((h u).mp hu) ((h x).mp hx)
        rw [← e, ← Nat.xor_assoc, Nat.xor_self, Nat.zero_xor] at this
        exact this
    have r := sums_gen B (C ++ [b]) _ key nd2 (by rw [← hCB]; exact hp)
    rw [← hCB] at r
    refine ⟨r.1, r.2.1, ?_⟩
    show (List.foldl _ (s ++ s.map (· ^^^ b)) B).length = _
    rw [r.2.2, List.length_append, List.length_map, List.length_cons, Nat.pow_succ]
    rw [← Nat.mul_two, Nat.mul_assoc, Nat.mul_comm 2]
theorem sums_ok {B : List Nat} (h : Piv B) : (∀ v, v ∈ sumsOf B ↔ span B v) ∧ (sumsOf B).Nodup ∧ (sumsOf B).length = 2 ^ B.length := by
  have r := sums_gen B [] [0] (fun v => ⟨fun k => by rw [List.mem_singleton.mp k]; exact span_zero _, fun k => List.mem_singleton.mpr (span_nil k)⟩) (by simp) h
  refine ⟨r.1, r.2.1, ?_⟩
  rw [show (sumsOf B).length = _ from r.2.2]
  simp
end Vf
namespace Vf
open PySem PySem.Spec PyProof.Rows L2
/-! ### a def that is called: what a caller needs of it -/
def Cal (P : Program) (w : World) (K : PySem.W.Frag) (mg : Str → Option Value) (base : Heap) (x : Str) (k : Nat) (ps : List Str) (dvs : List V) (sp : Sp) : Prop :=
  ∃ (f : Addr) (fd : FuncData) (ds : List Value), FnOk P w K mg base CX0 k f fd ps sp ∧ mg x = some (.ref f) ∧ PySem.W.keepIn K (.ref f) = true ∧ Binds K fd ps ds ∧ Vals dvs ds
def CalK (P : Program) (w : World) (K : PySem.W.Frag) (mg : Str → Option Value) (base : Heap) (x : Str) (k : Nat) (ps ks : List Str) (gV : List V → List V → List V) (sp : Sp) : Prop :=
  ∃ (f : Addr) (fd : FuncData) (g : List Value → List Value → List Value), FnOk P w K mg base CX0 k f fd ps sp ∧ mg x = some (.ref f) ∧ PySem.W.keepIn K (.ref f) = true ∧ KBn K fd ps 0 ks g gV
section
variable {X : Cx} {k : Nat} {ps ks : List Str} {dvs : List V} {sp : Sp} {x : Str} {p pos : Pos}
  {e : Expr} {es : List Expr} {kws : List Keyword} {t tk : TA} {gV : List V → List V → List V}
theorem pe_cal (C : Cal X.prog X.w X.K X.mg X.base x k ps dvs sp) (hr : Room k X.A) (hg : Gl X x) (ha : PA X (e :: es) t)
    (hdb : (x == ("__debug__" : Str)) = false := by decide) (he : starEach (e :: es) X.env = (false, eval e X.env) :: starEach es X.env := by rfl)
    (hpl : (backTo pos (starEach es X.env)).any (·.1) = false := by rfl) : PE X (.Call (.Name x p) (e :: es) [] pos) (tCall sp dvs E0 t) := by
  obtain ⟨f, fd, ds, F, gm, kp, b, hv⟩ := C
  exact pe_call F hr hg gm kp b hv pass0 ha hdb he hpl
theorem pe_calKw (C : CalK X.prog X.w X.K X.mg X.base x k ps ks gV sp) (hr : Room k X.A) (hg : Gl X x) (hkw : PK X kws tk)
    (hall : (backToKw pos (keywordEach kws X.env)).all (·.1.isSome) = true := by rfl)
    (hks : (backToKw pos (keywordEach kws X.env)).filterMap (·.1) = ks := by rfl)
    (hdb : (x == ("__debug__" : Str)) = false := by decide)
    (hpl : ((backTo pos (starEach [] X.env)).any (·.1) || (backToKw pos (keywordEach kws X.env)).any (·.1.isNone)) = false := by rfl) :
    PE X (.Call (.Name x p) [] kws pos) (fun σ H Q => tk σ H fun zs H1 => zs.length = ks.length ∧ sp (gV [] zs) H1 Q E0) := by
  obtain ⟨f, fd, g, F, gm, kp, b⟩ := C
  exact pe_callKw F hr hg gm kp b pass0 hkw hall hks hdb hpl
end
/-! ### heaps -/
theorem same_new {H : Hp} {p : Addr} {o : HO} (h : H p = none) : Same H (upd H p o) := fun b x e => by
  rw [upd_ne (ne_of_none e h)]
  exact e
/-- all that was tracked stands, but what is at p -/
def But (p : Addr) (H H' : Hp) : Prop := ∀ b o, b ≠ p → H b = some o → H' b = some o
theorem But.refl (p : Addr) (H : Hp) : But p H H := fun _ _ _ h => h
theorem But.trans {p : Addr} {H H1 H2 : Hp} (a : But p H H1) (b : But p H1 H2) : But p H H2 := fun c o n h => b c o n (a c o n h)
theorem But.of {p : Addr} {H H' : Hp} (s : Same H H') : But p H H' := fun b o _ h => s b o h
theorem But.upd {p : Addr} {H H' : Hp} {o : HO} (s : But p H H') : But p H (upd H' p o) := fun b x n h => by
  rw [upd_ne n]
  exact s b x n h
theorem But.seq {K : PySem.W.Frag} {p a : Addr} {H H' : Hp} {xs : List V} (s : But p H H') (h : SqL K H a xs) (hp : ∀ o, H p = some o → a ≠ p) (hx : (∃ o, H p = some o)) : SqL K H' a xs := by
  obtain ⟨o, ho⟩ := hx
  have n := hp o ho
  rcases h with (h | ⟨u, h⟩) | h
  · exact .inl (.inl (s _ _ n h))
  · exact .inl (.inr ⟨u, s _ _ n h⟩)
  · exact .inr h
/-- naturals as a list of values -/
def vs (l : List Nat) : List V := l.map fun i => V.int (i : Nat)
theorem vs_int (l : List Nat) : vs l = (l.map fun i : Nat => (i : Int)).map V.int := by
  unfold vs
  rw [List.map_map]
  rfl
theorem bl_t {p : Prop} [Decidable p] (h : p) : V.bl (decide p) = V.bl true := by rw [decide_eq_true h]
theorem bl_f {p : Prop} [Decidable p] (h : ¬ p) : V.bl (decide p) = V.bl false := by rw [decide_eq_false h]
theorem sl_lt {n : Nat} (h : n ≤ 100000) : n < sizeLine := Nat.lt_of_le_of_lt h (by decide)
end Vf
namespace Vf
open PySem PySem.Spec PyProof.Rows L2
/-! ### len(set(t)), t a tuple of unlike ints -/
def tLenSetT (K : PySem.W.Frag) (ta : TE) : TE := fun σ H Q => ta σ H fun x H1 => ∃ (l : Addr) (ns : List Int),
  x = .ref l ∧ SqT K H1 l (ns.map V.int) ∧ ns.Nodup ∧ ns.length ≤ 1000 ∧ Q (.int (ns.length : Nat)) H1
theorem pe_lenSetT {X : Cx} {a : Expr} {ta : TE} {p p2 q pos : Pos} (hg : Gl X "len") (hm : X.mg "len" = none)
    (hg2 : Gl X "set") (hm2 : X.mg "set" = none) (ha : PE X a ta) (hc : X.calm = true := by rfl)
    (na : starEach [a] X.env = (false, eval a X.env) :: starEach [] X.env := by rfl) :
    PE X (.Call (.Name "len" p) [.Call (.Name "set" p2) [a] [] q] [] pos) (tLenSetT X.K ta) := by
  refine ⟨fun pins s σ H Q I h => Call_ (ld_blt I hg hm PySem.boot_len ?_)⟩
  refine callWith_builtin1 (args_cons (Call_ (ld_blt I hg2 hm2 PyProof.Rows.boot_set ?_)) rfl) rfl rfl
  refine callWith_type1 (args_cons (thn (ha.run pins s σ H _ I h) fun v s1 z => args_nil ?_) na) na rfl
  obtain ⟨x, H1, I1, r1, l, ns, rfl, hq, nd, hl, q1⟩ := z
  cases r1
  obtain ⟨its, rv, pt, hz⟩ := I1.tuple hq
  have hi : IntsAre its.toArray.toList ns := ints_of_vals rv
  refine call_set_tupI ns (I1.ok.hd hc) (show s1.heap.IsTuple l its.toArray from pt) hi (by unfold scanBound; omega) fun h' tk c R1 hcn k => ?_
  obtain ⟨o, es, ep, t, ho, hex, hdt, g, nd2, hm3, hb, hf, hn, hr, hl2⟩ := R1
  have e1 : es.size = ns.length := by
    have pm : (es.toList.map keyOf).Perm ns := (List.perm_ext_iff_of_nodup nd2 nd).mpr fun z => by
      rw [← hm3 z]
      exact decide_eq_true_iff
    have := pm.length_eq
    rw [List.length_map, Array.length_toList] at this
    exact this
  have I2 : Inv X pins σ H1 { s1 with heap := h', toks := tk } := I1.kept fun b o e => k b o e
  refine args_nil (call_len_set ho hex hdt hf (by rw [e1]; omega) ⟨.int ns.length, H1, I2.tok _, ⟨_, by rw [e1]⟩, q1⟩)
/-! ### operators on numbers that are not negative -/
section
variable {X : Cx}
theorem op_andN : OpR X (binaryOp .BitAnd) (fun x y H Q => ∃ a b : Nat, x = .int a ∧ y = .int b ∧ Q (.int ((a &&& b : Nat) : Int)) H) := by
  rintro pins s σ H x y v u Q I rx ry ⟨a, b, rfl, rfl, q⟩
  refine op_and pins s σ H _ _ v u Q I rx ry ⟨a, b, rfl, rfl, ?_⟩
  show Q (.int (Builtin.bitAnd a b)) H
  rw [bitAnd_pp (by omega) (by omega)]
  exact q
theorem op_xorN : OpR X (binaryOp .BitXor) (fun x y H Q => ∃ a b : Nat, x = .int a ∧ y = .int b ∧ Q (.int ((a ^^^ b : Nat) : Int)) H) := by
  rintro pins s σ H x y v u Q I rx ry ⟨a, b, rfl, rfl, q⟩
  refine op_xor pins s σ H _ _ v u Q I rx ry ⟨a, b, rfl, rfl, ?_⟩
  show Q (.int (Builtin.bitXor a b)) H
  rw [Bits.bitXor_pp (by omega) (by omega)]
  exact q
theorem op_shrNN : OpR X (binaryOp .RShift) (fun x y H Q => ∃ a b : Nat, x = .int a ∧ y = .int b ∧ Q (.int ((a / 2 ^ b : Nat) : Int)) H) := by
  rintro pins s σ H x y v u Q I rx ry ⟨a, b, rfl, rfl, q⟩
  refine op_shrN pins s σ H _ _ v u Q I rx ry ⟨a, b, rfl, rfl, ?_⟩
  have e : (a : Int) / 2 ^ b = ((a / 2 ^ b : Nat) : Int) := by rw [Int.natCast_ediv, Int.natCast_pow] <;> rfl
  rw [e]
  exact q
theorem op_modNN : OpR X (binaryOp .Mod) (fun x y H Q => ∃ a b : Nat, x = .int a ∧ y = .int b ∧ 0 < b ∧ Q (.int ((a % b : Nat) : Int)) H) := by
  rintro pins s σ H x y v u Q I rx ry ⟨a, b, rfl, rfl, hb, q⟩
  refine op_modN pins s σ H _ _ v u Q I rx ry ⟨a, b, rfl, rfl, by show (b : Int) ≠ 0; omega, ?_⟩
  show Q (.int (Int.fmod (a : Int) b)) H
  rw [Int.fmod_eq_emod_of_nonneg _ (by omega)]
  exact q
theorem op_eqN : OpR X (compareOp .Eq) (fun x y H Q => ∃ a b : Nat, x = .int a ∧ y = .int b ∧ Q (.bl (decide (a = b))) H) := by
  rintro pins s σ H x y v u Q I rx ry ⟨a, b, rfl, rfl, q⟩
  refine op_eq pins s σ H _ _ v u Q I rx ry ⟨rfl, ?_⟩
  have e : decide (V.int (a : Int) = V.int (b : Int)) = decide (a = b) := decide_eq_decide.mpr ⟨fun z => by injection z with z; omega, fun z => by rw [z]⟩
  rw [e]
  exact q
theorem op_neN : OpR X (compareOp .NotEq) (fun x y H Q => ∃ a b : Nat, x = .int a ∧ y = .int b ∧ Q (.bl (!decide (a = b))) H) := by
  rintro pins s σ H x y v u Q I rx ry ⟨a, b, rfl, rfl, q⟩
  refine op_ne pins s σ H _ _ v u Q I rx ry ⟨rfl, ?_⟩
  have e : decide (V.int (a : Int) = V.int (b : Int)) = decide (a = b) := decide_eq_decide.mpr ⟨fun z => by injection z with z; omega, fun z => by rw [z]⟩
  rw [e]
  exact q
theorem op_ltN : OpR X (compareOp .Lt) (fun x y H Q => ∃ a b : Nat, x = .int a ∧ y = .int b ∧ Q (.bl (decide (a < b))) H) := by
  rintro pins s σ H x y v u Q I rx ry ⟨a, b, rfl, rfl, q⟩
  refine op_lt pins s σ H _ _ v u Q I rx ry ⟨a, b, rfl, rfl, ?_⟩
  have e : decide ((a : Int) < b) = decide (a < b) := decide_eq_decide.mpr (by omega)
  show Q (.bl (decide ((a : Int) < b))) H
  rw [e]
  exact q
theorem op_gtN : OpR X (compareOp .Gt) (fun x y H Q => ∃ a b : Nat, x = .int a ∧ y = .int b ∧ Q (.bl (decide (b < a))) H) := by
  rintro pins s σ H x y v u Q I rx ry ⟨a, b, rfl, rfl, q⟩
  refine op_gt pins s σ H _ _ v u Q I rx ry ⟨a, b, rfl, rfl, ?_⟩
  have e : decide ((b : Int) < a) = decide (b < a) := decide_eq_decide.mpr (by omega)
  show Q (.bl (decide ((b : Int) < a))) H
  rw [e]
  exact q
theorem op_pow2 : OpR X (binaryOp .LShift) (fun x y H Q => ∃ k : Nat, x = .int 1 ∧ y = .int (k : Int) ∧ k ≤ 1000 ∧ Q (.int ((2 ^ k : Nat) : Int)) H) := by
  rintro pins s σ H x y v u Q I rx ry ⟨k, rfl, rfl, hk, q⟩
  refine op_oneShl pins s σ H _ _ v u Q I rx ry ⟨k, rfl, rfl, by omega, ?_⟩
  have e : (2 : Int) ^ k = ((2 ^ k : Nat) : Int) := by rw [Int.natCast_pow] <;> rfl
  rw [e]
  exact q
/-- an int as a test -/
def tInt (ta : TE) : TT := fun σ H Q => ta σ H fun x H' => ∃ n : Nat, x = .int (n : Int) ∧ Q (decide (n ≠ 0)) H'
theorem pt_int {a : Expr} {ta : TE} (ha : PE X a ta) (he : ∀ whole, isTrue a X.env whole = (do let v ← whole; standAt a.pos; holding [v] (truthy v))) : PT X a (tInt ta) := by
  refine ⟨fun pins s σ H Q I h => isTrue_plain (thn (ha.run pins s σ H _ I h) fun v s1 z => ?_) (he _)⟩
  obtain ⟨x, H1, I1, r1, n, rfl, q⟩ := z
  obtain ⟨t, rfl⟩ := r1
  have e : ((n : Int) != 0) = decide (n ≠ 0) := by cases n <;> rfl
  exact PySem.P.truthy_int ⟨H1, I1, by rw [e]; exact q⟩
end
end Vf
namespace Vf
open PySem PySem.Spec PyProof.Rows L2
section
variable {X : Cx}
theorem call_intN : CallR X (.type "int") (fun xs H Q => ∃ n : Nat, xs = [.int (n : Int)] ∧ Q (.int (n : Int)) H) := by
  rintro pins s σ H xs us Q I r ⟨n, rfl, q⟩
  exact call_int1 pins s σ H _ us Q I r (.inl ⟨n, rfl, q⟩)
theorem call_divmodN : CallR X (.builtin "divmod") (fun xs H Q => ∃ a b : Nat, xs = [.int (a : Int), .int (b : Int)] ∧ 0 < b ∧ b < 1073741824 ∧
    ∀ p, H p = none → Q (.ref p) (upd H p (.tup [.int ((a / b : Nat) : Int), .int ((a % b : Nat) : Int)]))) := by
  rintro pins s σ H xs us Q I r ⟨a, b, rfl, h1, h2, q⟩
  refine call_divmod pins s σ H _ us Q I r ⟨a, b, rfl, ⟨by omega, by omega⟩, fun p hp => ?_⟩
  have e1 : (a : Int) / b = ((a / b : Nat) : Int) := (Int.natCast_ediv _ _).symm
  have e2 : (a : Int) % b = ((a % b : Nat) : Int) := (Int.natCast_emod _ _).symm
  rw [e1, e2]
  exact q p hp
end
/-- a pot: what is left of the cell's own digits, and the mixed number -/
def Pot (H : Hp) (p : Addr) : Prop := ∃ x y : Nat, H p = some (.lst [.int (x : Int), .int (y : Int)]) ∧ y < 2147483648
theorem Pot.same {H H' : Hp} {p : Addr} (s : Same H H') (h : Pot H p) : Pot H' p := by
  obtain ⟨x, y, e, l⟩ := h
  exact ⟨x, y, s _ _ e, l⟩
theorem Pot.upd {H : Hp} {p q : Addr} {o : HO} (n : p ≠ q) (h : Pot H p) : Pot (upd H q o) p := by
  obtain ⟨x, y, e, l⟩ := h
  exact ⟨x, y, by rw [upd_ne n]; exact e, l⟩
theorem Pot.some {H : Hp} {p : Addr} (h : Pot H p) : ∃ o, H p = some o := by
  obtain ⟨x, y, e, l⟩ := h
  exact ⟨_, e⟩
/-- changes at a new place alone -/
theorem But.new {p q : Addr} {H H' : Hp} {o : HO} (s : But p H H') (h : H q = none) : But p H (L2.upd H' q o) := fun b x n e => by
  show L2.upd H' q o b = _
  rw [upd_ne (ne_of_none e h)]
  exact s b x n e
end Vf
namespace Vf
open PySem PySem.Spec PyProof.Rows L2
/-! ### flat lists as data -/
def toD : V → PyData
  | .bl b => .bool b
  | .int i => .int i
  | _ => .none
def flat : V → Bool
  | .bl _ => true
  | .int _ => true
  | _ => false
def small : V → Bool
  | .bl _ => true
  | .int i => decide (i.natAbs.log2 < 1900)
  | _ => false
theorem dp_flat {K : PySem.W.Frag} {H : Hp} {x : V} (h : flat x = true) : Dp K H x (toD x) := by
  cases x with
  | bl b => exact .bl b
  | int i => exact .int i
  | _ => cases h
theorem dp_all {K : PySem.W.Frag} {H : Hp} : ∀ {xs : List V}, (∀ x ∈ xs, flat x = true) → DpAll K H xs (xs.map toD)
  | [], _ => .nil
  | x :: xs, h => .cons (dp_flat (h x List.mem_cons_self)) (dp_all fun y hy => h y (List.mem_cons_of_mem _ hy))
theorem canLay_all : ∀ {xs : List V}, (∀ x ∈ xs, flat x = true) → PyData.canLayAll0 (xs.map toD) = true
  | [], _ => rfl
  | x :: xs, h => by
    have h1 := h x List.mem_cons_self
    have h2 := canLay_all (xs := xs) fun y hy => h y (List.mem_cons_of_mem _ hy)
    rw [List.map_cons, PyData.canLayAll0, h2]
    cases x <;> first | rfl | cases h1
theorem depth_all : ∀ xs : List V, PyData.depthAll (xs.map toD) = 0
  | [] => rfl
  | x :: xs => by
    rw [List.map_cons, PyData.depthAll, depth_all xs]
    cases x <;> rfl
theorem shaped_flat {xs : List V} (h : ∀ x ∈ xs, flat x = true) : SeqAt.shaped (.list (xs.map toD)) = true := by
  unfold SeqAt.shaped
  rw [PyData.canLay0, canLay_all h, PyData.depth, depth_all]
  rfl
theorem flat_vs (l : List Nat) : ∀ x ∈ vs l, flat x = true := fun x hx => by
  obtain ⟨i, _, rfl⟩ := List.mem_map.mp hx
  rfl
/-! ### their texts -/
theorem text_len : ∀ (ts : List Str) (k : Nat) (acc : Str), (textFrom k acc ts).length ≤ acc.length + (ts.map fun t => t.length + 2).sum
  | [], k, acc => Nat.le_refl _
  | t :: r, k, acc => by
    have h := text_len r (k + 1) (acc ++ (if k > 0 then ", " else "" : String) ++ t)
    rw [strLen_append, strLen_append] at h
    have e : ((if k > 0 then ", " else "" : String) : Str).length ≤ 2 := by
      split
      · exact Nat.le_refl 2
      · exact Nat.zero_le 2
    show (textFrom (k + 1) _ r).length ≤ _
    rw [List.map_cons, List.sum_cons]
    exact Nat.le_trans h (by omega)
theorem small_nat {n : Nat} (h : n < 2 ^ 24) : small (.int (n : Int)) = true := by
  refine decide_eq_true ?_
  show n.log2 < 1900
  by_cases h0 : n = 0
  · rw [h0]
    decide
  · exact Nat.lt_of_lt_of_le ((Nat.log2_lt h0).mpr h) (by decide)
theorem small_len {x : V} (h : small x = true) : (toD x).shown.length ≤ 1921 := by
  cases x with
  | bl b => cases b <;> decide +kernel
  | int i =>
    have e := int_text_length_le (a := i) (k := 1900) (by decide) (of_decide_eq_true h)
    show (Str.ofString (toString i)).length ≤ 1921
    rw [PySem.ofString_length]
    omega
  | _ => cases h
theorem small_show {x : V} (h : small x = true) : (toD x).showable = true ∧ (toD x).hasDict = false := by
  cases x with
  | bl b => exact ⟨rfl, rfl⟩
  | int i =>
    have h2 : i.natAbs.log2 < 1900 := of_decide_eq_true h
    exact ⟨decide_eq_true (by omega), rfl⟩
  | _ => cases h
theorem shown_all : ∀ {xs : List V}, (∀ x ∈ xs, small x = true) → PyData.showableAll (xs.map toD) = true ∧ PyData.hasDictAll (xs.map toD) = false ∧
    ((PyData.shownAll (xs.map toD)).map fun t => t.length + 2).sum ≤ 1925 * xs.length
  | [], _ => ⟨rfl, rfl, Nat.le_refl _⟩
  | x :: xs, h => by
    obtain ⟨a, b, c⟩ := shown_all (xs := xs) fun y hy => h y (List.mem_cons_of_mem _ hy)
    have h1 := h x List.mem_cons_self
    have h2 := small_len h1
    rw [List.map_cons, PyData.showableAll, PyData.hasDictAll, PyData.shownAll, a, b, (small_show h1).1, (small_show h1).2, List.map_cons, List.sum_cons, List.length_cons]
    exact ⟨rfl, rfl, by omega⟩
/-- the text of such a list -/
def txt (xs : List V) : Str := (PyData.list (xs.map toD)).shown
theorem perm_vs {l' : List V} {l : List Nat} (h : l'.Perm (vs l)) : ∃ l2 : List Nat, l' = vs l2 ∧ l2.Perm l := by
  let g : V → Nat := fun x => match x with | .int i => i.toNat | _ => 0
  refine ⟨l'.map g, ?_, ?_⟩
  · have e : ∀ x ∈ l', V.int ((g x : Nat) : Int) = x := fun x hx => by
      obtain ⟨i, _, rfl⟩ := List.mem_map.mp (h.mem_iff.mp hx)
      rfl
    unfold vs
    rw [List.map_map]
    exact ((List.map_congr_left (g := id) e).trans (List.map_id l')).symm
  · have p := h.map g
    unfold vs at p
    rw [List.map_map] at p
    have e : (l.map (g ∘ fun i : Nat => V.int (i : Int))) = l := by
      rw [show (g ∘ fun i : Nat => V.int (i : Int)) = id from rfl, List.map_id]
    rw [e] at p
    exact p
end Vf
namespace Vf
open PySem PySem.Spec PyProof.Rows L2
theorem But.free {p q : Addr} {H H' : Hp} (b : But p H H') (hp : Pot H' p) (h : H' q = none) : H q = none := by
  cases e : H q with
  | none => rfl
  | some o =>
    by_cases n : q = p
    · subst n
      obtain ⟨o2, e2⟩ := hp.some
      rw [h] at e2
      cases e2
    · rw [b q o n e] at h
      cases h
end Vf
set_option Elab.async false
set_option linter.all false
set_option maxRecDepth 100000
set_option maxHeartbeats 4000000
namespace Vf
open PySem PySem.Spec PyProof.Rows L2
/-! ### {xs} in an f-string, xs data -/
section
variable {X : Cx}
/-! ### repr of an own instance -/
/-! ### == and != by an own __eq__ -/
/-- the value's type, for a comparison -/
def TyL (X : Cx) (H : Hp) (y : V) (tb : Value) : Prop := ∀ (pins : List (Addr × Obj)) (σ : L2.St) (s : Shared) (u : Value), Inv X pins σ H s → RelV y u → PySem.W.Looks (model X.prog X.w) s.heap (typeOf u) tb
theorem tyL_ins {H : Hp} {b C dx : Addr} {fs : List (Str × V)} (h : H b = some (.ins C dx fs)) : TyL X H (.ref b) (.ref C) := fun pins σ s u I r => by
  cases (show u = Value.ref b from r)
  obtain ⟨mA, O, _⟩ := ins_get I.hok h
  obtain ⟨od, J, _⟩ := O.look
  exact J.type
structure rOwn (X : Cx) (C : Addr) (sp : Sp) (neg : Bool) (x y : V) (H : Hp) (Q : VK) : Prop where
  ex : ∃ a dx fs tb, x = .ref a ∧ H a = some (.ins C dx fs) ∧ TyL X H y tb ∧ PySem.W.notFirst X.K C tb = true ∧ sp [.ref a, y] H (fun v H' => ∃ b : Bool, v = .bl b ∧ Q (.bl (if neg then !b else b)) H') E0
theorem own_run {pins : List (Addr × Obj)} {σ : L2.St} {H : Hp} {s : Shared} {A : Around} {R : VK} {f a : Addr} {fd : FuncData} {sp : Sp} {k : Nat} {ps : List Str} {y : V} {u : Value} (F : FnOk X.prog X.w X.K X.mg X.base CX0 k f fd ps sp) (hr : Room k A) (hA : A.frames = X.A.frames)
    (hb : Binds X.K fd ps []) (I : Inv X pins σ H s) (ry : RelV y u) (h : sp [.ref a, y] H R E0) {E : Value → Shared → Prop} :
    wpAny (model X.prog X.w) A (call (.ref f) [.ref a, u]) (EP X pins σ R) E s := by
  have hl : ([Value.ref a, u] ++ ([] : List Value)).length = ps.length := by
    rw [← F.len _ _ _ _ h]
    rfl
  have bb := hb s [.ref a, u] I.kIn hl
  rw [List.append_nil] at bb
  have e0 : Env0 X.prog X.w X.K X.mg X.base A X.stack s H := by
    have e := I.env0
    exact ⟨hA.trans e.frames, e.mod, e.bs, e.bsz, e.funs, e.frf, e.hok, e.bare⟩
  refine wpAny_call (codeAny_mono (F.run A X.stack s H ⟨[.ref a, u], []⟩ [.ref a, u] [.ref a, y] R E0 hr e0 bb (.cons rfl (.cons ry .nil)) h) fun res s' hh => ?_)
  cases res with
  | error e => exact hh.elim
  | ok fl =>
    cases fl with
    | next => exact hh.elim
    | brk => exact hh.elim
    | cont => exact hh.elim
    | ret w => exact I.after hh
theorem op_eqI {C f : Addr} {fd : FuncData} {sp : Sp} {k : Nat} {ps : List Str} (F : FnOk X.prog X.w X.K X.mg X.base CX0 k f fd ps sp) (hr : Room k X.A)
    (hs : PySem.W.findIn X.K (.ref C) "__eq__" = some (some (.ref f))) (hf : PySem.W.isFn X.K (.ref f) = true) (hb : Binds X.K fd ps []) : OpR X (compareOp .Eq) (rOwn X C sp false) := by
  intro pins s σ H x y v u Q I rx ry h
  obtain ⟨a, dx, fs, tb, rfl, ha, ty, nf, hq⟩ := h.ex
  cases (show v = Value.ref a from rx)
  obtain ⟨mA, O, _⟩ := ins_get I.hok ha
  obtain ⟨od, J, _⟩ := O.look
  obtain ⟨m, hF⟩ := I.fr
  show wpAny (model X.prog X.w) X.A (richCompare .Eq (.ref a) u) (EP X pins σ Q) X.xe s
  refine PySem.W.cmp_K (op := .Eq) (tb := tb) hr.units0 hF I.ok.mod.kin J (ty pins σ s u I ry) nf hs hf ?_
  refine wpAny_mono (own_run F hr rfl hb I ry hq) (fun w s' z => ?_) fun _ _ e => e
  obtain ⟨v, H', I', rv, b, rfl, q⟩ := z
  cases rv
  exact ⟨.bl b, H', I', rfl, q⟩
theorem ne_K {prog : Program} {w : World} {A : Around} {E : Value → Shared → Prop} {K : PySem.W.Frag} {s : Shared} {x C f : Addr} {ox : Obj} {od : Option Obj} {b tb : Value} {Q : Value → Shared → Prop}
    (hu : A.units + 1 < cLine) (kin : K.In s.heap) (I : PySem.W.InstAt s.heap x ox C od) (hb : PySem.W.Looks (model prog w) s.heap (typeOf b) tb) (hn : PySem.W.notFirst K C tb = true)
    (hne : PySem.W.findIn K (.ref C) "__ne__" = some (some (.builtin "object.__ne__"))) (hob : PySem.W.mroIn K C (.type "object") = some true)
    (hs : PySem.W.findIn K (.ref C) "__eq__" = some (some (.ref f))) (hf : PySem.W.isFn K (.ref f) = true)
    (h : wpAny (model prog w) A.in1 (call (.ref f) [.ref x, b]) (fun v s' => ∃ r : Bool, v = .bool r ∧ Q (.bool (!r)) s') E s) :
    wpAny (model prog w) A (richCompare .NotEq (.ref x) b) Q E s := by
  have FB := F.cmp_object
  have sub : PySem.W.Looks (model prog w) s.heap (isInstance (.ref x) (.type "object")) true := I.type.andThen (PySem.W.looks_mroIn kin hob)
  have inner : wpAny (model prog w) A (call (.builtin "object.__ne__") [.ref x, b]) (fun v s' => ∃ r : Bool, v = .bool (!r) ∧ Q (.bool (!r)) s') E s := by
    refine wpAny_call (codeAny_call_builtin FB.ne.plain F.cmpEntry_ne (@PySem.W.check_slot (model prog w) _ _ s "object.__ne__" "object" "__ne__" (.ref x) [b] [] _ F.cmpKind_ne F.cmpSplit_ne sub (F.cmpArgs_ne _ _) ?_))
    unfold Builtin.«object.__ne__»
    repeat (first
      | with_reducible refine wpAny_cRoomFor (show A.in1.units < cLine from hu) ?_
      | (refine wpAny_bind (m := callSpecialIfBound? (.ref x) (Str.ofString "__eq__") [b])
          (PySem.W.ifBound_K kin I hs hf (wpAny_mono h (fun r s' hr => by
            obtain ⟨r, rfl, hq⟩ := hr
            repeat (first | exact ⟨r, rfl, hq⟩ | exact wpAny_pure ⟨r, rfl, hq⟩ | exact wpAny_truthy_bool ⟨r, rfl, hq⟩ | (refine wpAny_bind (m := truthy (.bool _)) (wpAny_truthy_bool ?_)) | wp_step)) fun _ _ e => e)))
      | wp_step)
  have one : wpAny (model prog w) A (tryCompare (.ref x) "__ne__" b) (fun r s' => ∃ v, r = some v ∧ Q v s') E s := by
    unfold tryCompare
    refine wpAny_bind ?_
    simp only [callSpecialIfBound?, bindSpecialIfBound?]
    refine wpAny_holding (wpAny_bind (wpAny_bind (wpAny_bind (I.type.here ((PySem.W.looks_findIn kin hne).here ?_)))))
    simp only [FB.ne.bind]
    refine wpAny_bind (wpAny_askSetting (wpAny_ite ?_))
    have fin : wpAny (model prog w) A (call (.builtin "object.__ne__") ([.ref x] ++ [b]) >>= fun v => pure (some v)) (fun r s' => wpAny (model prog w) A (match r with | some .notImplemented | none => pure none | some v => pure (some v)) (fun r s' => ∃ v, r = some v ∧ Q v s') E s') E s :=
      wpAny_bind (wpAny_mono inner (fun v s' hv => wpAny_pure (by
        obtain ⟨r, rfl, hq⟩ := hv
        exact wpAny_pure ⟨_, rfl, hq⟩)) fun _ _ e => e)
    split
    · exact wpAny_bind (wpAny_pure (wpAny_pure fin))
    · exact wpAny_tryCatch (wpAny_bind (wpAny_pure (wpAny_pure fin)))
  unfold richCompare
  simp only [oneThing_ref]
  refine wpAny_holding (wpAny_bind (wpAny_cRoomFor (Nat.lt_of_succ_lt hu) ?_))
  rw [cmpInfo_NotEq]
  dsimp only
  refine wpAny_bind (I.type.here (wpAny_bind (hb.here ?_)))
  split
  · rename_i q
    have e : PySem.W.subIn K tb (.ref C) = some false := by
      rcases Bool.or_eq_true_iff.mp hn with e | e
      · rw [beq_iff_eq.mp e] at q
        simp at q
      · exact beq_iff_eq.mp e
    refine wpAny_bind ((PySem.W.looks_subIn kin e).here ?_)
    simp only [Bool.false_eq_true, if_false]
    refine wpAny_bind (wpAny_mono one (fun r s' z => ?_) fun _ _ e => e)
    obtain ⟨v, rfl, hq⟩ := z
    exact wpAny_pure hq
  · refine wpAny_bind (wpAny_pure ?_)
    simp only [Bool.false_eq_true, if_false]
    refine wpAny_bind (wpAny_mono one (fun r s' z => ?_) fun _ _ e => e)
    obtain ⟨v, rfl, hq⟩ := z
    exact wpAny_pure hq
theorem op_neI {C f : Addr} {fd : FuncData} {sp : Sp} {k : Nat} {ps : List Str} (F : FnOk X.prog X.w X.K X.mg X.base CX0 k f fd ps sp) (hr : Room (k + 1) X.A)
    (hne : PySem.W.findIn X.K (.ref C) "__ne__" = some (some (.builtin "object.__ne__"))) (hob : PySem.W.mroIn X.K C (.type "object") = some true)
    (hs : PySem.W.findIn X.K (.ref C) "__eq__" = some (some (.ref f))) (hf : PySem.W.isFn X.K (.ref f) = true) (hb : Binds X.K fd ps []) : OpR X (compareOp .NotEq) (rOwn X C sp true) := by
  intro pins s σ H x y v u Q I rx ry h
  obtain ⟨a, dx, fs, tb, rfl, ha, ty, nf, hq⟩ := h.ex
  cases (show v = Value.ref a from rx)
  obtain ⟨mA, O, _⟩ := ins_get I.hok ha
  obtain ⟨od, J, _⟩ := O.look
  show wpAny (model X.prog X.w) X.A (richCompare .NotEq (.ref a) u) (EP X pins σ Q) X.xe s
  refine ne_K (tb := tb) (by have := hr.units; omega) I.kIn J (ty pins σ s u I ry) nf hne hob hs hf ?_
  refine wpAny_mono (own_run (A := X.A.in1) F hr.in1 rfl hb I ry hq) (fun w s' z => ?_) fun _ _ e => e
  obtain ⟨v, H', I', rv, b, rfl, q⟩ := z
  cases rv
  exact ⟨b, rfl, .bl (!b), H', I', rfl, q⟩
end
end Vf
set_option Elab.async false
set_option linter.all false
set_option maxRecDepth 100000
set_option maxHeartbeats 4000000
namespace Vf
open PySem PySem.Spec PyProof.Rows L2
/-! ### for i, x in enumerate(t), t a tuple -/
theorem meets_enumB {v : Value} {o : Obj} {H : Heap → Prop} (B : Begins v o H) :
    Meets (Builtin.«enumerate.__new__» ⟨[.type "enumerate", v], []⟩) (fun _ R s => H s.heap ∧ R (.ok (.ret (.ref (s.heap.push o).objs.size)))
      { s with heap := (s.heap.push o).push { cls := .type "enumerate", data := .fields #[.none, .bool false, .ref s.heap.objs.size, rawInt 0, .none, .none] } }) :=
  .of_wp fun prog w A R s h => by
    obtain ⟨hp, g, d, tk, os⟩ := s
    obtain ⟨h1, h⟩ := h
    have hsub := sub_enumerate
    have q1 : ∀ {A' : Around} {E : Value → Shared → Prop} {Q : Value → Shared → Prop}, Q (.ref hp.objs.size) ⟨hp.push o, g, d, tk, os⟩ →
        wpAny (model prog w) A' (pyIter v) Q E ⟨hp, g, d, tk, os⟩ := fun q => B.iter prog w _ _ ⟨hp, g, d, tk, os⟩ _ h1 q
    wp_walk using q1
    refine wpAny_stack_any fun st => wpAny_pure ?_
    split
    · rename_i c _ _ _ _ _
      cases (c == Value.type "enumerate") <;> (wp_walk using q1; exact ⟨_, rfl, h⟩)
    · wp_walk using q1
      exact ⟨_, rfl, h⟩
theorem call_enumT {prog : Program} {w : World} {A : Around} {E : Value → Shared → Prop} {s : Shared} {l : Addr} {items : Array Value} {Q : Value → Shared → Prop} (hT : s.heap.IsTuple l items)
    (h : ∀ h', IsEnum h' (s.heap.objs.size + 1) s.heap.objs.size 0 .none → h'.IsTupleIter s.heap.objs.size l 0 →
      (∀ b o, s.heap.get? b = some o → h'.get? b = some o) → Q (.ref (s.heap.objs.size + 1)) { s with heap := h' }) :
    wpAny (model prog w) A (call (.type "enumerate") [.ref l]) Q E s := by
  refine callType_new F.called_enumerate (by decide) (F.typeCall_enumerate_1 _) (F.newCall_enumerate_1 _) (fun obj => F.args_object_init_2 obj _) F.entry_enumerate_new
    (meets_enumB (begins_tuple l items)) ⟨hT, ?_⟩
  have hz : (s.heap.push { cls := .type "tuple_iterator", data := .fields #[.ref l, .int 0 0] }).objs.size = s.heap.objs.size + 1 := Heap.size_push ..
  show _ ∧ _
  rw [hz]
  have he : IsEnum ((s.heap.push { cls := .type "tuple_iterator", data := .fields #[.ref l, .int 0 0] }).push
      { cls := .type "enumerate", data := .fields #[.none, .bool false, .ref s.heap.objs.size, rawInt 0, .none, .none] }) (s.heap.objs.size + 1) s.heap.objs.size 0 .none := by
    have z := Heap.get?_push_size (s.heap.push { cls := .type "tuple_iterator", data := .fields #[.ref l, .int 0 0] })
      (o := { cls := .type "enumerate", data := .fields #[.none, .bool false, .ref s.heap.objs.size, rawInt 0, .none, .none] }) rfl
    rw [hz] at z
    exact z
  exact ⟨⟨_, he, rfl⟩, h _ he ⟨_, Heap.get?_push_of_some _ (Heap.get?_push_size _ rfl), rfl, rfl⟩ fun b o x => Heap.get?_push_of_some _ (Heap.get?_push_of_some _ x)⟩
def ItT (K : PySem.W.Frag) (a : Addr) : It :=
  ⟨fun i H => ∃ (xs : List V) (x : V), SqT K H a xs ∧ xs[i]? = some x,
   fun i H v H' => ∃ T x, v = .ref T ∧ H T = none ∧ H' = upd H T (.tup [.int (i : Nat), x]) ∧ ∀ xs, SqT K H a xs → xs[i]? = some x,
   fun i H => ∃ xs : List V, SqT K H a xs ∧ xs.length = i⟩
theorem turn_enumT {P : Program} {w : World} {K : PySem.W.Frag} {elts : List Expr} {kk : Nat} {tpos : Pos} (a e it : Addr) :
    Turn P w K (.Tuple elts kk tpos) (ItT K a) [e, it] e (fun i h => (∃ old, IsEnum h e it ((i : Nat) : Int) old) ∧ h.IsTupleIter it a i ∧ e ≠ it) where
  mem := by simp
  obj := by
    rintro i h ⟨⟨old, he⟩, ⟨o, ho, hc, hd⟩, _⟩ b hb
    rcases (show b = e ∨ b = it by simpa using hb) with rfl | rfl
    · exact ⟨_, he, fun v q => nomatch q⟩
    · exact ⟨o, ho, fun v q => by rw [hd] at q; cases q⟩
  keep := by
    rintro i h h' ⟨⟨old, he⟩, hi, hne⟩ k
    exact ⟨⟨old, k e (by simp) _ he⟩, hi.at fun o q => k it (by simp) o q, hne⟩
  item := by
    intro X hP hw hK hc i pins s σ H E I hf st hg
    subst hP hw hK
    obtain ⟨⟨old, he⟩, hit, hne⟩ := st
    obtain ⟨xs, x, hq, hx⟩ := hg
    obtain ⟨its, rv, p, hz⟩ := I.tuple hq
    obtain ⟨u, hu, ru⟩ := rv.get hx
    have hT0 : s.heap.IsTuple a its.toArray := p
    have nae : e ≠ a := by
      rintro rfl
      obtain ⟨o, h1, h2, _⟩ := p
      have he2 : s.heap.get? e = some _ := he
      rw [h1] at he2
      have e3 := congrArg Obj.cls (Option.some.inj he2)
      rw [h2] at e3
      injection e3 with e4
      exact absurd e4 (by decide)
    have nai : a ≠ it := by
      rintro rfl
      obtain ⟨o, h1, h2, _⟩ := p
      obtain ⟨o', h1', h2', _⟩ := hit
      rw [h1] at h1'
      cases h1'
      rw [h2] at h2'
      injection h2' with e4
      exact absurd e4 (by decide)
    have D : Draws X.prog X.w X.A.in1 it [it, a] its.toArray.size (fun i v => its.toArray[i]? = some v) (fun i h => h.IsTupleIter it a i ∧ h.IsTuple a its.toArray) :=
      Draws.tuple (show X.A.in1.handled = none from I.ok.hd hc) it a nai its.toArray
    have hlt : i < its.toArray.size := by
      have := (List.getElem?_eq_some_iff.mp hu).1
      simpa using this
    have hel : e < s.heap.objs.size := Heap.lt_size he
    have hil : it < s.heap.objs.size := by
      obtain ⟨_, q, _⟩ := hit
      exact Heap.lt_size q
    refine wpAny_pyNext_enum_itemD D he ⟨hit, hT0⟩ hlt hne (by simp [hne, nae]) fun y h' tk hy ho hst' hT hsz hk => ?_
    have ey : y = u := by
      have h1 : its[i]? = some y := by simpa using hy
      rw [hu] at h1
      exact (Option.some.inj h1).symm
    subst ey
    refine ⟨_, rfl, wpAny_letOwnedTupleGo_enum (s := { s with heap := h', toks := tk + 1 }) ho fun h'' he' sb => ?_⟩
    have hT2 : h''.get? s.heap.objs.size = some { cls := .type "tuple", data := .seq #[.int i tk, y] } := (sb.2 _ (Nat.ne_of_gt hel)).trans hT
    have new : ObjOk X.prog X.w (upd H s.heap.objs.size (.tup [.int (i : Nat), x])) h'' s.heap.objs.size (.tup [.int (i : Nat), x]) :=
      ⟨by show 2 ≤ sizeLine; decide, [.int i tk, y], .cons ⟨_, rfl⟩ (.cons ru .nil), ⟨_, hT2, rfl, _, rfl⟩⟩
    have I1 : Inv X pins σ (upd H s.heap.objs.size (.tup [.int (i : Nat), x])) { s with heap := h'', toks := tk + 1 } :=
      I.turnedNew (ch := [e, it]) (fun b ob hb q => (sb.2 b (fun z => hb (by simp [z]))).trans (hk b ob (fun z => hb (by simp [z])) (fun z => hb (by simp [z])) q)) hf (Nat.le_refl _) new
    refine ⟨.ref s.heap.objs.size, _, I1, rfl, ⟨_, x, rfl, I.hok.fresh (Nat.le_refl _), rfl, fun ys hy => by rw [I.tuple_inj hy hq]; exact hx⟩,
      ⟨⟨y, ?_⟩, hst'.1.at fun o q => (sb.2 it (Ne.symm hne)).trans q, hne⟩, fun b hb => ?_⟩
    · have e1 : ((i + 1 : Nat) : Int) = (i : Int) + 1 := by omega
      rw [e1]
      exact he'
    · have hb' : b < s.heap.objs.size := by
        rcases (show b = e ∨ b = it by simpa using hb) with rfl | rfl
        · exact hel
        · exact hil
      rw [upd_ne (Nat.ne_of_lt hb')]
      exact (hf b hb).1
  done := by
    intro X hP hw hK hc i pins s σ H E I hf st hg
    subst hP hw hK
    obtain ⟨⟨old, he⟩, hit, hne⟩ := st
    obtain ⟨xs, hq, hx⟩ := hg
    obtain ⟨its, rv, p, hz⟩ := I.tuple hq
    have hT0 : s.heap.IsTuple a its.toArray := p
    have nai : a ≠ it := by
      rintro rfl
      obtain ⟨o, h1, h2, _⟩ := p
      obtain ⟨o', h1', h2', _⟩ := hit
      rw [h1] at h1'
      cases h1'
      rw [h2] at h2'
      injection h2' with e4
      exact absurd e4 (by decide)
    have D : Draws X.prog X.w X.A.in1 it [it, a] its.toArray.size (fun i v => its.toArray[i]? = some v) (fun i h => h.IsTupleIter it a i ∧ h.IsTuple a its.toArray) :=
      Draws.tuple (show X.A.in1.handled = none from I.ok.hd hc) it a nai its.toArray
    obtain ⟨f0, f1, f2, f3, f4, f5⟩ := hf it (by simp)
    have hl : its.toArray.size = i := by
      rw [List.size_toArray, ← rv.length, hx]
    subst hl
    exact wpAny_pyNext_enum_endD D he ⟨hit, hT0⟩ fun h' eb => ⟨rfl, I.turned (t' := s.toks) (fun b o hb q => eb b o hb q) f0 f1 f3 f4 f5⟩
  self := fun A i s Q E st h => let ⟨⟨_, he⟩, _⟩ := st; wpAny_pyIter_enum he h
def iEnumT (K : PySem.W.Frag) (ta : TA) : TI := fun σ H R => ta σ H fun vs H1 => ∃ a xs, vs = [.ref a] ∧ SqT K H1 a xs ∧ R (ItT K a) H1
theorem pi_enumT {X : Cx} {e : Expr} {ta : TA} {p pos tpos : Pos} {elts : List Expr} {kk : Nat} (hg : Gl X "enumerate") (hm : X.mg "enumerate" = none) (ha : PA X [e] ta)
    (hs : starEach [e] X.env = [(false, eval e X.env)] := by rfl) : PI X (.Tuple elts kk tpos) (.Call (.Name "enumerate" p) [e] [] pos) (iEnumT X.K ta) := by
  refine ⟨fun pins s σ H R I h => Call_ (ld_blt I hg hm PyProof.Rows.boot_enumerate (callWith_type1 (thn (ha.run pos pins s σ H _ I h) fun us s1 z => ?_) hs rfl))⟩
  obtain ⟨vs, H1, I1, r1, a, xs, rfl, hq, q⟩ := z
  obtain rfl := Vals.ref1 r1
  obtain ⟨its, rv, p', hz⟩ := I1.tuple hq
  refine call_enumT (show s1.heap.IsTuple a its.toArray from p') fun h' he hit hk => wpAny_pyIter_enum he ?_
  have I2 : Inv X pins σ H1 { s1 with heap := h' } := I1.kept (t' := s1.toks) hk
  refine ⟨s1.heap.objs.size + 1, [s1.heap.objs.size + 1, s1.heap.objs.size], _, _, H1, rfl, I2, turn_enumT a (s1.heap.objs.size + 1) s1.heap.objs.size, ⟨⟨.none, he⟩, hit, Nat.succ_ne_self _⟩, fun b hb => ?_, q⟩
  have hle : s1.heap.objs.size ≤ b := by
    rcases (show b = s1.heap.objs.size + 1 ∨ b = s1.heap.objs.size by simpa using hb) with rfl | rfl
    · exact Nat.le_add_right _ _
    · exact Nat.le_refl _
  exact I1.fpOk hle (I1.hok.fresh hle)
/-! ### methods, properties and making, bundled -/
def MthC (P : Program) (w : World) (K : PySem.W.Frag) (mg : Str → Option Value) (base : Heap) (C : Addr) (m : Str) (k : Nat) (ps : List Str) (sp : Sp) : Prop :=
  ∃ (f : Addr) (fd : FuncData), FnOk P w K mg base CX0 k f fd ps sp ∧ Meth K C m f ∧ Binds K fd ps [] ∧ Cls K C
def PrpC (P : Program) (w : World) (K : PySem.W.Frag) (mg : Str → Option Value) (base : Heap) (C : Addr) (m : Str) (k : Nat) (sp : Sp) : Prop :=
  ∃ (p g : Addr) (fd : FuncData), FnOk P w K mg base CX0 k g fd ["self"] sp ∧ PropOf K C m p g ∧ Binds K fd ["self"] [] ∧ Cls K C
def MakC (P : Program) (w : World) (K : PySem.W.Frag) (mg : Str → Option Value) (base : Heap) (C : Addr) (x : Str) (k : Nat) (ps : List Str) (sp : Sp) : Prop :=
  ∃ (f : Addr) (fd : FuncData), FnOk P w K mg base CX0 k f fd ps sp ∧ Mk K C f ∧ mg x = some (.ref C) ∧ Binds K fd ps []
def EqC (P : Program) (w : World) (K : PySem.W.Frag) (mg : Str → Option Value) (base : Heap) (C : Addr) (k : Nat) (sp : Sp) : Prop :=
  ∃ (f : Addr) (fd : FuncData), FnOk P w K mg base CX0 k f fd ["self", "other"] sp ∧ PySem.W.findIn K (.ref C) "__eq__" = some (some (.ref f)) ∧ PySem.W.isFn K (.ref f) = true ∧ Binds K fd ["self", "other"] [] ∧
    PySem.W.findIn K (.ref C) "__ne__" = some (some (.builtin "object.__ne__")) ∧ PySem.W.mroIn K C (.type "object") = some true
section
variable {X : Cx} {C : Addr} {m x : Str} {k : Nat} {ps ks : List Str} {sp : Sp} {e o : Expr} {es : List Expr} {kws : List Keyword} {ta : TE} {t tk : TA} {p pos apos : Pos} {gV : List V → List V → List V}
theorem pe_propC (PC : PrpC X.prog X.w X.K X.mg X.base C m k sp) (hr : Room (k + 1) X.A) (he : PE X e ta) (hab : attributeBase e m X.env (eval e X.env) = eval e X.env) : PE X (.Attribute e m pos) (tProp C sp [] E0 ta) := by
  obtain ⟨p, g, fd, F, hp, b, c⟩ := PC
  exact pe_prop he c hp F hr b .nil pass0 hab
theorem pe_meth0C {pl : Sem Bool} (M : MthC X.prog X.w X.K X.mg X.base C m k ps sp) (hr : Room k X.A) (he : PE X o ta)
    (ht : eval (.Call (.Attribute o m apos) [] [] pos) X.env = (do
      let ov ← eval o X.env
      standAt apos.atName
      let (f, first) ← holding [ov] (getMethod ov m pl)
      callWith pos f first (backTo pos (starEach [] X.env)) (backToKw pos (keywordEach [] X.env))) := by rfl) :
    PE X (.Call (.Attribute o m apos) [] [] pos) (tMeth C m sp [] E0 ta tNil) := by
  obtain ⟨f, fd, F, hm, b, c⟩ := M
  exact pe_meth0 he c hm F hr b .nil pass0 ht
theorem pe_mkC (M : MakC X.prog X.w X.K X.mg X.base C x k ps sp) (hr : Room (k + 1) X.A) (hg : Gl X x) (ha : PA X (e :: es) t) (hdb : (x == ("__debug__" : Str)) = false := by decide)
    (he : starEach (e :: es) X.env = (false, eval e X.env) :: starEach es X.env := by rfl) (hpl : (backTo pos (starEach es X.env)).any (·.1) = false := by rfl) :
    PE X (.Call (.Name x p) (e :: es) [] pos) (tMake C sp [] E0 t) := by
  obtain ⟨f, fd, F, mk, gm, b⟩ := M
  exact pe_make mk F hr hg gm b .nil pass0 ha hdb he hpl
theorem op_eqO (Ec : EqC X.prog X.w X.K X.mg X.base C k sp) (hr : Room (k + 1) X.A) : OpR X (compareOp .Eq) (rOwn X C sp false) := by
  obtain ⟨f, fd, F, hs, hf, b, _, _⟩ := Ec
  exact op_eqI F (hr.mono (Nat.le_succ k)) hs hf b
theorem op_neO (Ec : EqC X.prog X.w X.K X.mg X.base C k sp) (hr : Room (k + 1) X.A) : OpR X (compareOp .NotEq) (rOwn X C sp true) := by
  obtain ⟨f, fd, F, hs, hf, b, hn, ho⟩ := Ec
  exact op_neI F hr hn ho hs hf b
end
end Vf
set_option Elab.async false
set_option linter.all false
set_option maxRecDepth 100000
set_option maxHeartbeats 4000000
namespace Vf
open PySem PySem.Spec PyProof.Rows L2
/-! ### defs whose promise is kept whatever reprs are under way -/
structure GgOk (P : Program) (w : World) (K : PySem.W.Frag) (mg : Str → Option Value) (base : Heap)
    (k : Nat) (f : Addr) (fd : FuncData) (ps : List Str) (sp : List Code → Sp) : Prop where
  len : ∀ g vs H Q E, sp g vs H Q E → vs.length = ps.length
  go : ∀ (g : List Code) (A : Around) (outer : List Env) (s : Shared) (H : Hp) (args : Args) (us : List Value) (vs : List V) (Q : VK) (E : XK),
    A.guards = some g → Room k A → Env0 P w K mg base A outer s H → BindsTo s fd args (ps.zip us) → Vals vs us →
    sp g vs H Q E → codeAny (model P w) A (.call (.ref f) args) (CR CX0 outer P w H s Q E) s
theorem GgOk.none {P : Program} {w : World} {K : PySem.W.Frag} {mg : Str → Option Value} {base : Heap} {k : Nat} {f : Addr} {fd : FuncData} {ps : List Str} {sp : List Code → Sp}
    (F : GgOk P w K mg base k f fd ps sp) : GnOk P w K mg base k f fd ps (sp []) := ⟨F.len [], F.go []⟩
theorem deeper_guardsG {A : Around} {env : Env} {g : List Code} (h : A.guards = some g) : (A.deeper env).guards = some g := by
  first | exact h | simpa [Around.deeper] using h
theorem gg_ok {P : Program} {w : World} {K : PySem.W.Frag} {mg : Str → Option Value} {base : Heap} {x qual : Str} {st : Stmt} {f : Addr} {fd : FuncData} {N ps : List Str} {k : Nat} {sp : List Code → Sp}
    (F : Fun K x qual st f fd) (S : FnScope N ps (defScope st)) (len : ∀ g vs H Q E, sp g vs H Q E → vs.length = ps.length)
    (hb : ∀ (g : List Code) (cdv : Value) (A : Around) (outer : List Env) (s : Shared) (H : Hp) (vs : List V) (Q : VK) (E : XK),
      (A.deeper (envOfC qual (defScope st) s.heap.objs.size f cdv)).guards = some g →
      Room k (A.deeper (envOfC qual (defScope st) s.heap.objs.size f cdv)) → sp g vs H Q E →
      ∃ t, PSs (cxOf CX0 P w K mg base N qual (defScope st) f cdv A outer s H E).nox (defBody st) t ∧
        t { nx := fun _ H' => Q .non H', rt := Q } (start N vs) H) : GgOk P w K mg base (k + 1) f fd ps sp := by
  refine ⟨len, fun g A outer s H args us vs Q E hg hr e0 hbd rv hs => ?_⟩
  obtain ⟨oc, od, kV, doc, pm, an, cdv, ct, osl, rfl, lk, hcd⟩ := F.ex
  have lenU : vs.length = ps.length := len _ _ _ _ _ hs
  have kin : K.In s.heap := e0.mod.kin.keeps fun b o e => (e0.bs b o e).1
  have nolim : s.heap.NoLimit := e0.mod.nolimit.keeps fun b o e => (e0.bs b o e).1
  have kinds : ∀ y ∈ ps.zip us, (defScope st).names.lookup y.1 = some .local ∨
      ((defScope st).names.lookup y.1 = some .cell ∧
        ((cellsFrom (s.heap.objs.size + 1) (defScope st).names []).lookup y.1).isSome = true) := by
    rintro ⟨n, v⟩ hy
    cases S.par n (List.of_mem_zip hy).1 with
    | inl q => exact .inl q
    | inr q => exact .inr ⟨q, PySem.W.cellsFrom_some _ _ _ (.inl q)⟩
  refine codeAny_call_function hr.depth (kin _ _ lk) rfl S.co S.gen rfl
    (PySem.W.codeRec_of kin hcd) (hbd _ _ _ _ ?_)
  refine wpAny_newFunctionEnv_cells S.kind kinds fun env he s1 y => ?_
  subst he
  refine ⟨nolim.keeps y.toInCall.keep, codeAny_func ?_⟩
  obtain ⟨t, ht, hq⟩ := hb g cdv A outer s H vs Q E (deeper_guardsG hg) (hr.deeper _) hs
  have I0 := inv_start (CX := CX0) (P := P) (w := w) (K := K) (mg := mg) (base := base) (N := N) (qual := qual)
    (f := f) (cd := cdv) (A := A) (outer := outer) (s := s) (H := H) (E := E) S hr.hd e0 lenU rv y
  refine wpAny_mono (ht.nox.run [] s1 (start N vs) H _ I0 hq) (fun fl s' hh => ?_) fun e s' hh => hh
  cases fl with
  | next =>
    obtain ⟨σ', H', J, q⟩ := hh
    exact ⟨V.non, H', J.os, J.bare, J.base, J.hok, rfl, q⟩
  | ret u =>
    obtain ⟨v, σ', H', J, r2, q⟩ := hh
    exact ⟨v, H', J.os, J.bare, J.base, J.hok, r2, q⟩
  | brk => obtain ⟨_, _, _, q⟩ := hh; exact q.elim
  | cont => obtain ⟨_, _, _, q⟩ := hh; exact q.elim
/-! ### {xs} in an f-string whatever reprs are under way, xs a list of small numbers and truths -/
structure rFmtG (K : PySem.W.Frag) (g : List Code) (x : V) (H : Hp) (Q : VK) : Prop where
  ex : ∃ a xs, x = .ref a ∧ SqL K H a xs ∧ (∀ y ∈ xs, small y = true) ∧ Clear g a ∧ (txt xs).length ≤ sizeLine ∧ Q (.str (txt xs)) H
theorem small_is {prog : Program} {w : World} {x : V} {u : Value} (h : small x = true) (r : RelV x u) : ReprIs prog w u (toD x).shown := by
  cases x with
  | bl b =>
    cases (show u = Value.bool b from r)
    have e := ReprIs.bool (prog := prog) (w := w) b
    cases b <;> exact e
  | int i =>
    obtain ⟨t, rfl⟩ := r
    have h2 : i.natAbs.log2 < 1900 := of_decide_eq_true h
    exact ReprIs.int t (by omega)
  | _ => cases h
theorem shownAll_len : ∀ xs : List V, (PyData.shownAll (xs.map toD)).length = xs.length
  | [] => rfl
  | x :: xs => by
    rw [List.map_cons, PyData.shownAll, List.length_cons, List.length_cons, shownAll_len xs]
theorem shownAll_at : ∀ {xs : List V} {i : Nat} {x : V}, xs[i]? = some x → (PyData.shownAll (xs.map toD))[i]? = some (toD x).shown
  | y :: xs, 0, x, h => by
    cases h
    rfl
  | y :: xs, i + 1, x, h => by
    rw [List.map_cons, PyData.shownAll]
    exact shownAll_at (xs := xs) (i := i) h
theorem vals_at {xs : List V} {us : List Value} (h : Vals xs us) : ∀ {i : Nat} {z : Value}, us[i]? = some z → ∃ x, xs[i]? = some x ∧ RelV x z := by
  induction h with
  | nil => intro i z h; cases h
  | cons r _ ih =>
    intro i z h
    cases i with
    | zero =>
      cases h
      exact ⟨_, rfl, r⟩
    | succ i => exact ih h
section
variable {X : Cx}
theorem pe_fmtG {g : List Code} {e : Expr} {te : TE} {pos : Pos} (hg : X.A.guards = some g) (hu : X.A.units + 64 < cLine) (he : PE X e te) :
    PE X (.FormattedValue e (-1) none pos) (fun σ H Q => te σ H fun x H1 => rFmtG X.K g x H1 Q) := by
  refine ⟨fun pins s σ H Q I h => wpAny_FormattedValue_plain (thn (he.run pins s σ H _ I h) fun v s1 hv => ?_)⟩
  obtain ⟨x, H1, I1, r1, q⟩ := hv
  obtain ⟨a, xs, rfl, hS, sm, hc, hz, q⟩ := q.ex
  cases (show v = Value.ref a from r1)
  obtain ⟨its, rv, ⟨o, n, eo, hcl, _, hda⟩, _⟩ := I1.list hS
  refine wpAny_formatField_slot (fun _ _ => nofun) (by omega) ⟨o, eo, hcl⟩ F.slot_list_format F.slot_list_str F.slot_list_repr.toG ?_
  have txe : txt xs = listText (PyData.shownAll (xs.map toD)) := by
    unfold txt
    rw [PyData.shown]
  have fin : ∀ (h' : Heap) (u tk : Tok), (∀ b o, s1.heap.get? b = some o → h'.get? b = some o) → ∃ x t, Value.str (txt xs) u = .str x t ∧ EP X pins σ Q (.str (txt xs) u) { { s1 with toks := s1.toks + 1 } with heap := h', toks := tk } := fun h' u tk hk =>
    ⟨_, _, rfl, .str (txt xs), H1, I1.kept hk, ⟨u, rfl⟩, q⟩
  cases its with
  | nil =>
    cases rv
    have fe : txt [] = ("[]" : Str) := by decide +kernel
    rw [fe] at fin
    exact call_list_repr_empty (s := { s1 with toks := s1.toks + 1 }) ⟨o, eo, hcl⟩ eo hda (fin s1.heap _ _ fun _ _ e => e)
  | cons y l =>
    refine call_list_reprK (h₀ := s1.heap) (as := []) (d := 0) (ts := PyData.shownAll (xs.map toD)) eo hcl hda (List.not_mem_nil) ?_ ?_ hg (fun b hb => ?_) (by show X.A.units + 1 + 1 + (0 + 1) < cLine; omega) (fun _ _ e => e) (fun h' u tk hk => ?_) (by rw [← txe]; exact hz)
    · have e := rv.length
      rw [shownAll_len, e]
      rfl
    · intro i z hi
      have hi' : (y :: l)[i]? = some z := by simpa using hi
      obtain ⟨x, hx, rx⟩ := vals_at rv hi'
      refine ⟨(toD x).shown, shownAll_at hx, ?_⟩
      exact ReprK.of_is (small_is (sm x (List.mem_of_getElem? hx)) rx) _ _ _
    · rw [List.mem_singleton.mp hb]
      exact hc
    · rw [← txe]
      exact fin h' u tk hk
/-! ### repr of a list of own instances -/
end
end Vf
set_option Elab.async false
set_option linter.all false
set_option maxRecDepth 100000
set_option maxHeartbeats 4000000
namespace Vf
open PySem PySem.Spec PyProof.Rows L2
/-! ### repr of a value of any kind -/
end Vf
set_option Elab.async false
set_option linter.all false
set_option maxRecDepth 100000
set_option maxHeartbeats 4000000
namespace Vf
/-! ### the plain basis of the room that words make -/
theorem sort_desc (l : List Nat) : ∃ D : List Nat, D.Perm l ∧ D.Pairwise (· ≥ ·) := by
  refine ⟨l.mergeSort fun a b => decide (b ≤ a), List.mergeSort_perm _ _, ?_⟩
  refine (List.pairwise_mergeSort (fun a b c h1 h2 => ?_) (fun a b => ?_) l).imp fun h => of_decide_eq_true h
  · exact decide_eq_true (Nat.le_trans (of_decide_eq_true h2) (of_decide_eq_true h1))
  · rcases Nat.le_total a b with h | h
    · rw [decide_eq_true h, Bool.or_true]
    · rw [decide_eq_true h, Bool.true_or]
theorem ge_gt {D : List Nat} (h : Piv D) (g : D.Pairwise (· ≥ ·)) : D.Pairwise (· > ·) := by
  refine (List.Pairwise.and g (piv_nodup h)).imp fun k => ?_
  obtain ⟨a, b⟩ := k
  omega
theorem plain_nil : Plain [] := ⟨⟨List.Pairwise.nil, fun _ k => (List.not_mem_nil k).elim⟩, List.Pairwise.nil⟩
theorem plain_ex : ∀ ws : List Nat, ∃ B, Plain B ∧ ∀ v, span B v ↔ span ws v
  | [] => ⟨[], plain_nil, fun _ => Iff.rfl⟩
  | w :: ws => by
    obtain ⟨B, pl, sp⟩ := plain_ex ws
    have e : ∀ v, span (restOf w B :: B) v ↔ span (w :: ws) v := fun v => by
      rw [rest_room pl.1, span_cons, span_cons, sp, sp]
    by_cases r0 : restOf w B = 0
    · refine ⟨B, pl, fun v => ?_⟩
      rw [← e v, r0]
      exact ⟨span_sub fun x hx => span_mem (List.mem_cons_of_mem _ hx), span_sub fun x hx => (List.mem_cons.mp hx).elim (fun e => by rw [e]; exact span_zero B) span_mem⟩
    · obtain ⟨D, pm, ge⟩ := sort_desc (B.map (clear1 (restOf w B)) ++ [restOf w B])
      have pD := piv_perm pm.symm (put_piv pl.1 r0 fun x hx => rest_off pl.1 w hx)
      exact ⟨D, ⟨pD, ge_gt pD ge⟩, fun v => by rw [span_perm pm v, put_span, e v]⟩
noncomputable def bas (ws : List Nat) : List Nat := Classical.choose (plain_ex ws)
theorem bas_plain (ws : List Nat) : Plain (bas ws) := (Classical.choose_spec (plain_ex ws)).1
theorem bas_span (ws : List Nat) (v : Nat) : span (bas ws) v ↔ span ws v := (Classical.choose_spec (plain_ex ws)).2 v
theorem bas_uniq {B ws : List Nat} (h : Plain B) (k : ∀ v, span B v ↔ span ws v) : B = bas ws := plain_unique h (bas_plain ws) fun v => (k v).trans (bas_span ws v).symm
theorem bas_self {B : List Nat} (h : Plain B) : bas B = B := (bas_uniq h fun _ => Iff.rfl).symm
theorem bas_lt {ws : List Nat} {n : Nat} (h : ∀ v ∈ ws, v < 2 ^ n) : ∀ c ∈ bas ws, c < 2 ^ n := fun c hc => span_lt h ((bas_span ws c).mp (span_mem hc))
theorem down_len : ∀ {l : List Nat} {n : Nat}, l.Pairwise (fun b c => c < b) → (∀ b ∈ l, b < n) → l.length ≤ n
  | [], _, _, _ => Nat.zero_le _
  | b :: l, n, h, hn => by
    have h2 := List.pairwise_cons.mp h
    have := down_len (n := b) h2.2 h2.1
    have := hn b List.mem_cons_self
    rw [List.length_cons]
    omega
theorem plain_len {B : List Nat} {n : Nat} (h : Plain B) (hn : ∀ c ∈ B, c < 2 ^ n) : B.length ≤ n := by
  have := down_len (l := B.map Nat.log2) (n := n) (by rw [List.pairwise_map]; exact plain_logs h) fun x hx => by
    obtain ⟨c, hc, rfl⟩ := List.mem_map.mp hx
    exact (lt_pow_log (h.1.2 c hc)).mp (hn c hc)
  rwa [List.length_map] at this
theorem piv_sub {B C : List Nat} (s : C.Sublist B) (h : Piv B) : Piv C := ⟨h.1.sublist s, fun b k => h.2 b (s.mem k)⟩
theorem plain_sub {B C : List Nat} (s : C.Sublist B) (h : Plain B) : Plain C := ⟨piv_sub s h.1, h.2.sublist s⟩
/-! ### rooms of sums, of images -/
theorem span_append {A B : List Nat} {v : Nat} : span (A ++ B) v ↔ ∃ a b, span A a ∧ span B b ∧ v = a ^^^ b := by
  constructor
  · intro h
    refine h (fun v => ∃ a b, span A a ∧ span B b ∧ v = a ^^^ b) ⟨⟨0, 0, span_zero A, span_zero B, rfl⟩, ?_⟩ fun w hw => ?_
    · rintro _ _ ⟨a, b, h1, h2, rfl⟩ ⟨c, d, h3, h4, rfl⟩
      refine ⟨a ^^^ c, b ^^^ d, span_xor h1 h3, span_xor h2 h4, ?_⟩
      apply Nat.eq_of_testBit_eq
      intro i
      simp only [Nat.testBit_xor]
      cases a.testBit i <;> cases b.testBit i <;> cases c.testBit i <;> cases d.testBit i <;> rfl
    · rcases List.mem_append.mp hw with k | k
      · exact ⟨w, 0, span_mem k, span_zero B, (Nat.xor_zero w).symm⟩
      · exact ⟨0, w, span_zero A, span_mem k, (Nat.zero_xor w).symm⟩
  · rintro ⟨a, b, h1, h2, rfl⟩
    exact span_xor (span_sub (fun x hx => span_mem (List.mem_append_left _ hx)) h1) (span_sub (fun x hx => span_mem (List.mem_append_right _ hx)) h2)
def LinF (f : Nat → Nat) : Prop := ∀ a b, f (a ^^^ b) = f a ^^^ f b
theorem LinF.zero {f : Nat → Nat} (h : LinF f) : f 0 = 0 := by
  have := h 0 0
  rw [Nat.xor_self, Nat.xor_self] at this
  exact this
theorem span_map {f : Nat → Nat} (hf : LinF f) {A : List Nat} {v : Nat} : span (A.map f) v ↔ ∃ a, span A a ∧ v = f a := by
  constructor
  · intro h
    refine h (fun v => ∃ a, span A a ∧ v = f a) ⟨⟨0, span_zero A, hf.zero.symm⟩, ?_⟩ fun w hw => ?_
    · rintro _ _ ⟨a, h1, rfl⟩ ⟨b, h2, rfl⟩
      exact ⟨a ^^^ b, span_xor h1 h2, (hf a b).symm⟩
    · obtain ⟨a, ha, rfl⟩ := List.mem_map.mp hw
      exact ⟨a, span_mem ha, rfl⟩
  · rintro ⟨a, h, rfl⟩
    exact h (fun a => span (A.map f) (f a)) ⟨by show span (A.map f) (f 0); rw [hf.zero]; exact span_zero _, fun a b ha hb => by show span (A.map f) (f (a ^^^ b)); rw [hf]; exact span_xor ha hb⟩ fun w hw => span_mem (List.mem_map_of_mem hw)
/-- what the basis words below a bound make -/
theorem comb_filter {v : Nat} {p : Nat → Bool} : ∀ {B : List Nat}, (∀ b ∈ B, p b = false → v.testBit b.log2 = false) → comb v B = comb v (B.filter p)
  | [], _ => rfl
  | b :: B, h => by
    have r := comb_filter (v := v) (p := p) (B := B) fun c k => h c (List.mem_cons_of_mem _ k)
    cases hp : p b with
    | true => rw [List.filter_cons_of_pos hp, comb_cons, comb_cons, r]
    | false => rw [List.filter_cons_of_neg (by simp [hp]), comb_cons, h b List.mem_cons_self hp, if_neg (by simp), Nat.zero_xor, r]
theorem low_span {P : List Nat} (h : Plain P) (n v : Nat) : span (P.filter fun w => decide (w < 2 ^ n)) v ↔ span P v ∧ v < 2 ^ n := by
  constructor
  · intro k
    exact ⟨span_sub (fun w hw => span_mem (List.mem_filter.mp hw).1) k, span_lt (fun w hw => by simpa using (List.mem_filter.mp hw).2) k⟩
  · rintro ⟨k, lt⟩
    have e := span_comb h.1 k
    rw [comb_filter (p := fun w => decide (w < 2 ^ n)) fun b hb hp => ?_] at e
    · rw [← e]
      exact comb_span v _
    · have ge : 2 ^ n ≤ b := by
        have : ¬ b < 2 ^ n := fun z => by simp [z] at hp
        omega
      apply Nat.testBit_lt_two_pow
      refine Nat.lt_of_lt_of_le lt (Nat.pow_le_pow_right (by decide) ?_)
      rcases Nat.lt_or_ge b.log2 n with k2 | k2
      · have := (lt_pow_log (h.1.2 b hb)).mpr k2
        omega
      · exact k2
/-! ### dimensions -/
theorem pow2_inj {a b : Nat} (h : 2 ^ a = 2 ^ b) : a = b := (Nat.pow_right_inj (by decide)).mp h
theorem len_same {l m : List Nat} (hl : l.Nodup) (hm : m.Nodup) (h : ∀ x, x ∈ l ↔ x ∈ m) : l.length = m.length := ((List.perm_ext_iff_of_nodup hl hm).mpr h).length_eq
theorem sum_const {α : Type} (f : α → Nat) (k : Nat) : ∀ l : List α, (∀ a ∈ l, f a = k) → (l.map f).sum = l.length * k
  | [], _ => by simp
  | a :: l, h => by
    rw [List.map_cons, List.sum_cons, h a List.mem_cons_self, sum_const f k l fun b hb => h b (List.mem_cons_of_mem _ hb), List.length_cons, Nat.succ_mul, Nat.add_comm]
/-- a one-to-one image has the same dimension -/
theorem dim_inj {ws us : List Nat} {g : Nat → Nat} (h : ∀ v, span us v ↔ ∃ u, span ws u ∧ v = g u) (inj : ∀ a b, span ws a → span ws b → g a = g b → a = b) : (bas us).length = (bas ws).length := by
  obtain ⟨m1, n1, l1⟩ := sums_ok (bas_plain ws).1
  obtain ⟨m2, n2, l2⟩ := sums_ok (bas_plain us).1
  apply pow2_inj
  rw [← l1, ← l2, ← List.length_map (as := sumsOf (bas ws)) (f := g)]
  refine len_same n2 ?_ fun x => ?_
  · unfold List.Nodup
    rw [List.pairwise_map]
    refine n1.imp_of_mem fun {a b} ha hb ne e => ne (inj a b ?_ ?_ e)
    · exact (bas_span ws a).mp ((m1 a).mp ha)
    · exact (bas_span ws b).mp ((m1 b).mp hb)
  · rw [m2, bas_span, h, List.mem_map]
    constructor
    · rintro ⟨u, hu, rfl⟩
      exact ⟨u, (m1 u).mpr ((bas_span ws u).mpr hu), rfl⟩
    · rintro ⟨u, hu, rfl⟩
      exact ⟨u, (bas_span ws u).mp ((m1 u).mp hu), rfl⟩
theorem rank_null {ws us ks : List Nat} {f : Nat → Nat} (hf : LinF f) (im : ∀ v, span us v ↔ ∃ u, span ws u ∧ v = f u) (ker : ∀ v, span ks v ↔ span ws v ∧ f v = 0) :
    (bas ws).length = (bas us).length + (bas ks).length := by
  obtain ⟨m1, n1, l1⟩ := sums_ok (bas_plain ws).1
  obtain ⟨m2, n2, l2⟩ := sums_ok (bas_plain us).1
  obtain ⟨m3, n3, l3⟩ := sums_ok (bas_plain ks).1
  have M1 : ∀ v, v ∈ sumsOf (bas ws) ↔ span ws v := fun v => (m1 v).trans (bas_span ws v)
  have M2 : ∀ v, v ∈ sumsOf (bas us) ↔ span us v := fun v => (m2 v).trans (bas_span us v)
  have M3 : ∀ v, v ∈ sumsOf (bas ks) ↔ span ks v := fun v => (m3 v).trans (bas_span ks v)
  have : ∃ sec : Nat → Nat, ∀ v, span us v → span ws (sec v) ∧ f (sec v) = v := by
    refine ⟨fun v => open Classical in if h : span us v then Classical.choose ((im v).mp h) else 0, fun v h => ?_⟩
    have := Classical.choose_spec ((im v).mp h)
    simp only [dif_pos h]
    exact ⟨this.1, this.2.symm⟩
  obtain ⟨sec, hs⟩ := this
  apply pow2_inj
  rw [Nat.pow_add, ← l1, ← l2, ← l3]
  have len : ((sumsOf (bas us)).flatMap fun v => (sumsOf (bas ks)).map (sec v ^^^ ·)).length = (sumsOf (bas us)).length * (sumsOf (bas ks)).length := by
    rw [List.length_flatMap]
    exact sum_const _ _ _ fun a _ => List.length_map ..
  rw [← len]
  refine len_same n1 ?_ fun x => ?_
  · unfold List.Nodup
    rw [List.pairwise_flatMap]
    refine ⟨fun a _ => ?_, n2.imp_of_mem fun {a b} ha hb ne x hx y hy e => ?_⟩
    · rw [List.pairwise_map]
      refine n3.imp fun n e => n ?_
      have := congrArg (sec a ^^^ ·) e
      simpa [← Nat.xor_assoc] using this
    · obtain ⟨k1, h1, rfl⟩ := List.mem_map.mp hx
      obtain ⟨k2, h2, rfl⟩ := List.mem_map.mp hy
      have e2 := congrArg f e
      rw [hf, hf, ((ker k1).mp ((M3 k1).mp h1)).2, ((ker k2).mp ((M3 k2).mp h2)).2, Nat.xor_zero, Nat.xor_zero, (hs a ((M2 a).mp ha)).2, (hs b ((M2 b).mp hb)).2] at e2
      exact ne e2
  · rw [M1, List.mem_flatMap]
    constructor
    · intro hx
      have hv : span us (f x) := (im _).mpr ⟨x, hx, rfl⟩
      refine ⟨f x, (M2 _).mpr hv, List.mem_map.mpr ⟨sec (f x) ^^^ x, (M3 _).mpr ((ker _).mpr ⟨span_xor (hs _ hv).1 hx, ?_⟩), ?_⟩⟩
      · rw [hf, (hs _ hv).2, Nat.xor_self]
      · rw [← Nat.xor_assoc, Nat.xor_self, Nat.zero_xor]
    · rintro ⟨v, hv, hx⟩
      obtain ⟨k, hk, rfl⟩ := List.mem_map.mp hx
      exact span_xor (hs v ((M2 v).mp hv)).1 ((ker k).mp ((M3 k).mp hk)).1
/-! ### places -/
theorem linF_shl (n : Nat) : LinF fun w => w <<< n := fun a b => Nat.shiftLeft_xor_distrib
theorem linF_and (m : Nat) : LinF fun w => w &&& m := fun a b => Nat.and_xor_distrib_right
theorem linF_id : LinF fun w => w := fun a b => rfl
theorem linF_xor {f g : Nat → Nat} (hf : LinF f) (hg : LinF g) : LinF fun w => f w ^^^ g w := fun a b => by
  show f (a ^^^ b) ^^^ g (a ^^^ b) = _
  rw [hf, hg]
  apply Nat.eq_of_testBit_eq
  intro i
  simp only [Nat.testBit_xor]
  cases (f a).testBit i <;> cases (f b).testBit i <;> cases (g a).testBit i <;> cases (g b).testBit i <;> rfl
theorem linF_comp {f g : Nat → Nat} (hf : LinF f) (hg : LinF g) : LinF fun w => f (g w) := fun a b => by
  show f (g (a ^^^ b)) = _
  rw [hg, hf]
theorem bit_hi {w n i : Nat} (h : w < 2 ^ n) (k : n ≤ i) : w.testBit i = false := Nat.testBit_lt_two_pow (Nat.lt_of_lt_of_le h (Nat.pow_le_pow_right (by decide) k))
theorem or_xor {h w n : Nat} (k : w < 2 ^ n) : (h <<< n) ||| w = (h <<< n) ^^^ w := by
  apply Nat.eq_of_testBit_eq
  intro i
  rw [Nat.testBit_or, Nat.testBit_xor, Nat.testBit_shiftLeft]
  rcases Nat.lt_or_ge i n with l | l
  · rw [show decide (i ≥ n) = false from decide_eq_false (by omega), Bool.false_and, Bool.false_or, Bool.false_xor]
  · rw [bit_hi k l, Bool.or_false, Bool.xor_false]
theorem shl_small {h n : Nat} (k : h <<< n < 2 ^ n) : h = 0 := by
  rw [Nat.shiftLeft_eq] at k
  rcases Nat.eq_zero_or_pos h with e | e
  · exact e
  · have := Nat.mul_le_mul_right (2 ^ n) e
    omega
theorem xor_zero_iff {a b : Nat} (h : a ^^^ b = 0) : a = b := by
  have := congrArg (· ^^^ b) h
  simpa [xor_cancel] using this
/-- words below n, whose shifted image vanishes -/
theorem two_floors {f : Nat → Nat} (hf : LinF f) {A : List Nat} {n : Nat} (hA : ∀ a ∈ A, a < 2 ^ n) (v : Nat) :
    (span (A.map fun a => ((f a) <<< n) ||| a) v ∧ v < 2 ^ n) ↔ span A v ∧ f v = 0 := by
  have e : (A.map fun a => ((f a) <<< n) ||| a) = A.map fun a => ((f a) <<< n) ^^^ a := List.map_congr_left fun a ha => or_xor (hA a ha)
  rw [e, span_map (linF_xor (linF_comp (linF_shl n) hf) linF_id)]
  constructor
  · rintro ⟨⟨a, ha, rfl⟩, lt⟩
    have la := span_lt hA ha
    have : (f a) <<< n < 2 ^ n := by
      have := Nat.xor_lt_two_pow lt la
      rwa [xor_cancel] at this
    have z := shl_small this
    rw [z, Nat.zero_shiftLeft, Nat.zero_xor]
    exact ⟨ha, z⟩
  · rintro ⟨h, z⟩
    refine ⟨⟨v, h, ?_⟩, span_lt hA h⟩
    show v = ((f v) <<< n) ^^^ v
    rw [z, Nat.zero_shiftLeft, Nat.zero_xor]
/-- what is common -/
noncomputable def common (n : Nat) (A B : List Nat) : List Nat := (bas ((A.map fun w => (w <<< n) ||| w) ++ B.map fun w => w <<< n)).filter fun w => decide (w < 2 ^ n)
theorem common_span {n : Nat} {A B : List Nat} (hA : ∀ a ∈ A, a < 2 ^ n) (v : Nat) : span (common n A B) v ↔ span A v ∧ span B v := by
  unfold common
  rw [low_span (bas_plain _), bas_span]
  have e : (A.map fun a => (a <<< n) ||| a) = A.map fun a => (a <<< n) ^^^ a := List.map_congr_left fun a ha => or_xor (hA a ha)
  rw [e, span_append]
  have l1 := linF_xor (linF_shl n) linF_id
  constructor
  · rintro ⟨⟨x, y, hx, hy, rfl⟩, lt⟩
    obtain ⟨a, ha, rfl⟩ := (span_map l1).mp hx
    obtain ⟨b, hb, rfl⟩ := (span_map (linF_shl n)).mp hy
    have la := span_lt hA ha
    have q : ((a <<< n) ^^^ a) ^^^ (b <<< n) = ((a ^^^ b) <<< n) ^^^ a := by
      rw [Nat.shiftLeft_xor_distrib]
      apply Nat.eq_of_testBit_eq
      intro i
      simp only [Nat.testBit_xor]
      cases (a <<< n).testBit i <;> cases a.testBit i <;> cases (b <<< n).testBit i <;> rfl
    have lt2 : ((a ^^^ b) <<< n) ^^^ a < 2 ^ n := q ▸ lt
    have : (a ^^^ b) <<< n < 2 ^ n := by
      have := Nat.xor_lt_two_pow lt2 la
      rwa [xor_cancel] at this
    have z := shl_small this
    show span A (((a <<< n) ^^^ a) ^^^ (b <<< n)) ∧ span B (((a <<< n) ^^^ a) ^^^ (b <<< n))
    rw [q, z, Nat.zero_shiftLeft, Nat.zero_xor]
    refine ⟨ha, ?_⟩
    rw [xor_zero_iff z]
    exact hb
  · rintro ⟨h1, h2⟩
    refine ⟨⟨(v <<< n) ^^^ v, v <<< n, (span_map l1).mpr ⟨v, h1, rfl⟩, (span_map (linF_shl n)).mpr ⟨v, h2, rfl⟩, ?_⟩, span_lt hA h1⟩
    rw [Nat.xor_comm (v <<< n), xor_cancel]
/-- sum and common room -/
theorem sum_common {n : Nat} {A B C : List Nat} (hA : ∀ a ∈ A, a < 2 ^ n) (hB : ∀ b ∈ B, b < 2 ^ n) (hC : ∀ v, span C v ↔ span A v ∧ span B v) : (bas (A ++ B)).length + (bas C).length = (bas A).length + (bas B).length := by
  -- the pairs (a, b) as (a << n) ^ b
  have hf : LinF fun w => w % 2 ^ n := fun a b => by
    apply Nat.eq_of_testBit_eq
    intro i
    simp only [Nat.testBit_xor, Nat.testBit_mod_two_pow]
    cases decide (i < n) <;> rfl
  have hg : LinF fun w => w >>> n := fun a b => Nat.shiftRight_xor_distrib
  have up : ∀ {a b : Nat}, b < 2 ^ n → ((a <<< n) ^^^ b) >>> n = a := fun {a b} hb => by
    apply Nat.eq_of_testBit_eq
    intro i
    rw [Nat.testBit_shiftRight, Nat.testBit_xor, Nat.testBit_shiftLeft, bit_hi hb (by omega), Bool.xor_false, show decide (n + i ≥ n) = true from decide_eq_true (by omega), Bool.true_and, Nat.add_sub_cancel_left]
  have dn : ∀ {a b : Nat}, b < 2 ^ n → ((a <<< n) ^^^ b) % 2 ^ n = b := fun {a b} hb => by
    apply Nat.eq_of_testBit_eq
    intro i
    rw [Nat.testBit_mod_two_pow, Nat.testBit_xor, Nat.testBit_shiftLeft]
    rcases Nat.lt_or_ge i n with l | l
    · rw [show decide (i < n) = true from decide_eq_true l, show decide (i ≥ n) = false from decide_eq_false (by omega), Bool.false_and, Bool.false_xor, Bool.true_and]
    · rw [bit_hi hb l, show decide (i < n) = false from decide_eq_false (by omega), Bool.false_and]
  have D : ∀ v, span ((A.map fun w => w <<< n) ++ B) v ↔ ∃ a b, span A a ∧ span B b ∧ v = (a <<< n) ^^^ b := fun v => by
    rw [span_append]
    constructor
    · rintro ⟨x, b, hx, hb, rfl⟩
      obtain ⟨a, ha, rfl⟩ := (span_map (linF_shl n)).mp hx
      exact ⟨a, b, ha, hb, rfl⟩
    · rintro ⟨a, b, ha, hb, rfl⟩
      exact ⟨a <<< n, b, (span_map (linF_shl n)).mpr ⟨a, ha, rfl⟩, hb, rfl⟩
  have r1 := rank_null (ws := (A.map fun w => w <<< n) ++ B) (us := A) (ks := B) hg
    (fun v => by
      constructor
      · exact fun h => ⟨v <<< n, (D _).mpr ⟨v, 0, h, span_zero B, (Nat.xor_zero _).symm⟩, by have := up (a := v) (Nat.two_pow_pos n); rw [Nat.xor_zero] at this; exact this.symm⟩
      · rintro ⟨u, hu, rfl⟩
        obtain ⟨a, b, ha, hb, rfl⟩ := (D u).mp hu
        rw [up (span_lt hB hb)]
        exact ha)
    (fun v => by
      constructor
      · intro h
        have lt := span_lt hB h
        refine ⟨(D v).mpr ⟨0, v, span_zero A, h, by rw [Nat.zero_shiftLeft, Nat.zero_xor]⟩, ?_⟩
        have := up (a := 0) lt
        rwa [Nat.zero_shiftLeft, Nat.zero_xor] at this
      · rintro ⟨h, z⟩
        obtain ⟨a, b, ha, hb, rfl⟩ := (D v).mp h
        have z2 : ((a <<< n) ^^^ b) >>> n = 0 := z
        rw [up (span_lt hB hb)] at z2
        subst z2
        rw [Nat.zero_shiftLeft, Nat.zero_xor]
        exact hb)
  have hs : LinF fun w => (w >>> n) ^^^ (w % 2 ^ n) := linF_xor hg hf
  have r2 := rank_null (ws := (A.map fun w => w <<< n) ++ B) (us := A ++ B) (ks := C.map fun w => (w <<< n) ^^^ w) hs
    (fun v => by
      rw [span_append]
      constructor
      · rintro ⟨a, b, ha, hb, rfl⟩
        refine ⟨(a <<< n) ^^^ b, (D _).mpr ⟨a, b, ha, hb, rfl⟩, ?_⟩
        show a ^^^ b = (((a <<< n) ^^^ b) >>> n) ^^^ (((a <<< n) ^^^ b) % 2 ^ n)
        rw [up (span_lt hB hb), dn (span_lt hB hb)]
      · rintro ⟨u, hu, rfl⟩
        obtain ⟨a, b, ha, hb, rfl⟩ := (D u).mp hu
        refine ⟨a, b, ha, hb, ?_⟩
        show (((a <<< n) ^^^ b) >>> n) ^^^ (((a <<< n) ^^^ b) % 2 ^ n) = a ^^^ b
        rw [up (span_lt hB hb), dn (span_lt hB hb)])
    (fun v => by
      rw [span_map (linF_xor (linF_shl n) linF_id)]
      constructor
      · rintro ⟨a, ha, rfl⟩
        obtain ⟨h1, h2⟩ := (hC a).mp ha
        refine ⟨(D _).mpr ⟨a, a, h1, h2, rfl⟩, ?_⟩
        show (((a <<< n) ^^^ a) >>> n) ^^^ (((a <<< n) ^^^ a) % 2 ^ n) = 0
        rw [up (span_lt hB h2), dn (span_lt hB h2), Nat.xor_self]
      · rintro ⟨h, z⟩
        obtain ⟨a, b, ha, hb, rfl⟩ := (D v).mp h
        have z2 : (((a <<< n) ^^^ b) >>> n) ^^^ (((a <<< n) ^^^ b) % 2 ^ n) = 0 := z
        rw [up (span_lt hB hb), dn (span_lt hB hb)] at z2
        have e := xor_zero_iff z2
        subst e
        exact ⟨a, (hC a).mpr ⟨ha, hb⟩, rfl⟩)
  have r3 := dim_inj (ws := C) (us := C.map fun w => (w <<< n) ^^^ w) (fun v => span_map (linF_xor (linF_shl n) linF_id)) fun a b ha hb e => by
    have la := span_lt hB ((hC a).mp ha).2
    have lb := span_lt hB ((hC b).mp hb).2
    have : ((a <<< n) ^^^ a) % 2 ^ n = ((b <<< n) ^^^ b) % 2 ^ n := congrArg (· % 2 ^ n) e
    rwa [dn la, dn lb] at this
  omega
end Vf
set_option Elab.async false
set_option linter.all false
set_option maxRecDepth 100000
set_option maxHeartbeats 4000000
namespace Vf
open PySem PySem.Spec PyProof.Rows L2
theorem get_vs {l : List Nat} {i : Nat} {x : V} (h : (vs l)[i]? = some x) : ∃ j, l[i]? = some j ∧ x = .int (j : Nat) := by
  unfold vs at h
  rw [List.getElem?_map] at h
  cases e : l[i]? with
  | none => rw [e] at h; cases h
  | some j => rw [e] at h; exact ⟨j, rfl, (Option.some.inj h).symm⟩
theorem len_vs (l : List Nat) : (vs l).length = l.length := by unfold vs; rw [List.length_map]
theorem yes_ {σ2 : L2.St} {H2 : Hp} {R : Bool → Hp → Prop} (h : R true H2) : tYes σ2 H2 R := h
theorem and_pow (r i : Nat) : decide (r &&& 2 ^ i ≠ 0) = r.testBit i := by
  cases h : r.testBit i
  · have e : r &&& 2 ^ i = 0 := by
      apply Nat.eq_of_testBit_eq
      intro j
      rw [Nat.testBit_and, Nat.testBit_two_pow, Nat.zero_testBit]
      by_cases k : i = j
      · subst k
        rw [h, Bool.false_and]
      · rw [decide_eq_false k, Bool.and_false]
    rw [e]
    rfl
  · have e : r &&& 2 ^ i ≠ 0 := fun z => by
      have t : (r &&& 2 ^ i).testBit i = true := by
        rw [Nat.testBit_and, Nat.testBit_two_pow, h, decide_eq_true rfl]
        rfl
      rw [z, Nat.zero_testBit] at t
      cases t
    exact decide_eq_true e
theorem vs_append (a b : List Nat) : vs (a ++ b) = vs a ++ vs b := by unfold vs; rw [List.map_append]
/-- a sorted list of ints that stands for naturals -/
theorem back_vs {ns : List Int} {l : List Nat} (h : ns.Perm (l.map fun i : Nat => (i : Int))) : ∃ l2 : List Nat, ns = (l2.map fun i : Nat => (i : Int)) ∧ l2.Perm l := by
  have p := h.map V.int
  rw [← vs_int] at p
  obtain ⟨l2, e, p2⟩ := perm_vs p
  refine ⟨l2, ?_, p2⟩
  rw [vs_int] at e
  exact (List.map_inj_right (fun a b z => by injection z)).mp e
end Vf
namespace Vf
theorem take_span {ws : List Nat} {i c : Nat} (h : ws[i]? = some c) {B : List Nat} (hB : Piv B) (e : ∀ v, span B v ↔ span (ws.take i) v) (v : Nat) : span (restOf c B :: B) v ↔ span (ws.take (i + 1)) v := by
  rw [rest_room hB, List.take_add_one, h]
  show span (c :: B) v ↔ span (ws.take i ++ [c]) v
  rw [span_perm (List.perm_append_comm (l₁ := ws.take i) (l₂ := [c]))]
  show span (c :: B) v ↔ span (c :: ws.take i) v
  rw [span_cons, span_cons, e, e]
theorem gt_of_ge {D : List Nat} (h : Piv D) (g : D.Pairwise (· ≥ ·)) : D.Pairwise (· > ·) := by
  refine (List.Pairwise.and g (piv_nodup h)).imp fun k => ?_
  obtain ⟨a, b⟩ := k
  omega
end Vf
namespace Vf
open PySem PySem.Spec PyProof.Rows L2
theorem eqv_vs : ∀ (B D : List Nat), PyData.eqvAll ((vs B).map toD) ((vs D).map toD) = decide (B = D)
  | [], [] => rfl
  | [], y :: D => rfl
  | x :: B, [] => rfl
  | x :: B, y :: D => by
    have e := eqv_vs B D
    show (PyData.eqv (.int (x : Int)) (.int (y : Int)) && PyData.eqvAll ((vs B).map toD) ((vs D).map toD)) = _
    rw [e, PyData.eqv]
    by_cases h : x = y
    · subst h
      by_cases k : B = D
      · subst k
        simp
      · simp [k]
    · have h2 : ¬ (x : Int) = (y : Int) := by omega
      simp [h, h2]
theorem eqD_vs {K : PySem.W.Frag} {H : Hp} {Q : VK} {a b : Addr} {B D : List Nat} (ha : SqL K H a (vs B)) (hb : SqL K H b (vs D)) (q : Q (.bl (decide (B = D))) H) : rEqD K (.ref a) (.ref b) H Q := by
  refine ⟨_, _, .lst ha (dp_all (flat_vs B)), .lst hb (dp_all (flat_vs D)), shaped_flat (flat_vs B), shaped_flat (flat_vs D), ?_⟩
  rw [PyData.eqv, eqv_vs]
  exact q
theorem neD_vs {K : PySem.W.Frag} {H : Hp} {Q : VK} {a b : Addr} {B D : List Nat} (ha : SqL K H a (vs B)) (hb : SqL K H b (vs D)) (q : Q (.bl (!decide (B = D))) H) : rNeD K (.ref a) (.ref b) H Q := by
  refine ⟨_, _, .lst ha (dp_all (flat_vs B)), .lst hb (dp_all (flat_vs D)), shaped_flat (flat_vs B), shaped_flat (flat_vs D), ?_⟩
  rw [PyData.eqv, eqv_vs]
  exact q
theorem txt_len {xs : List V} (h : ∀ x ∈ xs, small x = true) : (txt xs).length ≤ 1925 * xs.length + 2 := by
  obtain ⟨h1, h2, h3⟩ := shown_all h
  unfold txt
  rw [PyData.shown]
  unfold listText
  rw [strLen_append]
  have h4 := text_len (PyData.shownAll (xs.map toD)) 0 "["
  have e1 : (("[" : String) : Str).length = 1 := rfl
  have e2 : (("]" : String) : Str).length = 1 := rfl
  omega
theorem small_vs {B : List Nat} (h : ∀ c ∈ B, c < 2 ^ 24) : ∀ x ∈ vs B, small x = true := fun x hx => by
  obtain ⟨c, hc, rfl⟩ := List.mem_map.mp hx
  exact small_nat (h c hc)
/-! ### a room as an object -/
theorem nb_ : ¬ (("_places" : Str) = "_basis") := by decide +kernel
def rf (n : Nat) (b : Addr) : List (Str × V) := putF "_basis" (.ref b) (putF "_places" (.int (n : Int)) [])
theorem rf_places (n : Nat) (b : Addr) : (rf n b).lookup ("_places" : Str) = some (.int (n : Int)) := by
  unfold rf
  rw [lookup_putF, if_neg nb_, lookup_putF, if_pos rfl]
theorem rf_basis (n : Nat) (b : Addr) : (rf n b).lookup ("_basis" : Str) = some (.ref b) := by
  unfold rf
  rw [lookup_putF, if_pos rfl]
theorem rf_no (n : Nat) (b : Addr) {m : Str} (h1 : ¬ m = "_basis") (h2 : ¬ m = "_places") : (rf n b).lookup m = none := by
  unfold rf
  rw [lookup_putF, if_neg h1, lookup_putF, if_neg h2]
  all_goals rfl
/-- the room of n places with the plain basis B stands at a -/
def RoomAt (C : Addr) (H : Hp) (a : Addr) (n : Nat) (B : List Nat) : Prop :=
  ∃ dx b, H a = some (.ins C dx (rf n b)) ∧ H b = some (.lst (vs B)) ∧ Plain B ∧ 1 ≤ n ∧ n ≤ 24 ∧ ∀ c ∈ B, c < 2 ^ n
/-- a room that was made anew: its list stood nowhere -/
def RoomNew (C : Addr) (H0 H : Hp) (a : Addr) (n : Nat) (B : List Nat) : Prop :=
  ∃ dx b, H a = some (.ins C dx (rf n b)) ∧ H b = some (.lst (vs B)) ∧ Plain B ∧ 1 ≤ n ∧ n ≤ 24 ∧ (∀ c ∈ B, c < 2 ^ n) ∧ H0 b = none
/-- a room whose list is not the one at p -/
def RoomP (C : Addr) (H : Hp) (a : Addr) (n : Nat) (B : List Nat) (p : Addr) : Prop :=
  ∃ dx b, H a = some (.ins C dx (rf n b)) ∧ H b = some (.lst (vs B)) ∧ Plain B ∧ 1 ≤ n ∧ n ≤ 24 ∧ (∀ c ∈ B, c < 2 ^ n) ∧ b ≠ p
theorem RoomP.at {C : Addr} {H : Hp} {a : Addr} {n : Nat} {B : List Nat} {p : Addr} (h : RoomP C H a n B p) : RoomAt C H a n B := by
  obtain ⟨dx, b, e1, e2, a1, a2, a3, a4, _⟩ := h
  exact ⟨dx, b, e1, e2, a1, a2, a3, a4⟩
theorem RoomNew.far {C : Addr} {H0 H : Hp} {a : Addr} {n : Nat} {B : List Nat} {p : Addr} (h : RoomNew C H0 H a n B) (hp : ∃ o, H0 p = some o) : RoomP C H a n B p := by
  obtain ⟨dx, b, e1, e2, a1, a2, a3, a4, n0⟩ := h
  obtain ⟨o, ho⟩ := hp
  exact ⟨dx, b, e1, e2, a1, a2, a3, a4, (ne_of_none ho n0).symm⟩
theorem RoomP.same {C : Addr} {H H' : Hp} {a : Addr} {n : Nat} {B : List Nat} {p : Addr} (s : Same H H') (h : RoomP C H a n B p) : RoomP C H' a n B p := by
  obtain ⟨dx, b, e1, e2, r⟩ := h
  exact ⟨dx, b, s _ _ e1, s _ _ e2, r⟩
theorem RoomP.but {C : Addr} {H H' : Hp} {a : Addr} {n : Nat} {B : List Nat} {p : Addr} (s : But p H H') (hp : Pot H p) (h : RoomP C H a n B p) : RoomP C H' a n B p := by
  obtain ⟨dx, b, e1, e2, a1, a2, a3, a4, nb⟩ := h
  have na : a ≠ p := by
    rintro rfl
    obtain ⟨x, y, e, _⟩ := hp
    rw [e1] at e
    cases e
  exact ⟨dx, b, s _ _ na e1, s _ _ nb e2, a1, a2, a3, a4, nb⟩
theorem RoomAt.same {C : Addr} {H H' : Hp} {a : Addr} {n : Nat} {B : List Nat} (s : Same H H') (h : RoomAt C H a n B) : RoomAt C H' a n B := by
  obtain ⟨dx, b, e1, e2, r⟩ := h
  exact ⟨dx, b, s _ _ e1, s _ _ e2, r⟩
theorem RoomAt.but {C : Addr} {H H' : Hp} {a p : Addr} {n : Nat} {B : List Nat} (s : But p H H') (hp : Pot H p) (h : RoomAt C H a n B) (hne : ∀ b, H b = some (.lst (vs B)) → b ≠ p) : RoomAt C H' a n B := by
  obtain ⟨dx, b, e1, e2, r⟩ := h
  have na : a ≠ p := by
    rintro rfl
    obtain ⟨x, y, e, _⟩ := hp
    rw [e1] at e
    cases e
  exact ⟨dx, b, s _ _ na e1, s _ _ (hne b e2) e2, r⟩
theorem lt24 {n c : Nat} (h : n ≤ 24) (k : c < 2 ^ n) : c < 2 ^ 24 := Nat.lt_of_lt_of_le k (Nat.pow_le_pow_right (by decide) h)
/-- what is known of the class -/
structure RKn (K : PySem.W.Frag) (C : Addr) : Prop where
  cl : Cls K C
  nP : NoAttr K C "_places"
  nB : NoAttr K C "_basis"
  ca : PySem.W.findIn K (.ref C) "__class__" = some (some (.builtin "object.__class__"))
  cn : PySem.W.specialIn K (.builtin "object.__class__") "__get__" = some (some (.builtin "getset_descriptor.__get__"))
  ct : PySem.W.takesIn K (.builtin "object.__class__") = some true
  cm : PySem.W.mroIn K C (.type "object") = some true
end Vf
namespace Vf
open PySem PySem.Spec PyProof.Rows L2
theorem inV_vs (v : Nat) (l : List Nat) : inV (.int (v : Int)) (vs l) = decide (v ∈ l) := by
  unfold inV vs
  rw [List.any_map]
  rw [Bool.eq_iff_iff, List.any_eq_true, decide_eq_true_iff]
  constructor
  · rintro ⟨x, hx, e⟩
    have e2 : (x : Int) = (v : Int) := beq_iff_eq.mp e
    have : x = v := by omega
    exact this ▸ hx
  · intro h
    exact ⟨v, h, beq_self_eq_true _⟩
theorem flatV_vs (l : List Nat) : (vs l).all flatV = true := by
  rw [List.all_eq_true]
  intro x hx
  obtain ⟨i, _, rfl⟩ := List.mem_map.mp hx
  rfl
theorem up_eq {l m : List Nat} (hl : l.Pairwise (· < ·)) (hm : m.Pairwise (· < ·)) (h : ∀ x, x ∈ l ↔ x ∈ m) : l = m := by
  have r : l.reverse = m.reverse := asc_eq (List.pairwise_reverse.mpr hl) (List.pairwise_reverse.mpr hm) fun x => by
    rw [List.mem_reverse, List.mem_reverse, h]
  have := congrArg List.reverse r
  simpa using this
end Vf
namespace Vf
open PySem PySem.Spec PyProof.Rows L2
/-! ### str of data -/
/-! ### the rooms made, compared -/
end Vf
namespace Vf
open PySem PySem.Spec PyProof.Rows L2
end Vf
namespace Vf
open PySem PySem.Spec PyProof.Rows L2
theorem all_true (n : Nat) : (List.replicate n true).all id = true := by
  rw [List.all_eq_true]
  intro x hx
  rw [(List.mem_replicate.mp hx).2]
  rfl
end Vf
set_option Elab.async false
set_option linter.all false
set_option maxRecDepth 100000
set_option maxHeartbeats 4000000
set_option pp.maxSteps 400
namespace Vf
open PySem PySem.Spec PyProof.Rows L2
/-! ### worlds: what a step keeps -/
/-- without what stands at p -/
def del (p : Addr) (H : Hp) : Hp := fun b => if b = p then none else H b
theorem del_ne {p b : Addr} {H : Hp} (h : b ≠ p) : del p H b = H b := if_neg h
theorem del_same {p : Addr} {H : Hp} : del p H p = none := if_pos rfl
theorem del_some {p b : Addr} {H : Hp} {o : HO} (h : del p H b = some o) : b ≠ p ∧ H b = some o := by
  by_cases e : b = p
  · subst e
    rw [del_same] at h
    cases h
  · exact ⟨e, (del_ne e).symm.trans h⟩
/-- something is told at p, and no code object -/
def NoExt (H : Hp) (p : Addr) : Prop := ∃ o, H p = some o ∧ ∀ φ, o ≠ .ext φ
theorem plain_lst {H : Hp} {p : Addr} {xs : List V} (h : H p = some (.lst xs)) : NoExt H p := ⟨_, h, fun φ z => nomatch z⟩
theorem plain_dK {H : Hp} {p : Addr} {kvs : List (Key × V)} (h : H p = some (.dK kvs)) : NoExt H p := ⟨_, h, fun φ z => nomatch z⟩
structure Wd where
  L : Hp → Hp → Prop
  inv : Hp → Prop
  F : Addr → Prop
  refl : ∀ H, L H H
  trans : ∀ {H H1 H2 : Hp}, L H H1 → L H1 H2 → L H H2
  same : ∀ {H H' : Hp}, Same H H' → L H H'
  step : ∀ {H H' : Hp}, L H H' → inv H → inv H'
  keep : ∀ {H H' : Hp} {a : Addr} {o : HO}, F a → L H H' → H a = some o → H' a = some o
  fresh : ∀ {H : Hp} {a : Addr}, inv H → H a = none → F a
  insF : ∀ {H : Hp} {a C dx : Addr} {fs : List (Str × V)}, inv H → H a = some (.ins C dx fs) → F a
  putX : ∀ {H H' : Hp} {a : Addr} {o : HO}, inv H → L H H' → H a = none → (H' a = none ∨ NoExt H' a) → L H (upd H' a o)
  delX : ∀ {H H' : Hp} {p : Addr}, F p → L H H' → (NoExt H p ∨ NoExt H' p) → L (del p H) (del p H')
  delJ : ∀ {H : Hp} {p : Addr}, F p → inv H → NoExt H p → inv (del p H)
theorem Wd.put0 (W : Wd) {H : Hp} {a : Addr} {o : HO} (iv : W.inv H) (n : H a = none) : W.L H (upd H a o) := W.putX iv (W.refl H) n (.inl n)
theorem Wd.put (W : Wd) {H H' : Hp} {a : Addr} {o : HO} (iv : W.inv H) (l : W.L H H') (n : H a = none) (k : H' a = none ∨ NoExt H' a := by first | exact Or.inl (by assumption) | exact Or.inr (plain_lst (by assumption))) : W.L H (upd H' a o) := W.putX iv l n k
theorem Wd.delL (W : Wd) {H H' : Hp} {p : Addr} (f : W.F p) (l : W.L H H') (k : NoExt H p ∨ NoExt H' p := by first | exact Or.inl (plain_lst (by assumption)) | exact Or.inl (plain_dK (by assumption)) | exact Or.inr (plain_lst (by assumption))) : W.L (del p H) (del p H') := W.delX f l k
theorem Wd.delI (W : Wd) {H : Hp} {p : Addr} (f : W.F p) (iv : W.inv H) (k : NoExt H p := by first | exact plain_lst (by assumption) | exact plain_dK (by assumption)) : W.inv (del p H) := W.delJ f iv k
/-- no thing changes -/
def plainW : Wd where
  L := Same
  inv _ := True
  F _ := True
  refl := Same.refl
  trans := Same.trans
  same h := h
  step _ h := h
  keep _ l h := l _ _ h
  fresh _ _ := trivial
  insF _ _ := trivial
  putX {H H' a o} _ l n _ := fun b u e => by
    rw [upd_ne (ne_of_none e n)]
    exact l _ _ e
  delX {H H' p} _ l _ := fun b u e => by
    obtain ⟨n, e⟩ := del_some e
    rw [del_ne n]
    exact l _ _ e
  delJ _ _ _ := trivial
theorem del_pot {H : Hp} {p q : Addr} (n : p ≠ q) (h : Pot H q) : Pot (del p H) q := by
  obtain ⟨x, y, e, k⟩ := h
  exact ⟨x, y, by rw [del_ne (Ne.symm n)]; exact e, k⟩
theorem pot_del {H : Hp} {p q : Addr} (n : p ≠ q) (h : Pot (del p H) q) : Pot H q := by
  obtain ⟨x, y, e, k⟩ := h
  exact ⟨x, y, by rw [← e, del_ne (Ne.symm n)], k⟩
/-- the pot at p alone changes, and stays a pot -/
def potW (p : Addr) : Wd where
  L H H' := But p H H' ∧ (Pot H p → Pot H' p)
  inv H := Pot H p
  F a := a ≠ p
  refl H := ⟨But.refl p H, id⟩
  trans a b := ⟨a.1.trans b.1, fun h => b.2 (a.2 h)⟩
  same s := ⟨But.of s, fun h => h.same s⟩
  step l h := l.2 h
  keep n l h := l.1 _ _ n h
  fresh h n := by
    rintro rfl
    obtain ⟨o, e⟩ := h.some
    rw [n] at e
    cases e
  insF h e := by
    rintro rfl
    obtain ⟨x, y, e2, _⟩ := h
    rw [e] at e2
    cases e2
  putX {H H' a o} h l n _ := ⟨l.1.new n, fun k => (l.2 k).upd (by
    rintro rfl
    obtain ⟨o, e⟩ := h.some
    rw [n] at e
    cases e)⟩
  delX {H H' q} n l _ := ⟨fun b u m e => by
    obtain ⟨n2, e⟩ := del_some e
    rw [del_ne n2]
    exact l.1 _ _ m e, fun h => del_pot n (l.2 (pot_del n h))⟩
  delJ n h _ := del_pot n h
structure IsPot (W : Wd) (p : Addr) : Prop where
  has : ∀ {H}, W.inv H → Pot H p
  ne : ∀ {a}, W.F a → a ≠ p
  put : ∀ {H H'}, But p H H' → Pot H' p → W.L H H'
theorem potW_is (p : Addr) : IsPot (potW p) p := ⟨fun h => h, fun h => h, fun b h => ⟨b, fun _ => h⟩⟩
/-- a meaning: what a value stands for, kept by all steps -/
structure Dn (W : Wd) where
  ok : V → Hp → Prop
  st : ∀ {v : V} {H H' : Hp}, W.L H H' → ok v H → ok v H'
variable {W : Wd}
def OkL : List (Dn W) → List V → Hp → Prop
  | [], [], _ => True
  | d :: ds, v :: vs, H => d.ok v H ∧ OkL ds vs H
  | [], _ :: _, _ => False
  | _ :: _, [], _ => False
/-- what is known of the slots: so many, and the meanings of some, the newest first -/
structure EnvT (W : Wd) where
  n : Nat
  l : List (Nat × Dn W)
def getE : List (Nat × Dn W) → Nat → Option (Dn W)
  | [], _ => none
  | (j, d) :: r, i => bif Nat.beq j i then some d else getE r i
def EnvT.get (Ds : EnvT W) (i : Nat) : Option (Dn W) := getE Ds.l i
def EnvT.set (Ds : EnvT W) (i : Nat) : Option (Dn W) → EnvT W
  | some d => ⟨Ds.n, (i, d) :: Ds.l⟩
  | none => ⟨Ds.n, Ds.l.filter fun p => !(Nat.beq p.1 i)⟩
def EnvL (Ds : EnvT W) (σ : L2.St) (H : Hp) : Prop := σ.length = Ds.n ∧ ∀ i d, Ds.get i = some d → i < σ.length → ∃ v, σ[i]? = some (some v) ∧ d.ok v H
theorem OkL.st {H H' : Hp} (l : W.L H H') : ∀ {ds : List (Dn W)} {vs : List V}, OkL ds vs H → OkL ds vs H'
  | [], [], _ => trivial
  | d :: ds, v :: vs, h => ⟨d.st l h.1, OkL.st l h.2⟩
  | [], _ :: _, h => h.elim
  | _ :: _, [], h => h.elim
theorem OkL.length {H : Hp} : ∀ {ds : List (Dn W)} {vs : List V}, OkL ds vs H → vs.length = ds.length
  | [], [], _ => rfl
  | d :: ds, v :: vs, h => congrArg (· + 1) (OkL.length h.2)
  | [], _ :: _, h => h.elim
  | _ :: _, [], h => h.elim
theorem OkL.at {H : Hp} : ∀ {ds : List (Dn W)} {vs : List V} {k : Nat} {x : V}, OkL ds vs H → vs[k]? = some x → ∃ d, d ∈ ds ∧ d.ok x H
  | [], [], _, _, _, e => by simp at e
  | d :: ds, v :: vs, 0, x, h, e => by
    have : v = x := by simpa using e
    subst this
    exact ⟨d, List.mem_cons_self, h.1⟩
  | d :: ds, v :: vs, k + 1, x, h, e => by
    obtain ⟨d', m, r⟩ := OkL.at (ds := ds) (vs := vs) (k := k) h.2 (by simpa using e)
    exact ⟨d', List.mem_cons_of_mem _ m, r⟩
  | [], _ :: _, _, _, h, _ => h.elim
  | _ :: _, [], _, _, h, _ => h.elim
theorem EnvL.st {H H' : Hp} (l : W.L H H') {Ds : EnvT W} {σ : L2.St} (h : EnvL Ds σ H) : EnvL Ds σ H' := ⟨h.1, fun i d e lt => by
  obtain ⟨v, e1, o⟩ := h.2 i d e lt
  exact ⟨v, e1, d.st l o⟩⟩
theorem EnvL.get {H : Hp} {d : Dn W} {Ds : EnvT W} {σ : L2.St} {i : Nat} (h : EnvL Ds σ H) (e : Ds.get i = some d) (hi : Nat.ble (i + 1) Ds.n = true) : ∃ v, σ[i]? = some (some v) ∧ d.ok v H := h.2 i d e (by rw [h.1]; exact Nat.le_of_ble_eq_true hi)
theorem EnvL.set {H : Hp} {d : Dn W} {v : V} (hv : d.ok v H) {Ds : EnvT W} {σ : L2.St} {i : Nat} (h : EnvL Ds σ H) : EnvL (Ds.set i (some d)) (σ.set i (some v)) H := by
  refine ⟨by rw [List.length_set]; exact h.1, fun j d' e lt => ?_⟩
  rw [List.length_set] at lt
  have e : (bif Nat.beq i j then some d else getE Ds.l j) = some d' := e
  by_cases k : i = j
  · subst k
    rw [Nat.beq_refl] at e
    have e : some d = some d' := e
    cases e
    exact ⟨v, by rw [List.getElem?_set_self lt], hv⟩
  · rw [show Nat.beq i j = false from Bool.eq_false_iff.mpr fun z => k (Nat.eq_of_beq_eq_true z)] at e
    obtain ⟨u, e1, o⟩ := h.2 j d' e lt
    exact ⟨u, by rw [List.getElem?_set_ne k]; exact e1, o⟩
theorem getE_filter {p : Nat × Dn W → Bool} : ∀ {l : List (Nat × Dn W)} {i : Nat} {d : Dn W}, getE (l.filter p) i = some d → (∀ x : Nat × Dn W, x.1 = i → p x = true) → getE l i = some d
  | [], _, _, e, _ => e
  | (j, c) :: l, i, d, e, h => by
    cases k : Nat.beq j i with
    | true =>
      have : p (j, c) = true := h _ (Nat.eq_of_beq_eq_true k)
      rw [List.filter_cons_of_pos this] at e
      have e : (bif Nat.beq j i then some c else getE (l.filter p) i) = some d := e
      rw [k] at e
      show (bif Nat.beq j i then some c else getE l i) = some d
      rw [k]
      exact e
    | false =>
      show (bif Nat.beq j i then some c else getE l i) = some d
      rw [k]
      cases q : p (j, c) with
      | true =>
        rw [List.filter_cons_of_pos q] at e
        have e : (bif Nat.beq j i then some c else getE (l.filter p) i) = some d := e
        rw [k] at e
        exact getE_filter (l := l) e h
      | false =>
        rw [List.filter_cons_of_neg (by simp [q])] at e
        exact getE_filter (l := l) e h
theorem getE_gone : ∀ {l : List (Nat × Dn W)} {i : Nat}, getE (l.filter fun p => !(Nat.beq p.1 i)) i = none
  | [], _ => rfl
  | (j, c) :: l, i => by
    cases k : Nat.beq j i with
    | true =>
      rw [List.filter_cons_of_neg (by simp [k])]
      exact getE_gone
    | false =>
      rw [List.filter_cons_of_pos (by simp [k])]
      show (bif Nat.beq j i then some c else _) = none
      rw [k]
      exact getE_gone (l := l)
theorem EnvL.dropS {H : Hp} {Ds : EnvT W} {σ : L2.St} {i : Nat} {s : Option V} (h : EnvL Ds σ H) : EnvL (Ds.set i none) (σ.set i s) H := by
  refine ⟨by rw [List.length_set]; exact h.1, fun j d e lt => ?_⟩
  rw [List.length_set] at lt
  have e : getE (Ds.l.filter fun p => !(Nat.beq p.1 i)) j = some d := e
  by_cases k : i = j
  · subst k
    rw [getE_gone] at e
    cases e
  · have e2 : getE Ds.l j = some d := getE_filter e fun x hx => by
      rw [hx, show Nat.beq j i = false from Bool.eq_false_iff.mpr fun z => k (Nat.eq_of_beq_eq_true z).symm]
      rfl
    obtain ⟨v, e1, o⟩ := h.2 j d e2 lt
    exact ⟨v, by rw [List.getElem?_set_ne k]; exact e1, o⟩
theorem EnvL.drop {H : Hp} {Ds : EnvT W} {σ : L2.St} {i : Nat} (h : EnvL Ds σ H) : EnvL (Ds.set i none) σ H := by
  refine ⟨h.1, fun j d e lt => ?_⟩
  have e : getE (Ds.l.filter fun p => !(Nat.beq p.1 i)) j = some d := e
  by_cases k : i = j
  · subst k
    rw [getE_gone] at e
    cases e
  · exact h.2 j d (getE_filter e fun x hx => by
      rw [hx, show Nat.beq j i = false from Bool.eq_false_iff.mpr fun z => k (Nat.eq_of_beq_eq_true z).symm]
      rfl) lt
def forget (Ds : EnvT W) : List Nat → EnvT W
  | [] => Ds
  | i :: is => (forget Ds is).set i none
theorem EnvL.forget {H : Hp} {Ds : EnvT W} {σ : L2.St} (h : EnvL Ds σ H) : ∀ is : List Nat, EnvL (Vf.forget Ds is) σ H
  | [] => h
  | i :: is => (EnvL.forget h is).drop
def envGo : Nat → List (Dn W) → List (Nat × Dn W)
  | _, [] => []
  | k, d :: ds => (k, d) :: envGo (k + 1) ds
def envOf (ds : List (Dn W)) (m : Nat) : EnvT W := ⟨ds.length + m, envGo 0 ds⟩
theorem envGo_get {H : Hp} : ∀ {ds : List (Dn W)} {vs : List V} {k i : Nat} {d : Dn W}, OkL ds vs H → getE (envGo k ds) i = some d → ∃ v, k ≤ i ∧ vs[i - k]? = some v ∧ d.ok v H
  | [], _, _, _, _, _, e => by cases e
  | d :: ds, v :: vs, k, i, d', ⟨o, r⟩, e => by
    have e : (bif Nat.beq k i then some d else getE (envGo (k + 1) ds) i) = some d' := e
    by_cases q : k = i
    · subst q
      rw [Nat.beq_refl] at e
      have e : some d = some d' := e
      cases e
      exact ⟨v, Nat.le_refl _, by rw [Nat.sub_self]; rfl, o⟩
    · rw [show Nat.beq k i = false from Bool.eq_false_iff.mpr fun z => q (Nat.eq_of_beq_eq_true z)] at e
      obtain ⟨u, h1, h2, h3⟩ := envGo_get (ds := ds) (vs := vs) r e
      refine ⟨u, by omega, ?_, h3⟩
      rw [show i - k = (i - (k + 1)) + 1 by omega]
      exact h2
  | _ :: _, [], _, _, _, o, _ => o.elim
theorem EnvL.start {H : Hp} {m : Nat} {ds : List (Dn W)} {vs : List V} (h : OkL ds vs H) : EnvL (envOf ds m) (vs.map some ++ List.replicate m none) H := by
  refine ⟨?_, fun i d e _ => ?_⟩
  · rw [List.length_append, List.length_map, List.length_replicate, h.length]
    rfl
  · obtain ⟨v, _, h2, h3⟩ := envGo_get h e
    rw [Nat.sub_zero] at h2
    refine ⟨v, ?_, h3⟩
    have lt : i < vs.length := (List.getElem?_eq_some_iff.mp h2).1
    rw [List.getElem?_append_left (by rw [List.length_map]; exact lt), List.getElem?_map, h2]
    rfl
/-! ### what readings mean -/
def EV (Ds : EnvT W) (te : TE) (d : Dn W) : Prop := ∀ (σ : L2.St) (H : Hp) (Q : VK), W.inv H → EnvL Ds σ H → (∀ v H', W.L H H' → d.ok v H' → Q v H') → te σ H Q
def AV (Ds : EnvT W) (ta : TA) (ds : List (Dn W)) : Prop := ∀ (σ : L2.St) (H : Hp) (Q : List V → Hp → Prop), W.inv H → EnvL Ds σ H → (∀ vs H', W.L H H' → OkL ds vs H' → Q vs H') → ta σ H Q
def AX {ι : Type} (Ds : EnvT W) (ta : TA) (P : ι → Prop) (ds : ι → List (Dn W)) : Prop := ∀ (σ : L2.St) (H : Hp) (Q : List V → Hp → Prop), W.inv H → EnvL Ds σ H → (∀ i vs H', P i → W.L H H' → OkL (ds i) vs H' → Q vs H') → ta σ H Q
def TV (Ds : EnvT W) (tt : TT) (b : Bool) : Prop := ∀ (σ : L2.St) (H : Hp) (R : Bool → Hp → Prop), W.inv H → EnvL Ds σ H → (∀ H', W.L H H' → R b H') → tt σ H R
/-- a test whose answer is any -/
def TX (Ds : EnvT W) (tt : TT) : Prop := ∀ (σ : L2.St) (H : Hp) (R : Bool → Hp → Prop), W.inv H → EnvL Ds σ H → (∀ b H', W.L H H' → R b H') → tt σ H R
def OpD (r : R2) (d1 d2 d : Dn W) : Prop := ∀ (x y : V) (H : Hp) (Q : VK), W.inv H → d1.ok x H → d2.ok y H → (∀ v H', W.L H H' → d.ok v H' → Q v H') → r x y H Q
def SpD (sp : Sp) (dvs : List V) (ds : List (Dn W)) (d : Dn W) : Prop := ∀ (vs : List V) (H : Hp) (Q : VK), W.inv H → OkL ds vs H → (∀ v H', W.L H H' → d.ok v H' → Q v H') → sp (vs ++ dvs) H Q E0
def CrD (r : List V → Hp → VK → Prop) (ds : List (Dn W)) (d : Dn W) : Prop := ∀ (vs : List V) (H : Hp) (Q : VK), W.inv H → OkL ds vs H → (∀ v H', W.L H H' → d.ok v H' → Q v H') → r vs H Q
def SV (Ds : EnvT W) (ts : TS) (d : Dn W) : Prop := ∀ (D : Ends) (σ : L2.St) (H : Hp), W.inv H → EnvL Ds σ H → (∀ v H', W.L H H' → d.ok v H' → D.rt v H') → ts D σ H
def NV (Ds : EnvT W) (ts : TS) (Es : EnvT W) : Prop := ∀ (D : Ends) (σ : L2.St) (H : Hp), W.inv H → EnvL Ds σ H → (∀ σ' H', W.L H H' → EnvL Es σ' H' → D.nx σ' H') → ts D σ H
/-! ### meanings -/
def dV (v0 : V) : Dn W := ⟨fun v _ => v = v0, fun _ h => h⟩
def dLst (xs : List V) : Dn W := ⟨fun v H => ∃ a, v = .ref a ∧ W.F a ∧ H a = some (.lst xs), fun l ⟨a, e, g, h⟩ => ⟨a, e, g, W.keep g l h⟩⟩
def dTup (xs : List V) : Dn W := ⟨fun v H => ∃ a, v = .ref a ∧ W.F a ∧ H a = some (.tup xs), fun l ⟨a, e, g, h⟩ => ⟨a, e, g, W.keep g l h⟩⟩
def dLD (ds : List (Dn W)) : Dn W := ⟨fun v H => ∃ a xs, v = .ref a ∧ W.F a ∧ H a = some (.lst xs) ∧ OkL ds xs H, fun l ⟨a, xs, e, g, h, k⟩ => ⟨a, xs, e, g, W.keep g l h, k.st l⟩⟩
def dTD (ds : List (Dn W)) : Dn W := ⟨fun v H => ∃ a xs, v = .ref a ∧ W.F a ∧ H a = some (.tup xs) ∧ OkL ds xs H, fun l ⟨a, xs, e, g, h, k⟩ => ⟨a, xs, e, g, W.keep g l h, k.st l⟩⟩
def dEx {ι : Type} (P : ι → Prop) (f : ι → Dn W) : Dn W := ⟨fun v H => ∃ i, P i ∧ (f i).ok v H, fun l ⟨i, p, h⟩ => ⟨i, p, (f i).st l h⟩⟩
/-- a room of n places with the plain basis B -/
structure RoomF (n : Nat) (B : List Nat) : Prop where
  pl : Plain B
  n1 : 1 ≤ n
  n24 : n ≤ 24
  lt : ∀ c ∈ B, c < 2 ^ n
def dRoom (C : Addr) (n : Nat) (B : List Nat) : Dn W := ⟨fun v H => ∃ a dx b, v = .ref a ∧ W.F a ∧ W.F b ∧ H a = some (.ins C dx (rf n b)) ∧ H b = some (.lst (vs B)) ∧ RoomF n B,
  fun l ⟨a, dx, b, e, g1, g2, h1, h2, f⟩ => ⟨a, dx, b, e, g1, g2, W.keep g1 l h1, W.keep g2 l h2, f⟩⟩
abbrev dI (i : Int) : Dn W := dV (.int i)
abbrev dN (n : Nat) : Dn W := dV (.int (n : Int))
abbrev dB (b : Bool) : Dn W := dV (.bl b)
abbrev dVs (l : List Nat) : Dn W := dLst (vs l)
/-! ### rules -/
section
variable {Ds Es Fs : EnvT W} {d d1 d2 d3 : Dn W} {ds : List (Dn W)} {te ta tb : TE} {t tr tk : TA} {tt t1 t2 : TT} {b b1 b2 : Bool} {i j l : Nat} {r : R2} {ts tu : TS}
theorem ev_wk {d' : Dn W} (h : EV Ds te d) (k : ∀ v H, d.ok v H → d'.ok v H) : EV Ds te d' := fun σ H Q iv en q => h σ H Q iv en fun v H' l o => q v H' l (k v H' o)
theorem ev_eq {d' : Dn W} (h : EV Ds te d) (k : d = d') : EV Ds te d' := k ▸ h
theorem ev_var (h : Ds.get i = some d) (hi : Nat.ble (i + 1) Ds.n = true := by rfl) : EV Ds (tVar i) d := fun σ H Q iv en q => by
  obtain ⟨v, e, o⟩ := en.get h hi
  exact ⟨v, e, q v H (W.refl H) o⟩
theorem ev_c {v : V} : EV Ds (tC v) (dV v) := fun σ H Q iv en q => q v H (W.refl H) rfl
theorem ev_cn (n : Nat) : EV Ds (tC (.int (n : Int))) (dN n) := ev_c
theorem ev_ex (h : EV Ds te d) : EV Ds te (dEx (fun _ : Unit => True) fun _ => d) := ev_wk h fun v H o => ⟨(), trivial, o⟩
theorem ev_in {κ : Type} {P' : κ → Prop} {f' : κ → Dn W} (x : κ) (p : P' x) (h : EV Ds te (f' x)) : EV Ds te (dEx P' f') := ev_wk h fun v H o => ⟨x, p, o⟩
theorem ev_op (o : OpD r d1 d2 d) (ha : EV Ds ta d1) (hb : EV Ds tb d2) : EV Ds (tOp r ta tb) d := fun σ H Q iv en q =>
  ha σ H _ iv en fun x H1 l1 o1 => hb σ H1 _ (W.step l1 iv) (en.st l1) fun y H2 l2 o2 => o x y H2 Q (W.step l2 (W.step l1 iv)) (d1.st l2 o1) o2 fun v H3 l3 o3 => q v H3 (W.trans l1 (W.trans l2 l3)) o3
theorem ev_opL {ι : Type} {P : ι → Prop} {f : ι → Dn W} {g : ι → Dn W} (o : ∀ x, P x → OpD r (f x) d2 (g x)) (ha : EV Ds ta (dEx P f)) (hb : EV Ds tb d2) : EV Ds (tOp r ta tb) (dEx P g) :=
  ev_op (d1 := dEx P f) (fun x y H Q iv ⟨i, p, o1⟩ o2 q => o i p x y H Q iv o1 o2 fun v H' l o3 => q v H' l ⟨i, p, o3⟩) ha hb
theorem ev_opR {κ : Type} {P' : κ → Prop} {f' : κ → Dn W} {g : κ → Dn W} (o : ∀ y, P' y → OpD r d1 (f' y) (g y)) (ha : EV Ds ta d1) (hb : EV Ds tb (dEx P' f')) : EV Ds (tOp r ta tb) (dEx P' g) :=
  ev_op (d2 := dEx P' f') (fun x y H Q iv o1 ⟨j, p', o2⟩ q => o j p' x y H Q iv o1 o2 fun v H' l o3 => q v H' l ⟨j, p', o3⟩) ha hb
theorem av_nil : AV Ds tNil ([] : List (Dn W)) := fun σ H Q iv en q => q [] H (W.refl H) trivial
theorem av_cons (ha : EV Ds ta d) (hr : AV Ds tr ds) : AV Ds (tCons ta tr) (d :: ds) := fun σ H Q iv en q =>
  ha σ H _ iv en fun x H1 l1 o1 => hr σ H1 _ (W.step l1 iv) (en.st l1) fun xs H2 l2 o2 => q (x :: xs) H2 (W.trans l1 l2) ⟨d.st l2 o1, o2⟩
theorem ax_consL {ι : Type} {P : ι → Prop} {f : ι → Dn W} (ha : EV Ds ta (dEx P f)) (hr : AV Ds tr ds) : AX Ds (tCons ta tr) P fun z => f z :: ds := fun σ H Q iv en q =>
  ha σ H _ iv en fun x H1 l1 ⟨i, p, o1⟩ => hr σ H1 _ (W.step l1 iv) (en.st l1) fun xs H2 l2 o2 => q i (x :: xs) H2 p (W.trans l1 l2) ⟨(f i).st l2 o1, o2⟩
theorem ev_call {sp : Sp} {dvs : List V} (h : SpD sp dvs ds d) (ha : AV Ds t ds) : EV Ds (tCall sp dvs E0 t) d := fun σ H Q iv en q =>
  ha σ H _ iv en fun xs H1 l1 o1 => h xs H1 Q (W.step l1 iv) o1 fun v H2 l2 o2 => q v H2 (W.trans l1 l2) o2
theorem ev_cb {r : List V → Hp → VK → Prop} (h : CrD r ds d) (ha : AV Ds t ds) : EV Ds (tCB r t) d := fun σ H Q iv en q =>
  ha σ H _ iv en fun xs H1 l1 o1 => h xs H1 Q (W.step l1 iv) o1 fun v H2 l2 o2 => q v H2 (W.trans l1 l2) o2
/-- a call by names alone: ds in the sequence as written, es in that of the parameters -/
theorem ev_callKw {n : Nat} {sp : Sp} {gV : List V → List V → List V} {es : List (Dn W)} (h : SpD sp [] es d) (hp : ∀ vs H, OkL ds vs H → OkL es (gV [] vs) H) (hn : ds.length = n) (ha : AV Ds tk ds) :
    EV Ds (fun σ H Q => tk σ H fun zs H1 => zs.length = n ∧ sp (gV [] zs) H1 Q E0) d := fun σ H Q iv en q =>
  ha σ H _ iv en fun xs H1 l1 o1 => ⟨o1.length.trans hn, by
    have := h (gV [] xs) H1 Q (W.step l1 iv) (hp xs H1 o1) fun v H2 l2 o2 => q v H2 (W.trans l1 l2) o2
    rwa [List.append_nil] at this⟩
theorem ev_andT (ha : EV Ds ta (dB true)) (hb : EV Ds tb d) : EV Ds (tAndV ta tb) d := fun σ H Q iv en q =>
  ha σ H _ iv en fun x H1 l1 o1 => ⟨true, o1, (if_pos rfl).mpr (hb σ H1 Q (W.step l1 iv) (en.st l1) fun v H2 l2 o2 => q v H2 (W.trans l1 l2) o2)⟩
theorem tx_test {ι : Type} {P : ι → Prop} {f : ι → Bool} (h : EV Ds te (dEx P fun x => dB (f x))) : TX Ds (tTest te) := fun σ H R iv en q => h σ H _ iv en fun v H1 l1 ⟨x, _, o1⟩ => ⟨f x, o1, q _ H1 l1⟩
theorem tv_B (h : EV Ds te (dB b)) : TV Ds (tB te) b := fun σ H R iv en q => h σ H _ iv en fun v H1 l1 o1 => ⟨b, o1, q H1 l1⟩
theorem tv_test (h : EV Ds te (dB b)) : TV Ds (tTest te) b := fun σ H R iv en q => h σ H _ iv en fun v H1 l1 o1 => ⟨b, o1, q H1 l1⟩
theorem tv_int {n : Nat} (h : EV Ds te (dN n)) : TV Ds (tInt te) (decide (n ≠ 0)) := fun σ H R iv en q => h σ H _ iv en fun v H1 l1 o1 => ⟨n, o1, q H1 l1⟩
theorem tv_orF (ha : TV Ds t1 false) (hb : TV Ds t2 false) : TV Ds (tOr t1 t2) false := fun σ H R iv en q => ha σ H _ iv en fun H1 l1 => hb σ H1 R (W.step l1 iv) (en.st l1) fun H2 l2 => q H2 (W.trans l1 l2)
theorem tv_and (ha : TV Ds t1 b1) (hb : b1 = true → TV Ds t2 b2) : TV Ds (tAnd t1 t2) (b1 && b2) := fun σ H R iv en q => ha σ H _ iv en fun H1 l1 => by
  cases b1 with
  | false => exact q H1 l1
  | true => exact hb rfl σ H1 R (W.step l1 iv) (en.st l1) fun H2 l2 => q H2 (W.trans l1 l2)
theorem tv_not (ha : TV Ds t1 b) : TV Ds (tNot t1) (!b) := fun σ H R iv en q => ha σ H _ iv en fun H1 l1 => q H1 l1
theorem tv_eq {b' : Bool} (e : b = b') (h : TV Ds tt b) : TV Ds tt b' := e ▸ h
theorem tv_yes : TV Ds tYes true := fun σ H R iv en q => q H (W.refl H)
/-! statements -/
theorem sv_ret (h : EV Ds te d) : SV Ds (tRet te) d := fun D σ H iv en q => h σ H D.rt iv en q
theorem sv_seq (h : NV Ds ts Es) (k : SV Es tu d) : SV Ds (tSeq ts tu) d := fun D σ H iv en q =>
  h { D with nx := tu D } σ H iv en fun σ' H' l' en' => k D σ' H' (W.step l' iv) en' fun v H2 l2 o2 => q v H2 (W.trans l' l2) o2
theorem nv_next : NV Ds tNext Ds := fun D σ H iv en q => q σ H (W.refl H) en
theorem nv_set (h : EV Ds te d) : NV Ds (tAsg te (gName i)) (Ds.set i (some d)) := fun D σ H iv en q => h σ H _ iv en fun v H1 l1 o1 => q _ H1 l1 ((en.st l1).set o1)
theorem nv_drop (h : EV Ds te d) : NV Ds (tDrop te) Ds := fun D σ H iv en q => h σ H _ iv en fun v H1 l1 o1 => q σ H1 l1 (en.st l1)
theorem sv_setx {ι : Type} {P : ι → Prop} {f : ι → Dn W} (h : EV Ds te (dEx P f)) (k : ∀ x, P x → SV (Ds.set i (some (f x))) tu d) : SV Ds (tSeq (tAsg te (gName i)) tu) d := fun D σ H iv en q =>
  h σ H _ iv en fun v H1 l1 ⟨x, px, o1⟩ => k x px D _ H1 (W.step l1 iv) ((en.st l1).set o1) fun v H2 l2 o2 => q v H2 (W.trans l1 l2) o2
theorem nv_par (h : AV Ds t [d1, d2]) : NV Ds (tPar i j t) ((Ds.set i (some d1)).set j (some d2)) := fun D σ H iv en q => h σ H _ iv en fun vs H1 l1 o1 => by
  match vs, o1 with
  | [x, y], ⟨o1, o2, _⟩ => exact ⟨x, y, rfl, q _ H1 l1 (((en.st l1).set o1).set o2)⟩
/-- names of a tuple's parts, four and more -/
def setAll (Ds : EnvT W) : List Nat → List (Dn W) → EnvT W
  | i :: is, d :: ds => setAll (Ds.set i (some d)) is ds
  | _, _ => Ds
def gNames : List Nat → TGs
  | [] => gNil
  | i :: is => gCons (gName i) (gNames is)
theorem unp_go {H : Hp} {Q : L2.St → Hp → Prop} : ∀ {is : List Nat} {ds : List (Dn W)} {xs : List V} {Ds : EnvT W} {σ : L2.St}, is.length = ds.length → OkL ds xs H → EnvL Ds σ H → (∀ σ', EnvL (setAll Ds is ds) σ' H → Q σ' H) → gNames is xs σ H Q
  | [], [], [], _, σ, _, _, en, q => ⟨rfl, q σ en⟩
  | i :: is, d :: ds, x :: xs, Ds, σ, hl, ⟨o, os⟩, en, q => ⟨x, xs, rfl, unp_go (is := is) (ds := ds) (by simpa using hl) os (en.set o) q⟩
  | [], d :: ds, _, _, _, hl, _, _, _ => by simp at hl
  | i :: is, [], _, _, _, hl, _, _, _ => by simp at hl
  | [], [], _ :: _, _, _, _, o, _, _ => o.elim
  | _ :: _, _ :: _, [], _, _, _, o, _, _ => o.elim
theorem ev_tup (h : AV Ds t ds) (hn : ds.length ≤ 100000) : EV Ds (tTup t) (dTD ds) := fun σ H Q iv en q => h σ H _ iv en fun vs H1 l1 o1 => by
  refine ⟨?_, fun p np => q _ _ (W.trans l1 (W.put0 (W.step l1 iv) np)) ⟨p, vs, rfl, W.fresh (W.step l1 iv) np, upd_same, o1.st (W.put0 (W.step l1 iv) np)⟩⟩
  rw [o1.length]
  exact Nat.le_of_lt (sl_lt hn)
theorem sv_unpx {K : PySem.W.Frag} {n : Nat} {is : List Nat} {ι : Type} {P : ι → Prop} {dr : ι → List (Dn W)} (h : EV Ds te (dEx P fun x => dTD (dr x))) (h1 : ∀ x, (dr x).length = n) (h2 : is.length = n) (k : ∀ x, P x → SV (setAll Ds is (dr x)) tu d) : SV Ds (tSeq (tAsg te (gTup K n (gNames is))) tu) d :=
  fun D σ H iv en q => h σ H _ iv en fun v H1 l1 ⟨x, px, a, xs, e, g, h3, o1⟩ => by
  subst e
  exact ⟨a, xs, rfl, .inl (.inl h3), o1.length.trans (h1 x), unp_go (h2.trans (h1 x).symm) o1 (en.st l1) fun σ' e' => k x px D σ' H1 (W.step l1 iv) e' fun v H2 l2 o2 => q v H2 (W.trans l1 l2) o2⟩
theorem nv_ifF (h : TV Ds tt false) : NV Ds (tIfS tt ts tNext) Ds := fun D σ H iv en q => h σ H _ iv en fun H1 l1 => q σ H1 l1 (en.st l1)
theorem nv_if {b : Bool} (h : TV Ds tt b) (h1 : b = true → NV Ds ts Es) (h2 : b = false → NV Ds tu Es) : NV Ds (tIfS tt ts tu) Es := fun D σ H iv en q => h σ H _ iv en fun H1 l1 => by
  cases b with
  | true => exact h1 rfl D σ H1 (W.step l1 iv) (en.st l1) fun σ2 H2 l2 e2 => q σ2 H2 (W.trans l1 l2) e2
  | false => exact h2 rfl D σ H1 (W.step l1 iv) (en.st l1) fun σ2 H2 l2 e2 => q σ2 H2 (W.trans l1 l2) e2
theorem sv_roomF {C : Addr} {n : Nat} {B : List Nat} (i : Nat) (e : Ds.get i = some (dRoom C n B)) (h : RoomF n B → SV Ds ts d) (hi : Nat.ble (i + 1) Ds.n = true := by rfl) : SV Ds ts d := fun D σ H iv en q => by
  obtain ⟨v, _, a, dx, b, _, _, _, _, _, f⟩ := en.get e hi
  exact h f D σ H iv en q
end
end Vf
set_option Elab.async false
set_option linter.all false
set_option maxRecDepth 100000
set_option maxHeartbeats 4000000
set_option pp.maxSteps 400
namespace Vf
open PySem PySem.Spec PyProof.Rows L2
/-! ### more operators on numbers that are not negative -/
section
variable {X : Cx}
theorem op_leN : OpR X (compareOp .LtE) (fun x y H Q => ∃ a b : Nat, x = .int a ∧ y = .int b ∧ Q (.bl (decide (a ≤ b))) H) := by
  rintro pins s σ H x y v u Q I rx ry ⟨a, b, rfl, rfl, q⟩
  refine op_le pins s σ H _ _ v u Q I rx ry ⟨a, b, rfl, rfl, ?_⟩
  have e : decide ((a : Int) ≤ b) = decide (a ≤ b) := decide_eq_decide.mpr (by omega)
  show Q (.bl (decide ((a : Int) ≤ b))) H
  rw [e]
  exact q
theorem op_shlNN : OpR X (binaryOp .LShift) (fun x y H Q => ∃ a k : Nat, x = .int a ∧ y = .int (k : Int) ∧ a < 2 ^ 64 ∧ k ≤ 1000 ∧ Q (.int ((a <<< k : Nat) : Int)) H) := by
  rintro pins s σ H x y v u Q I rx ry ⟨a, k, rfl, rfl, ha, hk, q⟩
  refine op_shl pins s σ H _ _ v u Q I rx ry ⟨a, k, rfl, rfl, ⟨by omega, by omega, ?_⟩, ?_⟩
  · show (a : Int).natAbs < 2 ^ 64
    rw [Int.natAbs_natCast]
    exact ha
  · have e : (a : Int) * 2 ^ (k : Int).toNat = ((a <<< k : Nat) : Int) := by
      rw [Int.toNat_natCast, Nat.shiftLeft_eq, Int.natCast_mul, Int.natCast_pow]
      rfl
    show Q (.int ((a : Int) * 2 ^ (k : Int).toNat)) H
    rw [e]
    exact q
theorem op_orN : OpR X (binaryOp .BitOr) (fun x y H Q => ∃ a b : Nat, x = .int a ∧ y = .int b ∧ Q (.int ((a ||| b : Nat) : Int)) H) := by
  rintro pins s σ H x y v u Q I rx ry ⟨a, b, rfl, rfl, q⟩
  refine op_or pins s σ H _ _ v u Q I rx ry ⟨a, b, rfl, rfl, ?_⟩
  show Q (.int (Builtin.bitOr a b)) H
  rw [bitOr_nn (by omega) (by omega)]
  exact q
/-- a & ~b : the places of a that are off in b -/
theorem op_andNot : OpR X (binaryOp .BitAnd) (fun x y H Q => ∃ (a : Nat) (j : Int), x = .int a ∧ y = .int j ∧ Q (.int (Builtin.bitAnd a j)) H) := by
  rintro pins s σ H x y v u Q I rx ry ⟨a, j, rfl, rfl, q⟩
  exact op_and pins s σ H _ _ v u Q I rx ry ⟨a, j, rfl, rfl, q⟩
end
variable {W : Wd}
/-! ### meanings of operators -/
section
variable {a b k n m : Nat} {l l2 : List Nat} {x y : Str} {p q : Bool}
theorem od_addN : OpD (W := W) (fun x y H Q => ∃ n m : Nat, x = .int (n : Int) ∧ y = .int (m : Int) ∧ Q (.int ((n + m : Nat) : Int)) H) (dN a) (dN b) (dN (a + b)) := fun x y H Q iv e1 e2 q => ⟨a, b, e1, e2, q _ H (W.refl H) rfl⟩
theorem od_modN (h1 : 0 < b) : OpD (W := W) (fun x y H Q => ∃ n m : Nat, x = .int (n : Int) ∧ y = .int (m : Int) ∧ 0 < m ∧ Q (.int ((n % m : Nat) : Int)) H) (dN a) (dN b) (dN (a % b)) := fun x y H Q iv e1 e2 q => ⟨a, b, e1, e2, h1, q _ H (W.refl H) rfl⟩
theorem od_andN : OpD (W := W) (fun x y H Q => ∃ n m : Nat, x = .int (n : Int) ∧ y = .int (m : Int) ∧ Q (.int ((n &&& m : Nat) : Int)) H) (dN a) (dN b) (dN (a &&& b)) := fun x y H Q iv e1 e2 q => ⟨a, b, e1, e2, q _ H (W.refl H) rfl⟩
theorem od_xorN : OpD (W := W) (fun x y H Q => ∃ n m : Nat, x = .int (n : Int) ∧ y = .int (m : Int) ∧ Q (.int ((n ^^^ m : Nat) : Int)) H) (dN a) (dN b) (dN (a ^^^ b)) := fun x y H Q iv e1 e2 q => ⟨a, b, e1, e2, q _ H (W.refl H) rfl⟩
theorem od_orN : OpD (W := W) (fun x y H Q => ∃ n m : Nat, x = .int (n : Int) ∧ y = .int (m : Int) ∧ Q (.int ((n ||| m : Nat) : Int)) H) (dN a) (dN b) (dN (a ||| b)) := fun x y H Q iv e1 e2 q => ⟨a, b, e1, e2, q _ H (W.refl H) rfl⟩
theorem od_shrN : OpD (W := W) (fun x y H Q => ∃ n m : Nat, x = .int (n : Int) ∧ y = .int (m : Int) ∧ Q (.int ((n / 2 ^ m : Nat) : Int)) H) (dN a) (dN b) (dN (a / 2 ^ b)) := fun x y H Q iv e1 e2 q => ⟨a, b, e1, e2, q _ H (W.refl H) rfl⟩
theorem od_pow2 (h : k ≤ 1000) : OpD (W := W) (fun x y H Q => ∃ k : Nat, x = .int 1 ∧ y = .int (k : Int) ∧ k ≤ 1000 ∧ Q (.int ((2 ^ k : Nat) : Int)) H) (dN 1) (dN k) (dN (2 ^ k)) := fun x y H Q iv e1 e2 q => ⟨k, e1, e2, h, q _ H (W.refl H) rfl⟩
theorem od_shlN (h1 : a < 2 ^ 64) (h : k ≤ 1000) : OpD (W := W) (fun x y H Q => ∃ a k : Nat, x = .int a ∧ y = .int (k : Int) ∧ a < 2 ^ 64 ∧ k ≤ 1000 ∧ Q (.int ((a <<< k : Nat) : Int)) H) (dN a) (dN k) (dN (a <<< k)) := fun x y H Q iv e1 e2 q => ⟨a, k, e1, e2, h1, h, q _ H (W.refl H) rfl⟩
theorem od_ltN : OpD (W := W) (fun x y H Q => ∃ a b : Nat, x = .int a ∧ y = .int b ∧ Q (.bl (decide (a < b))) H) (dN a) (dN b) (dB (decide (a < b))) := fun x y H Q iv e1 e2 q => ⟨a, b, e1, e2, q _ H (W.refl H) rfl⟩
theorem od_leN : OpD (W := W) (fun x y H Q => ∃ a b : Nat, x = .int a ∧ y = .int b ∧ Q (.bl (decide (a ≤ b))) H) (dN a) (dN b) (dB (decide (a ≤ b))) := fun x y H Q iv e1 e2 q => ⟨a, b, e1, e2, q _ H (W.refl H) rfl⟩
theorem od_eqN : OpD (W := W) (fun x y H Q => ∃ a b : Nat, x = .int a ∧ y = .int b ∧ Q (.bl (decide (a = b))) H) (dN a) (dN b) (dB (decide (a = b))) := fun x y H Q iv e1 e2 q => ⟨a, b, e1, e2, q _ H (W.refl H) rfl⟩
theorem od_neN : OpD (W := W) (fun x y H Q => ∃ a b : Nat, x = .int a ∧ y = .int b ∧ Q (.bl (!decide (a = b))) H) (dN a) (dN b) (dB (!decide (a = b))) := fun x y H Q iv e1 e2 q => ⟨a, b, e1, e2, q _ H (W.refl H) rfl⟩
theorem od_neL {K : PySem.W.Frag} : OpD (W := W) (rNeD K) (dVs l) (dVs l2) (dB (!decide (l = l2))) := fun u v H Q iv ⟨a, e1, g1, h1⟩ ⟨b, e2, g2, h2⟩ k => by
  subst e1 e2
  exact neD_vs (SqL.of h1) (SqL.of h2) (k _ H (W.refl H) rfl)
theorem od_ninL {K : PySem.W.Frag} : OpD (W := W) (rIn K true) (dN a) (dVs l) (dB (!decide (a ∈ l))) := fun u v H Q iv e1 ⟨b, e2, g2, h2⟩ k => by
  subst e2
  rw [show u = V.int (a : Int) from e1]
  refine ⟨b, _, rfl, .inl (SqL.of h2), rfl, flatV_vs l, ?_⟩
  rw [if_pos rfl, inV_vs]
  exact k _ H (W.refl H) rfl
theorem od_cat (h : l.length + l2.length ≤ 100000) : OpD (W := W) rCat (dVs l) (dVs l2) (dVs (l ++ l2)) := fun u v H Q iv ⟨a, e1, g1, h1⟩ ⟨b, e2, g2, h2⟩ k => by
  subst e1 e2
  refine ⟨a, b, _, _, rfl, rfl, h1, h2, by rw [len_vs, len_vs]; exact Nat.le_of_lt (sl_lt h), fun p np => k _ _ (W.put0 iv np) ⟨p, rfl, W.fresh iv np, ?_⟩⟩
  rw [upd_same, vs_append]
theorem od_catG {xs ys : List V} (h : xs.length + ys.length ≤ 100000) : OpD (W := W) rCat (dLst xs) (dLst ys) (dLst (xs ++ ys)) := fun u v H Q iv ⟨a, e1, g1, h1⟩ ⟨b, e2, g2, h2⟩ k => by
  subst e1 e2
  exact ⟨a, b, _, _, rfl, rfl, h1, h2, Nat.le_of_lt (sl_lt h), fun p np => k _ _ (W.put0 iv np) ⟨p, rfl, W.fresh iv np, upd_same⟩⟩
theorem od_ixL {K : PySem.W.Frag} (h : l[k]? = some a) : OpD (W := W) (rIxL K) (dVs l) (dN k) (dN a) := fun u v H Q iv ⟨p, e1, g1, h1⟩ e2 q => by
  subst e1
  rw [show v = V.int (k : Int) from e2]
  refine ⟨p, _, k, .int (a : Int), rfl, rfl, SqL.of h1, atI_nat (j := k) ?_, q _ H (W.refl H) rfl⟩
  unfold Vf.vs
  rw [List.getElem?_map, h]
  rfl
end
/-! ### literals -/
section
variable {Ds : EnvT W} {t : TA} {te : TE} {i : Nat}
theorem ok_dVs {H : Hp} : ∀ {l : List Nat} {vs : List V}, OkL (l.map fun n => (dN n : Dn W)) vs H → vs = Vf.vs l
  | [], [], _ => rfl
  | n :: l, v :: vs, ⟨h, r⟩ => by
    rw [ok_dVs (l := l) r, show v = V.int (n : Int) from h]
    rfl
  | [], _ :: _, h => h.elim
  | _ :: _, [], h => h.elim
/-- [e, ..] of numbers: l is told -/
theorem ev_lstN (l : List Nat) (h : AV Ds t (l.map fun n => dN n)) (hn : l.length ≤ 100000 := by exact Nat.le_of_ble_eq_true rfl) : EV Ds (tLst t) (dVs l) := fun σ H Q iv en q => h σ H _ iv en fun vs H1 l1 o1 => by
  have iv1 := W.step l1 iv
  have e := ok_dVs o1
  subst e
  exact ⟨by rw [len_vs]; exact Nat.le_of_lt (sl_lt hn), fun p np => q _ _ (W.trans l1 (W.put0 iv1 np)) ⟨p, rfl, W.fresh iv1 np, upd_same⟩⟩
theorem ev_lst {ds : List (Dn W)} (h : AV Ds t ds) (hn : ds.length ≤ 100000 := by exact Nat.le_of_ble_eq_true rfl) : EV Ds (tLst t) (dLD ds) := fun σ H Q iv en q => h σ H _ iv en fun vs H1 l1 o1 => by
  refine ⟨?_, fun p np => q _ _ (W.trans l1 (W.put0 (W.step l1 iv) np)) ⟨p, vs, rfl, W.fresh (W.step l1 iv) np, upd_same, o1.st (W.put0 (W.step l1 iv) np)⟩⟩
  rw [o1.length]
  exact Nat.le_of_lt (sl_lt hn)
end
end Vf
set_option Elab.async false
set_option linter.all false
set_option maxRecDepth 100000
set_option maxHeartbeats 4000000
set_option pp.maxSteps 400
namespace Vf
open PySem PySem.Spec PyProof.Rows L2
/-! ### the promises -/
def Sq (H : Hp) (a : Addr) (xs : List V) : Prop := H a = some (.lst xs) ∨ H a = some (.tup xs)
theorem Sq.same {H H' : Hp} {a : Addr} {xs : List V} (s : Same H H') (h : Sq H a xs) : Sq H' a xs := h.imp (s _ _) (s _ _)
theorem Sq.len {K : PySem.W.Frag} {H : Hp} {a : Addr} {xs : List V} (h : Sq H a xs) : (SqL K H a xs ∨ SqT K H a xs) := h.imp (fun e => SqL.of e) (fun e => .inl (.inl e))
def roomText (n : Nat) (B : List Nat) : Str := ((((Str.empty ++ ("Room(" : Str)) ++ (toString (n : Int) : Str)) ++ (", " : Str)) ++ txt (vs B)) ++ (")" : Str)
def sp_is_integer : Sp := fun vs H Q _ => ∃ i : Int, vs = [.int i] ∧ Q (.bl true) H
def sp_is_count : Sp := fun vs H Q _ => ∃ i : Int, vs = [.int i] ∧ Q (.bl (decide (0 ≤ i))) H
def sp_is_list : Sp := fun vs H Q _ => ∃ (a : Addr) (xs : List V), vs = [.ref a] ∧ Sq H a xs ∧ ∀ H', Same H H' → Q (.bl true) H'
def sp_is_places : Sp := fun vs H Q _ => ∃ n : Nat, vs = [.int n] ∧ 1 ≤ n ∧ n ≤ 24 ∧ Q (.bl true) H
def sp_check_places : Sp := fun vs H Q _ => ∃ n : Nat, vs = [.int n] ∧ 1 ≤ n ∧ n ≤ 24 ∧ Q .non H
def sp_is_word : Sp := fun vs H Q _ => ∃ n m : Nat, vs = [.int n, .int m] ∧ 1 ≤ n ∧ n ≤ 24 ∧ Q (.bl (decide (m < 2 ^ n))) H
def sp_check_word : Sp := fun vs H Q _ => ∃ m n : Nat, vs = [.int m, .int n] ∧ 1 ≤ n ∧ n ≤ 24 ∧ m < 2 ^ n ∧ Q .non H
def sp_highest : Sp := fun vs0 H Q _ => ∃ m : Nat, vs0 = [.int (m : Int)] ∧ m ≠ 0 ∧ m < 2 ^ 64 ∧ Q (.int ((2 ^ m.log2 : Nat) : Int)) H
def sp_rest_of : Sp := fun vs0 H Q _ => ∃ (v : Nat) (b : Addr) (B : List Nat), vs0 = [.int (v : Int), .ref b] ∧ H b = some (.lst (vs B)) ∧ (∀ c ∈ B, c ≠ 0 ∧ c < 2 ^ 64) ∧ Q (.int ((restOf v B : Nat) : Int)) H
def sp_put_in : Sp := fun vs0 H Q _ => ∃ (r : Nat) (b : Addr) (B : List Nat), vs0 = [.int (r : Int), .ref b] ∧ H b = some (.lst (vs B)) ∧ r ≠ 0 ∧ r < 2 ^ 64 ∧ B.length ≤ 1000 ∧
  ∀ (H' : Hp) (p : Addr) (D : List Nat), Same H H' → H p = none → H' p = some (.lst (vs D)) → D.Perm (B.map (clear1 r) ++ [r]) → D.Pairwise (· ≥ ·) → Q (.ref p) H'
def sp_sums_of : Sp := fun vs0 H Q _ => ∃ (b : Addr) (B : List Nat), vs0 = [.ref b] ∧ H b = some (.lst (vs B)) ∧ Piv B ∧ B.length ≤ 12 ∧
  ∀ (H' : Hp) (p : Addr) (L : List Nat), Same H H' → H p = none → H' p = some (.lst (vs L)) → L.Perm (sumsOf B) → L.Pairwise (· ≤ ·) → Q (.ref p) H'
def sp_plain_basis : Sp := fun vs0 H Q _ => ∃ (a : Addr) (ws : List Nat), vs0 = [.ref a] ∧ Sq H a (vs ws) ∧ (∀ v ∈ ws, v < 2 ^ 64) ∧ ws.length ≤ 1000 ∧
  ∀ (H' : Hp) (p : Addr) (B : List Nat), Same H H' → H p = none → H' p = some (.lst (vs B)) → Plain B → (∀ v, span B v ↔ span ws v) → B.length ≤ ws.length → Q (.ref p) H'
def sp_check_words : Sp := fun vs0 H Q _ => ∃ (n : Nat) (a : Addr) (ws : List Nat), vs0 = [.int (n : Int), .ref a] ∧ Sq H a (vs ws) ∧ 1 ≤ n ∧ n ≤ 24 ∧ (∀ v ∈ ws, v < 2 ^ n) ∧ ws.length ≤ 48 ∧ ∀ H', Same H H' → Q .non H'
def sp_init (C : Addr) : Sp := fun vs0 H Q _ => ∃ (x dx : Addr) (n : Nat) (a : Addr) (ws : List Nat), vs0 = [.ref x, .int (n : Int), .ref a] ∧ H x = some (.ins C dx []) ∧ Sq H a (vs ws) ∧ 1 ≤ n ∧ n ≤ 24 ∧ (∀ v ∈ ws, v < 2 ^ n) ∧ ws.length ≤ 48 ∧
  ∀ (H' : Hp) (B : List Nat), But x H H' → RoomNew C H H' x n B → (∀ v, span B v ↔ span ws v) → B.length ≤ ws.length → Q .non H'
def sp_places (C : Addr) : Sp := fun vs0 H Q _ => ∃ (x : Addr) (n : Nat) (B : List Nat), vs0 = [.ref x] ∧ RoomAt C H x n B ∧ Q (.int (n : Int)) H
def sp_dimension (C : Addr) : Sp := fun vs0 H Q _ => ∃ (x : Addr) (n : Nat) (B : List Nat), vs0 = [.ref x] ∧ RoomAt C H x n B ∧ Q (.int ((B.length : Nat) : Int)) H
def sp_basis (C : Addr) : Sp := fun vs0 H Q _ => ∃ (x : Addr) (n : Nat) (B : List Nat), vs0 = [.ref x] ∧ RoomAt C H x n B ∧ ∀ (H' : Hp) (p : Addr), Same H H' → H p = none → H' p = some (.lst (vs B)) → Q (.ref p) H'
def sp_has (C : Addr) : Sp := fun vs0 H Q _ => ∃ (x : Addr) (n : Nat) (B : List Nat) (m : Nat), vs0 = [.ref x, .int (m : Int)] ∧ RoomAt C H x n B ∧ m < 2 ^ n ∧ Q (.bl (decide (restOf m B = 0))) H
def sp_words (C : Addr) : Sp := fun vs0 H Q _ => ∃ (x : Addr) (n : Nat) (B : List Nat), vs0 = [.ref x] ∧ RoomAt C H x n B ∧ B.length ≤ 8 ∧
  ∀ (H' : Hp) (p : Addr) (L : List Nat), Same H H' → H p = none → H' p = some (.lst (vs L)) → L.Perm (sumsOf B) → L.Pairwise (· ≤ ·) → Q (.ref p) H'
def sp_eq (K : PySem.W.Frag) (C : Addr) : Sp := fun vs0 H Q _ => ∃ (x : Addr) (n : Nat) (B : List Nat) (y : V), vs0 = [.ref x, y] ∧ RoomAt C H x n B ∧
  ((∃ (z : Addr) (m : Nat) (D : List Nat), y = .ref z ∧ RoomAt C H z m D ∧ Q (.bl (decide (n = m ∧ B = D))) H) ∨ (∃ t, TyX K H y t ∧ PySem.W.kitOne K t (.ref C) = some false ∧ Q (.bl false) H))
def sp_repr (C : Addr) (g : List Code) : Sp := fun vs0 H Q _ => ∃ (x dx b : Addr) (n : Nat) (B : List Nat), vs0 = [.ref x] ∧ H x = some (.ins C dx (rf n b)) ∧ H b = some (.lst (vs B)) ∧ 1 ≤ n ∧ n ≤ 24 ∧ (∀ c ∈ B, c < 2 ^ n) ∧ B.length ≤ 100 ∧ Clear g b ∧ Q (.str (roomText n B)) H
def sp_pot (K : PySem.W.Frag) : Sp := fun vs0 H Q _ => ∃ (a : Addr) (ns : List Int) (k : Nat), vs0 = [.ref a, .int (k : Int)] ∧ SqL K H a (ns.map V.int) ∧ k < 1000 ∧
  ∀ H' p, Same H H' → H p = none → Pot H' p → Q (.ref p) H'
def sp_draw : Sp := fun vs0 H Q _ => ∃ (p : Addr) (n : Nat), vs0 = [.ref p, .int (n : Int)] ∧ Pot H p ∧ 0 < n ∧ n < 1073741824 ∧
  ∀ (H' : Hp) (d : Nat), But p H H' → Pot H' p → d < n → Q (.int (d : Int)) H'
def sp_places_of : Sp := fun vs0 H Q _ => ∃ m : Nat, vs0 = [.int m] ∧ m < 2 ^ 24 ∧ ∀ H' p, Same H H' → H p = none → H' p = some (.lst (vs (spots m))) → Q (.ref p) H'
def sp_are_spots : Sp := fun vs0 H Q _ => ∃ (a : Addr) (l : List Nat) (N : Nat), vs0 = [.int (N : Int), .ref a] ∧ Sq H a (vs l) ∧ l.Nodup ∧ (∀ i ∈ l, i < N) ∧ l.length ≤ 24 ∧ ∀ H', Same H H' → Q (.bl true) H'
def sp_word_of : Sp := fun vs0 H Q _ => ∃ (a : Addr) (l : List Nat), vs0 = [.ref a] ∧ Sq H a (vs l) ∧ l.Nodup ∧ (∀ i ∈ l, i < 24) ∧ l.length ≤ 24 ∧ ∀ H', Same H H' → Q (.int (((l.map (2 ^ ·)).sum : Nat) : Int)) H'
variable {W : Wd}
/-! ### what they mean -/
section
variable {C : Addr} {K : PySem.W.Frag} {n m : Nat} {B ws l : List Nat}
theorem room_at {v : V} {H : Hp} (h : (dRoom C n B : Dn W).ok v H) : ∃ a, v = .ref a ∧ RoomAt C H a n B := by
  obtain ⟨a, dx, b, e, _, _, h1, h2, f⟩ := h
  exact ⟨a, e, dx, b, h1, h2, f.pl, f.n1, f.n24, f.lt⟩
theorem made_keep {H1 : Hp} {x dx : Addr} (hx : H1 x = none) (hdx : H1 dx = none) : Same H1 (upd (upd H1 dx (.own x)) x (.ins C dx [])) := fun b o e => by
  rw [upd_ne (ne_of_none e hx), upd_ne (ne_of_none e hdx)]
  exact e
theorem made_sq {H1 : Hp} {x dx a : Addr} {xs : List V} (hS : Sq H1 a xs) (hx : H1 x = none) (hdx : H1 dx = none) : Sq (upd (upd H1 dx (.own x)) x (.ins C dx [])) a xs := hS.imp (made_keep hx hdx _ _) (made_keep hx hdx _ _)
theorem made {H1 H2 : Hp} {x dx : Addr} {n : Nat} {B : List Nat} (hx : H1 x = none) (hdx : H1 dx = none) (b2 : But x (upd (upd H1 dx (.own x)) x (.ins C dx [])) H2) (rm : RoomNew C (upd (upd H1 dx (.own x)) x (.ins C dx [])) H2 x n B) :
    Same H1 H2 ∧ RoomNew C H1 H2 x n B := by
  refine ⟨fun b o e => b2 _ _ (ne_of_none e hx) (made_keep hx hdx b o e), ?_⟩
  obtain ⟨d, b, e1, e2, r1, r2, r3, r4, n0⟩ := rm
  refine ⟨d, b, e1, e2, r1, r2, r3, r4, ?_⟩
  cases k : H1 b with
  | none => rfl
  | some o =>
    rw [made_keep (C := C) hx hdx b o k] at n0
    cases n0
theorem RoomNew.dn {H0 H : Hp} {a : Addr} {n : Nat} {B : List Nat} (h : RoomNew C H0 H a n B) (iv : W.inv H0) (l : W.L H0 H) (na : H0 a = none) : (dRoom C n B : Dn W).ok (.ref a) H := by
  obtain ⟨dx, b, e1, e2, r1, r2, r3, r4, n0⟩ := h
  exact ⟨a, dx, b, rfl, W.fresh iv na, W.fresh iv n0, e1, e2, r1, r2, r3, r4⟩
/-- Room(n, ws) -/
theorem bas_of {ws B : List Nat} (pl : Plain B) (sp : ∀ v, span B v ↔ span ws v) : B = bas ws := bas_uniq pl sp
theorem mk_run {H1 : Hp} {a : Addr} {Q : VK} (h1 : 1 ≤ n) (h24 : n ≤ 24) (hw : ∀ v ∈ ws, v < 2 ^ n) (hl : ws.length ≤ 48) (iv : W.inv H1) (eA : Sq H1 a (vs ws)) (q : ∀ v H', W.L H1 H' → (dRoom C n (bas ws) : Dn W).ok v H' → Q v H') :
    ∀ x dx, H1 x = none → H1 dx = none → dx ≠ x → sp_init C [.ref x, .int (n : Int), .ref a] (upd (upd H1 dx (.own x)) x (.ins C dx [])) (fun v H2 => v = .non ∧ Q (.ref x) H2) E0 := by
  intro x dx hx hdx _
  refine ⟨x, dx, n, a, ws, rfl, upd_same, made_sq eA hx hdx, h1, h24, hw, hl, fun H' B b rm sp _ => ⟨rfl, ?_⟩⟩
  obtain ⟨sm, rm2⟩ := made hx hdx b rm
  have pl : Plain B := by
    obtain ⟨_, _, _, _, p, _⟩ := rm
    exact p
  have e := bas_of pl sp
  subst e
  exact q _ _ (W.same sm) (rm2.dn iv (W.same sm) hx)
theorem ev_makeG {Ds : EnvT W} {t : TA} {dl : Dn W} (h1 : 1 ≤ n) (h24 : n ≤ 24) (hw : ∀ v ∈ ws, v < 2 ^ n) (hl : ws.length ≤ 48) (hs : ∀ v H, dl.ok v H → ∃ a, v = .ref a ∧ Sq H a (vs ws)) (ha : AV Ds t [dN n, dl]) :
    EV Ds (tMake C (sp_init C) [] E0 t) (dRoom C n (bas ws)) := fun σ H Q iv en q =>
  ha σ H _ iv en fun xs H1 l1 o1 => by
    match xs, o1 with
    | [v, u], ⟨e1, o2, _⟩ =>
      obtain ⟨a, rfl, eA⟩ := hs _ _ o2
      rw [show v = V.int (n : Int) from e1]
      exact mk_run h1 h24 hw hl (W.step l1 iv) eA fun v H' l o => q v H' (W.trans l1 l) o
theorem sq_vs {v : V} {H : Hp} (h : (dVs ws : Dn W).ok v H) : ∃ a, v = .ref a ∧ Sq H a (vs ws) := by
  obtain ⟨a, e, _, h⟩ := h
  exact ⟨a, e, .inl h⟩
theorem ev_make {Ds : EnvT W} {t : TA} (h1 : 1 ≤ n) (h24 : n ≤ 24) (hw : ∀ v ∈ ws, v < 2 ^ n) (hl : ws.length ≤ 48) (ha : AV Ds t [dN n, dVs ws]) : EV Ds (tMake C (sp_init C) [] E0 t) (dRoom C n (bas ws)) :=
  ev_makeG h1 h24 hw hl (fun _ _ => sq_vs) ha
/-! properties, methods -/
section
variable {Ds : EnvT W} {te ta tb : TE} {t tk : TA} {d : Dn W} {ds : List (Dn W)}
theorem ev_prop {sp : Sp} (h : SpD sp [] [dRoom C n B] d) (ha : EV Ds te (dRoom C n B)) : EV Ds (tProp C sp [] E0 te) d := fun σ H Q iv en q =>
  ha σ H _ iv en fun v H1 l1 o1 => by
    obtain ⟨a, dx, b, e, g1, g2, h1, h2, f⟩ := id o1
    subst e
    refine ⟨a, dx, _, rfl, h1, ?_⟩
    exact h [.ref a] H1 Q (W.step l1 iv) ⟨o1, trivial⟩ fun v H' l o => q v H' (W.trans l1 l) o
theorem ev_meth {m : Str} {sp : Sp} (hm : ∀ n b, (rf n b).lookup m = none) (h : SpD sp [] (dRoom C n B :: ds) d) (ha : EV Ds te (dRoom C n B)) (ht : AV Ds t ds) : EV Ds (tMeth C m sp [] E0 te t) d := fun σ H Q iv en q =>
  ha σ H _ iv en fun v H1 l1 o1 => by
    obtain ⟨a, dx, b, e, g1, g2, h1, h2, f⟩ := id o1
    subst e
    refine ⟨a, dx, _, rfl, h1, hm n b, ?_⟩
    refine ht σ H1 _ (W.step l1 iv) (en.st l1) fun vs H2 l2 o2 => ?_
    have := h (.ref a :: vs) H2 Q (W.step l2 (W.step l1 iv)) ⟨(dRoom C n B).st l2 o1, o2⟩ fun v H' l o => q v H' (W.trans l1 (W.trans l2 l)) o
    exact this
theorem sd_places : SpD (sp_places C) [] [(dRoom C n B : Dn W)] (dN n) := fun vs H Q iv o q => by
  match vs, o with
  | [v], ⟨o, _⟩ =>
    obtain ⟨a, rfl, r⟩ := room_at o
    exact ⟨a, n, B, rfl, r, q _ H (W.refl H) rfl⟩
theorem sd_dimension : SpD (sp_dimension C) [] [(dRoom C n B : Dn W)] (dN B.length) := fun vs H Q iv o q => by
  match vs, o with
  | [v], ⟨o, _⟩ =>
    obtain ⟨a, rfl, r⟩ := room_at o
    exact ⟨a, n, B, rfl, r, q _ H (W.refl H) rfl⟩
theorem sd_basis : SpD (sp_basis C) [] [(dRoom C n B : Dn W)] (dVs B) := fun vs H Q iv o q => by
  match vs, o with
  | [v], ⟨o, _⟩ =>
    obtain ⟨a, rfl, r⟩ := room_at o
    exact ⟨a, n, B, rfl, r, fun H' p s np e => q _ H' (W.same s) ⟨p, rfl, W.fresh iv np, e⟩⟩
/-- the words of a room, sorted -/
noncomputable def wordsOf (B : List Nat) : List Nat := ((sumsOf B).mergeSort fun a b => decide (a ≤ b))
theorem sort_ok (M : List Nat) : (M.mergeSort fun a b => decide (a ≤ b)).Perm M ∧ (M.mergeSort fun a b => decide (a ≤ b)).Pairwise (· ≤ ·) := by
  refine ⟨List.mergeSort_perm M _, ?_⟩
  have h := List.pairwise_mergeSort (le := fun a b : Nat => decide (a ≤ b)) (fun a b c h1 h2 => decide_eq_true (Nat.le_trans (of_decide_eq_true h1) (of_decide_eq_true h2))) (fun a b => by
    rcases Nat.le_total a b with h | h
    · rw [decide_eq_true h, Bool.true_or]
    · rw [decide_eq_true h, Bool.or_true]) M
  exact h.imp fun h => of_decide_eq_true h
theorem sort_uniq {L M : List Nat} (p : L.Perm M) (o : L.Pairwise (· ≤ ·)) : L = M.mergeSort fun a b => decide (a ≤ b) :=
  List.Perm.eq_of_pairwise (fun a b _ _ h1 h2 => Nat.le_antisymm h1 h2) o (sort_ok M).2 (p.trans (sort_ok M).1.symm)
/-! comparisons -/
theorem own_rooms {X : Cx} {H : Hp} {Q : VK} {x z : Addr} {n m : Nat} {B D : List Nat} {neg : Bool} (hx : RoomAt C H x n B) (hz : RoomAt C H z m D) (q : Q (.bl (if neg then !decide (n = m ∧ B = D) else decide (n = m ∧ B = D))) H) :
    rOwn X C (sp_eq X.K C) neg (.ref x) (.ref z) H Q := by
  obtain ⟨dx, b, e1, _⟩ := id hx
  obtain ⟨dz, d, e2, _⟩ := id hz
  refine ⟨⟨x, dx, _, .ref C, rfl, e1, tyL_ins e2, by simp [PySem.W.notFirst], ⟨x, n, B, .ref z, rfl, hx, .inl ⟨z, m, D, rfl, hz, _, rfl, q⟩⟩⟩⟩
theorem od_eqR {X : Cx} {D : List Nat} : OpD (W := W) (rOwn X C (sp_eq X.K C) false) (dRoom C n B) (dRoom C m D) (dB (decide (n = m ∧ B = D))) := fun u v H Q iv o1 o2 q => by
  obtain ⟨a, rfl, r1⟩ := room_at o1
  obtain ⟨b, rfl, r2⟩ := room_at o2
  exact own_rooms r1 r2 (q _ H (W.refl H) rfl)
theorem od_neR {X : Cx} {D : List Nat} : OpD (W := W) (rOwn X C (sp_eq X.K C) true) (dRoom C n B) (dRoom C m D) (dB (!decide (n = m ∧ B = D))) := fun u v H Q iv o1 o2 q => by
  obtain ⟨a, rfl, r1⟩ := room_at o1
  obtain ⟨b, rfl, r2⟩ := room_at o2
  exact own_rooms r1 r2 (q _ H (W.refl H) rfl)
/-! isinstance(x, Room) -/
theorem cd_isRoom (R : RKn K C) : CrD (W := W) (rIsi K) [dRoom C n B, dV (.ref C)] (dB true) := fun vs H Q iv o q => by
  match vs, o with
  | [v, u], ⟨o, e, _⟩ =>
    obtain ⟨a, dx, b, e1, _, _, h1, _, _⟩ := o
    subst e1
    rw [show u = V.ref C from e]
    exact ⟨.ref a, .ref C, .ref C, .ref C, true, rfl, .own C, .base (.ins h1 R.cl R.ca R.cn R.ct R.cm), if_pos (beq_self_eq_true _), q _ H (W.refl H) rfl⟩
end
/-! the law's own -/
section
variable {p : Addr} {k : Nat}
theorem sd_draw (hp : IsPot W p) (h1 : 0 < n) (h2 : n < 1073741824) : SpD (W := W) sp_draw [] [dV (.ref p), dN n] (dEx (fun d => d < n) dN) := fun vs H Q iv o q => by
  match vs, o with
  | [v, u], ⟨e1, e2, _⟩ =>
    rw [show v = V.ref p from e1, show u = V.int (n : Int) from e2]
    exact ⟨p, n, rfl, hp.has iv, h1, h2, fun H' d b hP hd => q _ H' (hp.put b hP) ⟨d, hd, rfl⟩⟩
/-- all words of the room that ws make, sorted -/
def SpanL (ws L : List Nat) : Prop := (∀ v, v ∈ L ↔ span ws v) ∧ L.Pairwise (· < ·)
theorem plain_len24 (f : RoomF n B) : B.length ≤ 24 := Nat.le_trans (plain_len f.pl f.lt) f.n24
end
end
end Vf
set_option Elab.async false
set_option linter.all false
set_option maxRecDepth 100000
set_option maxHeartbeats 4000000
set_option pp.maxSteps 400
namespace Vf
open PySem PySem.Spec PyProof.Rows L2
variable {W : Wd}
section
variable {Ds Es Fs : EnvT W} {d d1 d2 d3 : Dn W} {ds : List (Dn W)} {te ta tb tl : TE} {t tr tk : TA} {tt t1 t2 : TT} {b b1 b2 : Bool} {i j : Nat} {K : PySem.W.Frag} {n : Nat}
/-! ### comprehensions -/
theorem env_lc {σ : L2.St} {H : Hp} {x : V} {dx : Dn W} (ok : dx.ok x H) (en : EnvL Ds σ H) : EnvL (Ds.set i (some dx)) ((wipe σ [i]).set i (some x)) H := by
  unfold wipe wipe
  rw [List.set_set]
  exact EnvL.set ok en
theorem wipe_lc {σ : L2.St} {x : V} : wipe ((wipe σ [i]).set i (some x)) [i] = wipe σ [i] := by
  show ((σ.set i none).set i (some x)).set i none = σ.set i none
  rw [List.set_set, List.set_set]
theorem ev_lc {xs : List V} {p : V → Bool} {g : V → V} (hl : EV Ds tl (dLst xs)) (hz : xs.length ≤ 100000) (ht : ∀ x ∈ xs, TV (Ds.set i (some (dV x))) tt (p x))
    (hb : ∀ x ∈ xs, p x = true → EV (Ds.set i (some (dV x))) te (dV (g x))) : EV Ds (tLc (iList K tl) (gName i) tt te [i]) (dLst ((xs.filter p).map g)) := fun σ H Q iv en q =>
  hl σ H _ iv en fun v H1 l1 ⟨a, e, ga, h⟩ => by
    subst e
    have iv1 := W.step l1 iv
    refine ⟨a, rfl, ⟨xs, .inl (.inl h)⟩, fun D nD => ?_⟩
    refine lc_list (K := K) (a := a) (xs := xs) (fun k H' => W.L H1 H' ∧ H' D = some (.lst (((xs.take k).filter p).map g))) ⟨W.put0 iv1 nD, upd_same⟩ (fun k H' _ hP => .inl (.inl (W.keep ga hP.1 h))) (fun k x H' hx hP => ?_)
      fun H' hP => q _ H' (W.trans l1 hP.1) ⟨D, rfl, W.fresh iv1 nD, by rw [hP.2, List.take_length]⟩
    obtain ⟨lP, eD⟩ := hP
    have xm := List.mem_of_getElem? hx
    have en' : EnvL (Ds.set i (some (dV x))) ((wipe σ [i]).set i (some x)) H' := env_lc rfl (en.st (W.trans l1 lP))
    have tk : (xs.take (k + 1)).filter p = (xs.take k).filter p ++ [x].filter p := by
      rw [List.take_add_one, hx, List.filter_append]
      rfl
    refine ⟨wipe_lc, ?_⟩
    refine ht x xm _ H' _ (W.step lP iv1) en' fun H2 l2 => ?_
    cases hp : p x with
    | true =>
      refine (if_pos rfl).mpr (hb x xm hp _ H2 _ (W.step l2 (W.step lP iv1)) (en'.st l2) fun y H3 l3 o3 => ?_)
      have eD3 := W.keep (W.fresh iv1 nD) l3 (W.keep (W.fresh iv1 nD) l2 eD)
      refine ⟨_, eD3, ?_, W.put iv1 (W.trans lP (W.trans l2 l3)) nD, ?_⟩
      · rw [List.length_map]
        refine sl_lt (Nat.le_trans (List.length_filter_le _ _) ?_)
        rw [List.length_take]
        omega
      · rw [upd_same, tk, List.map_append, (show y = g x from o3), List.filter_cons_of_pos hp]
        rfl
    | false =>
      refine (if_neg Bool.false_ne_true).mpr ⟨W.trans lP l2, ?_⟩
      rw [tk, List.filter_cons_of_neg (by simp [hp]), List.filter_nil, List.append_nil]
      exact W.keep (W.fresh iv1 nD) l2 eD
theorem ev_lcR {p : Nat → Bool} {g : Nat → V} (hl : AV Ds t [dN n]) (hz : n ≤ 100000) (ht : ∀ x < n, TV (Ds.set i (some (dN x))) tt (p x))
    (hb : ∀ x < n, p x = true → EV (Ds.set i (some (dN x))) te (dV (g x))) : EV Ds (tLc (iRng1 t) (gName i) tt te [i]) (dLst (((List.range n).filter p).map g)) := fun σ H Q iv en q =>
  hl σ H _ iv en fun vs H1 l1 o1 => by
    match vs, o1 with
    | [v], ⟨o1, _⟩ =>
      have iv1 := W.step l1 iv
      refine ⟨(n : Int), by rw [show v = V.int (n : Int) from o1], by omega, by omega, fun D nD => ?_⟩
      refine lc_range (lo := 0) (n := (n : Int).toNat) (fun k H' => W.L H1 H' ∧ H' D = some (.lst (((List.range k).filter p).map g))) ⟨W.put0 iv1 nD, upd_same⟩ (fun k H' hk hP => ?_)
        fun H' hP => q _ H' (W.trans l1 hP.1) ⟨D, rfl, W.fresh iv1 nD, by rw [hP.2, Int.toNat_natCast]⟩
      obtain ⟨lP, eD⟩ := hP
      rw [Int.toNat_natCast] at hk
      have en' : EnvL (Ds.set i (some (dN k))) ((wipe σ [i]).set i (some (.int (0 + (k : Int))))) H' := env_lc (show V.int (0 + (k : Int)) = V.int (k : Int) by rw [Int.zero_add]) (en.st (W.trans l1 lP))
      have tk : (List.range (k + 1)).filter p = (List.range k).filter p ++ [k].filter p := by
        rw [List.range_succ, List.filter_append]
      refine ⟨wipe_lc, ?_⟩
      refine ht k hk _ H' _ (W.step lP iv1) en' fun H2 l2 => ?_
      cases hp : p k with
      | true =>
        refine (if_pos rfl).mpr (hb k hk hp _ H2 _ (W.step l2 (W.step lP iv1)) (en'.st l2) fun y H3 l3 o3 => ?_)
        have eD3 := W.keep (W.fresh iv1 nD) l3 (W.keep (W.fresh iv1 nD) l2 eD)
        refine ⟨_, eD3, ?_, W.put iv1 (W.trans lP (W.trans l2 l3)) nD, ?_⟩
        · rw [List.length_map]
          refine sl_lt (Nat.le_trans (List.length_filter_le _ _) ?_)
          rw [List.length_range]
          omega
        · rw [upd_same, tk, List.map_append, (show y = g k from o3), List.filter_cons_of_pos hp]
          rfl
      | false =>
        refine (if_neg Bool.false_ne_true).mpr ⟨W.trans lP l2, ?_⟩
        rw [tk, List.filter_cons_of_neg (by simp [hp]), List.filter_nil, List.append_nil]
        exact W.keep (W.fresh iv1 nD) l2 eD
/-! special kinds: numbers over numbers -/
def nOf : V → Nat
  | .int i => i.toNat
  | _ => 0
theorem filt_vs (l : List Nat) (p : Nat → Bool) : (vs l).filter (fun x => p (nOf x)) = vs (l.filter p) := by
  unfold vs
  rw [List.filter_map]
  rfl
theorem ev_lcN {l : List Nat} {p : Nat → Bool} {g : Nat → V} (hl : EV Ds tl (dVs l)) (hz : l.length ≤ 100000) (ht : ∀ x ∈ l, TV (Ds.set i (some (dN x))) tt (p x))
    (hb : ∀ x ∈ l, p x = true → EV (Ds.set i (some (dN x))) te (dV (g x))) : EV Ds (tLc (iList K tl) (gName i) tt te [i]) (dLst ((l.filter p).map g)) := by
  have h := ev_lc (K := K) (i := i) (tt := tt) (te := te) (p := fun x => p (nOf x)) (g := fun x => g (nOf x)) hl (by rw [len_vs]; exact hz) (fun x hx => by
    obtain ⟨c, hc, rfl⟩ := List.mem_map.mp hx
    exact ht c hc) fun x hx hp => by
    obtain ⟨c, hc, rfl⟩ := List.mem_map.mp hx
    exact hb c hc hp
  rw [filt_vs] at h
  unfold vs at h
  rw [List.map_map] at h
  exact h
theorem filt_true {α : Type} (l : List α) : l.filter (fun _ => true) = l := List.filter_eq_self.mpr fun _ _ => rfl
/-- [x for x in l if ..] -/
theorem ev_lcF {l : List Nat} {p : Nat → Bool} (hl : EV Ds tl (dVs l)) (hz : l.length ≤ 100000) (hi : ∀ d, (Ds.set i (some d)).get i = some d) (ht : ∀ x ∈ l, TV (Ds.set i (some (dN x))) tt (p x)) (hn : Nat.ble (i + 1) Ds.n = true := by rfl) : EV Ds (tLc (iList K tl) (gName i) tt (tVar i) [i]) (dVs (l.filter p)) :=
  ev_lcN hl hz ht fun x hx _ => ev_var (hi _) hn
/-- [f(x) for x in l] -/
theorem ev_lcM {l : List Nat} {g : Nat → Nat} (hl : EV Ds tl (dVs l)) (hz : l.length ≤ 100000) (hb : ∀ x ∈ l, EV (Ds.set i (some (dN x))) te (dN (g x))) : EV Ds (tLc (iList K tl) (gName i) tYes te [i]) (dVs (l.map g)) := by
  have h := ev_lcN (K := K) (i := i) (tt := tYes) (te := te) (p := fun _ => true) (g := fun x => .int (g x : Int)) hl hz (fun x hx => tv_yes) fun x hx _ => hb x hx
  rw [filt_true] at h
  unfold dVs vs
  rw [List.map_map]
  exact h
theorem ev_lcRM {g : Nat → Nat} (hl : AV Ds t [dN n]) (hz : n ≤ 100000) (hb : ∀ x < n, EV (Ds.set i (some (dN x))) te (dN (g x))) : EV Ds (tLc (iRng1 t) (gName i) tYes te [i]) (dVs ((List.range n).map g)) := by
  have h := ev_lcR (i := i) (tt := tYes) (te := te) (p := fun _ => true) (g := fun x => .int (g x : Int)) hl hz (fun x hx => tv_yes) fun x hx _ => hb x hx
  rw [filt_true] at h
  unfold dVs vs
  rw [List.map_map]
  exact h
/-! ### built-ins -/
theorem cd_len {l : List V} : CrD (W := W) (fun xs H Q => ∃ p ys, xs = [.ref p] ∧ (SqL K H p ys ∨ SqT K H p ys) ∧ Q (.int ys.length) H) [dLst l] (dN l.length) := fun vs H Q iv o q => by
  match vs, o with
  | [v], ⟨⟨p, e, g, h⟩, _⟩ =>
    subst e
    exact ⟨p, _, rfl, .inl (SqL.of h), q _ H (W.refl H) rfl⟩
theorem cd_lenN {l : List Nat} : CrD (W := W) (fun xs H Q => ∃ p ys, xs = [.ref p] ∧ (SqL K H p ys ∨ SqT K H p ys) ∧ Q (.int ys.length) H) [dVs l] (dN l.length) := fun vs H Q iv o q => cd_len vs H Q iv o (by rw [len_vs]; exact q)
theorem sum_vs : ∀ l : List Nat, (l.map fun i : Nat => (i : Int)).sum = ((l.sum : Nat) : Int)
  | [] => rfl
  | x :: l => by
    rw [List.map_cons, List.sum_cons, List.sum_cons, sum_vs l]
    omega
theorem cd_sum {l : List Nat} : CrD (W := W) (rSum K) [dVs l] (dN l.sum) := fun vs H Q iv o q => by
  match vs, o with
  | [v], ⟨⟨p, e, g, h⟩, _⟩ =>
    subst e
    exact ⟨p, (l.map fun i : Nat => (i : Int)), rfl, SqL.of (by rw [h, vs_int]), q _ H (W.refl H) (by rw [sum_vs]; rfl)⟩
def sortN (l : List Nat) : List Nat := l.mergeSort fun a b => decide (a ≤ b)
theorem cd_sorted {l : List Nat} : CrD (W := W) (rSortedI K) [dVs l] (dVs (sortN l)) := fun vs H Q iv o q => by
  match vs, o with
  | [v], ⟨⟨p, e, g, h⟩, _⟩ =>
    subst e
    refine ⟨p, (l.map fun i : Nat => (i : Int)), rfl, SqL.of (by rw [h, vs_int]), fun ns' r pm od nr => ?_⟩
    obtain ⟨L, rfl, p2⟩ := back_vs pm
    have o2 : (L.map fun i : Nat => (i : Int)).Pairwise (· ≤ ·) := od
    rw [List.pairwise_map] at o2
    have o3 : L.Pairwise (· ≤ ·) := o2.imp fun h => by omega
    have e := sort_uniq p2 o3
    refine q _ _ (W.put0 iv nr) ⟨r, rfl, W.fresh iv nr, ?_⟩
    rw [upd_same, ← vs_int, e]
    rfl
theorem cd_tuple {l : List V} : CrD (W := W) (fun xs H Q => ∃ p ys, xs = [.ref p] ∧ ((SqL K H p ys ∧ ∀ l, H l = none → Q (.ref l) (upd H l (.tup ys))) ∨ (SqT K H p ys ∧ Q (.ref p) H))) [dLst l] (dTup l) := fun vs H Q iv o q => by
  match vs, o with
  | [v], ⟨⟨p, e, g, h⟩, _⟩ =>
    subst e
    exact ⟨p, _, rfl, .inl ⟨SqL.of h, fun r nr => q _ _ (W.put0 iv nr) ⟨r, rfl, W.fresh iv nr, upd_same⟩⟩⟩
/-! ### data, for repr and comparisons -/
/-! what repr tells -/
end
end Vf
set_option Elab.async false
set_option linter.all false
set_option maxRecDepth 100000
set_option maxHeartbeats 4000000
set_option pp.maxSteps 400
namespace Vf
open PySem PySem.Spec PyProof.Rows L2
variable {W : Wd}
/-! ### repr of rooms -/
section
variable {C : Addr} {K : PySem.W.Frag} {n : Nat} {B : List Nat}
end
/-! ### defs by what their bodies mean -/
def spW {ι : Type} (P : Wd → ι → Prop) (ds : (W : Wd) → ι → List (Dn W)) (d : (W : Wd) → ι → Dn W) : Sp := fun vs H Q _ => ∃ (W : Wd) (i : ι), P W i ∧ W.inv H ∧ OkL (ds W i) vs H ∧ ∀ v H', W.L H H' → (d W i).ok v H' → Q v H'
theorem spW_sd {ι : Type} {P : Wd → ι → Prop} {ds : (W : Wd) → ι → List (Dn W)} {d : (W : Wd) → ι → Dn W} {i : ι} (h : P W i) : SpD (spW P ds d) [] (ds W i) (d W i) := fun vs H Q iv o q => by
  rw [List.append_nil]
  exact ⟨W, i, h, iv, o, q⟩
section
variable {P : Program} {w : World} {K : PySem.W.Frag} {mg : Str → Option Value} {base : Heap} {x qual : Str} {st : Stmt} {f : Addr} {fd : FuncData} {N ps : List Str} {k : Nat}
  {ι : Type} {Pr : Wd → ι → Prop} {ds : (W : Wd) → ι → List (Dn W)} {d : (W : Wd) → ι → Dn W}
theorem fn_sv (F : Fun K x qual st f fd) (S : FnScope N ps (defScope st)) (len : ∀ W i, (ds W i).length = ps.length)
    (hb : ∀ (W : Wd) (i : ι), Pr W i → ∀ (cdv : Value) (A : Around) (outer : List Env) (s : Shared) (H : Hp) (E : XK), Room k (A.deeper (envOfC qual (defScope st) s.heap.objs.size f cdv)) →
      ∃ t, PSs (cxOf CX0 P w K mg base N qual (defScope st) f cdv A outer s H E).nox (defBody st) t ∧ SV (envOf (ds W i) (N.length - ps.length)) t (d W i)) : FnOk P w K mg base CX0 (k + 1) f fd ps (spW Pr ds d) := by
  refine F.ok S (fun vs H Q E h => ?_) (fun cdv A outer s H vs Q E hr h => ?_)
  · obtain ⟨W, i, _, _, o, _⟩ := h
    exact o.length.trans (len W i)
  · obtain ⟨W, i, p, iv, o, q⟩ := h
    obtain ⟨t, ht, sv⟩ := hb W i p cdv A outer s H E hr
    refine ⟨t, ht, sv _ _ H iv ?_ q⟩
    have l := o.length.trans (len W i)
    unfold L2.start
    rw [l]
    exact EnvL.start o
theorem fn_nv (F : Fun K x qual st f fd) (S : FnScope N ps (defScope st)) (len : ∀ W i, (ds W i).length = ps.length)
    (hb : ∀ (W : Wd) (i : ι), Pr W i → ∀ (cdv : Value) (A : Around) (outer : List Env) (s : Shared) (H : Hp) (E : XK), Room k (A.deeper (envOfC qual (defScope st) s.heap.objs.size f cdv)) →
      ∃ t, PSs (cxOf CX0 P w K mg base N qual (defScope st) f cdv A outer s H E).nox (defBody st) t ∧ ∃ Es, NV (envOf (ds W i) (N.length - ps.length)) t Es) : FnOk P w K mg base CX0 (k + 1) f fd ps (spW Pr ds fun _ _ => dV .non) := by
  refine F.ok S (fun vs H Q E h => ?_) (fun cdv A outer s H vs Q E hr h => ?_)
  · obtain ⟨W, i, _, _, o, _⟩ := h
    exact o.length.trans (len W i)
  · obtain ⟨W, i, p, iv, o, q⟩ := h
    obtain ⟨t, ht, _, sv⟩ := hb W i p cdv A outer s H E hr
    refine ⟨t, ht, sv _ _ H iv ?_ fun σ' H' l _ => q .non H' l rfl⟩
    have l := o.length.trans (len W i)
    unfold L2.start
    rw [l]
    exact EnvL.start o
end
end Vf
set_option Elab.async false
set_option linter.all false
set_option maxRecDepth 100000
set_option maxHeartbeats 4000000
namespace Vf
open PySem PySem.Spec PyProof.Rows L2
section
variable {P : Program} {w : World} {K : PySem.W.Frag} {mg : Str → Option Value} {base : Heap} {C : Addr}
/-- where the loop stands -/
def PbI (H : Hp) (a : Addr) (ws : List Nat) (i : Nat) (σ : L2.St) (H' : Hp) : Prop := ∃ (b : Addr) (B : List Nat) (z z2 : Option V), σ = [some (.ref a), some (.ref b), z, z2] ∧ Same H H' ∧ H b = none ∧ H' b = some (.lst (vs B)) ∧
  Plain B ∧ (∀ v, span B v ↔ span (ws.take i) v) ∧ B.length ≤ i
theorem erase_perm {α : Type} : ∀ (l : List α) (d : Nat) (h : d < l.length), (l[d] :: l.eraseIdx d).Perm l
  | x :: l, 0, _ => .refl _
  | x :: l, d + 1, h => by
    have h2 : d < l.length := Nat.lt_of_succ_lt_succ h
    exact (List.Perm.swap x l[d] (l.eraseIdx d)).trans (.cons x (erase_perm l d h2))
theorem pot_new {H : Hp} {p : Addr} {c : Int} {y : Nat} (h : y < 2147483648) : Pot (upd H p (.lst [.int (if c > 0 then c else 0), .int (y : Int)])) p := by
  refine ⟨c.toNat, y, ?_, h⟩
  have e : (if c > 0 then c else 0) = ((c.toNat : Nat) : Int) := by
    split <;> omega
  rw [upd_same, e]
theorem RoomNew.plain {C : Addr} {H0 H : Hp} {a : Addr} {n : Nat} {B : List Nat} (h : RoomNew C H0 H a n B) : Plain B := by
  obtain ⟨_, _, _, _, p, _⟩ := h
  exact p
theorem RoomNew.at {C : Addr} {H0 H : Hp} {a : Addr} {n : Nat} {B : List Nat} (h : RoomNew C H0 H a n B) : RoomAt C H a n B := by
  obtain ⟨dx, b, e1, e2, a1, a2, a3, a4, _⟩ := h
  exact ⟨dx, b, e1, e2, a1, a2, a3, a4⟩
theorem int_zero_add (i : Nat) : V.int (0 + (i : Int)) = V.int (i : Int) := by rw [Int.zero_add]
theorem odd_bit (m i : Nat) : decide ((m / 2 ^ i) &&& 1 ≠ 0) = m.testBit i := by
  rw [Nat.testBit_eq_decide_div_mod_eq, Nat.and_one_is_mod]
  rcases Nat.mod_two_eq_zero_or_one (m / 2 ^ i) with h | h <;> rw [h] <;> rfl
theorem nd_int {l : List Nat} (h : l.Nodup) : (l.map fun i : Nat => (i : Int)).Nodup := by
  unfold List.Nodup
  rw [List.pairwise_map]
  exact h.imp fun n z => n (by omega)
theorem sum_cast : ∀ l : List Nat, (l.map fun i : Nat => ((2 ^ i : Nat) : Int)).sum = (((l.map (2 ^ ·)).sum : Nat) : Int)
  | [] => rfl
  | x :: l => by
    rw [List.map_cons, List.sum_cons, sum_cast l, List.map_cons, List.sum_cons]
    omega
end
/-! ### more helps -/
abbrev kw2 : List V → List V → List V := fun _ zs => zs.reverse
theorem lt64 {n c : Nat} (h : n ≤ 24) (k : c < 2 ^ n) : c < 2 ^ 64 := Nat.lt_of_lt_of_le k (Nat.pow_le_pow_right (by decide) (by omega))
theorem pw_lt {n : Nat} (h : n ≤ 24) : 2 ^ n < 1073741824 := Nat.lt_of_le_of_lt (Nat.pow_le_pow_right (by decide) h) (by decide)
theorem pw_le {n m : Nat} (h : n ≤ m) : 2 ^ n ≤ 2 ^ m := Nat.pow_le_pow_right (by decide) h
variable {W : Wd}
section
variable {Ds : EnvT W} {d d1 d2 d3 : Dn W} {te : TE} {tt : TT} {b : Bool} {t tk : TA}
theorem ev_t (h : EV Ds te (dB b)) (e : b = true) : EV Ds te (dB true) := e ▸ h
theorem tv_f (h : TV Ds tt b) (e : b = false) : TV Ds tt false := e ▸ h
theorem tv_t (h : TV Ds tt b) (e : b = true) : TV Ds tt true := e ▸ h
theorem tv_nf (h : TV Ds tt true) : TV Ds (tNot tt) false := tv_not h
theorem ev_kw2 {sp : Sp} (h : SpD sp [] [d1, d2] d) (ha : AV Ds tk [d2, d1]) : EV Ds (fun σ H Q => tk σ H fun zs H1 => zs.length = 2 ∧ sp (kw2 [] zs) H1 Q E0) d := ev_callKw h (fun vs H o => by
  match vs, o with
  | [x, y], ⟨o1, o2, _⟩ => exact ⟨o2, o1, trivial⟩) rfl ha
end
end Vf
set_option Elab.async false
set_option linter.all false
set_option maxRecDepth 100000
set_option maxHeartbeats 4000000
namespace Vf
open PySem PySem.Spec PyProof.Rows L2
variable {W : Wd}
section
variable {Ds : EnvT W} {d d1 d2 d3 : Dn W} {te ta tb : TE} {tt : TT} {b : Bool} {t tk : TA} {ι : Type} {P : ι → Prop} {f : ι → Bool}
/-- a & ~b -/
theorem sub_mask (a : Nat) : ∀ b : Nat, (a &&& b) + (a ^^^ (a &&& b)) = a := by
  induction a using Nat.strongRecOn with
  | ind a ih =>
    intro b
    by_cases h0 : a = 0
    · subst h0
      rw [Nat.zero_and]
      rfl
    · have h := ih (a / 2) (by omega) (b / 2)
      have e1 : (a &&& b) / 2 = a / 2 &&& b / 2 := Nat.and_div_two
      have e2 : (a ^^^ (a &&& b)) / 2 = a / 2 ^^^ ((a &&& b) / 2) := Nat.xor_div_two
      rw [← e1, ← e2] at h
      have m1 : (a ^^^ (a &&& b)) % 2 = 1 ↔ ¬(a % 2 = 1 ↔ (a &&& b) % 2 = 1) := Nat.xor_mod_two_eq_one
      have m2 : (a &&& b) % 2 = 1 ↔ a % 2 = 1 ∧ b % 2 = 1 := Nat.and_mod_two_eq_one
      rcases Nat.mod_two_eq_zero_or_one a with k | k <;> rcases Nat.mod_two_eq_zero_or_one b with l | l <;> omega
theorem bitAnd_not (a b : Nat) : Builtin.bitAnd (a : Int) (Builtin.bitNot (b : Int)) = ((a ^^^ (a &&& b) : Nat) : Int) := by
  rw [PyProof.Rows.bitAnd_not, bitAnd_pp (by omega) (by omega), Int.toNat_natCast, Int.toNat_natCast]
  have := sub_mask a b
  omega
theorem ev_andNot {a b : Nat} (ha : EV Ds ta (dN a)) (hb : EV Ds tb (dN b)) :
    EV Ds (tOp (fun x y H Q => ∃ (a : Nat) (j : Int), x = .int a ∧ y = .int j ∧ Q (.int (Builtin.bitAnd a j)) H) ta (tUn (rU fun i => .int (Builtin.bitNot i)) tb)) (dN (a ^^^ (a &&& b))) := fun σ H Q iv en q =>
  ha σ H _ iv en fun x H1 l1 o1 => hb σ H1 _ (W.step l1 iv) (en.st l1) fun y H2 l2 o2 => ⟨b, o2, a, _, o1, rfl, by
    rw [bitAnd_not]
    exact q _ H2 (W.trans l1 l2) rfl⟩
end
/-! ### the law -/
theorem vals_rev : ∀ {xs : List V} {us : List Value}, Vals xs us → Vals xs.reverse us.reverse
  | [], _, .nil => .nil
  | x :: xs, u :: us, .cons r t => by
    rw [List.reverse_cons, List.reverse_cons]
    exact (vals_rev t).append (.cons r .nil)
def sp_law (K : PySem.W.Frag) : Sp := fun vs0 H Q _ => ∃ (a : Addr) (ns : List Int), vs0 = [.ref a] ∧ SqL K H a (ns.map V.int) ∧ ∀ H', Q (.bl true) H'
/-- a law's one cell -/
def sp_right : Sp := spW (ι := Addr) (fun W p => IsPot W p) (fun _ p => [dV (.ref p)]) fun _ _ => dB true
/-! ### the promises of the rooms made of rooms -/
section
variable {C : Addr} {n m : Nat} {A B ws : List Nat}
def sp_check_room (C : Addr) : Sp := spW (ι := Nat × List Nat) (fun _ _ => True) (fun _ i => [dRoom C i.1 i.2]) fun _ _ => dV .non
theorem sd_check_room : SpD (sp_check_room C) [] [(dRoom C n B : Dn W)] (dV .non) := spW_sd (i := (n, B)) trivial
theorem sd_plain_basis (h : ∀ v ∈ ws, v < 2 ^ 64) (hl : ws.length ≤ 1000) : SpD (W := W) sp_plain_basis [] [dVs ws] (dVs (bas ws)) := fun vs H Q iv o q => by
  match vs, o with
  | [v], ⟨⟨a, e, g, h'⟩, _⟩ =>
    subst e
    refine ⟨a, ws, rfl, .inl h', h, hl, fun H' p B s np e pl sp _ => q _ H' (W.same s) ⟨p, rfl, W.fresh iv np, ?_⟩⟩
    rw [e, bas_of pl sp]
/-- of so many places, what is off above -/
noncomputable def lowB (n : Nat) (ws : List Nat) : List Nat := (bas ws).filter fun w => decide (w < 2 ^ n)
theorem lowB_plain (n : Nat) (ws : List Nat) : Plain (lowB n ws) := plain_sub List.filter_sublist (bas_plain ws)
theorem lowB_lt {n : Nat} {ws : List Nat} : ∀ c ∈ lowB n ws, c < 2 ^ n := fun c hc => of_decide_eq_true (List.mem_filter.mp hc).2
theorem lowB_span (n : Nat) (ws : List Nat) (v : Nat) : span (lowB n ws) v ↔ span ws v ∧ v < 2 ^ n := by
  unfold lowB
  rw [low_span (bas_plain ws), bas_span]
theorem bas_lowB (n : Nat) (ws : List Nat) : bas (lowB n ws) = lowB n ws := bas_self (lowB_plain n ws)
structure LowP (i : Nat × List Nat) : Prop where
  n1 : 1 ≤ i.1
  n24 : i.1 ≤ 24
  lt : ∀ v ∈ i.2, v < 2 ^ 64
  len : i.2.length ≤ 1000
def sp_lower_room (C : Addr) : Sp := spW (ι := Nat × List Nat) (fun _ i => LowP i) (fun _ i => [dN i.1, dVs i.2]) fun _ i => dRoom C i.1 (lowB i.1 i.2)
theorem sd_lower_room (h1 : 1 ≤ n) (h24 : n ≤ 24) (h : ∀ v ∈ ws, v < 2 ^ 64) (hl : ws.length ≤ 1000) : SpD (sp_lower_room C) [] [(dN n : Dn W), dVs ws] (dRoom C n (lowB n ws)) := spW_sd (i := (n, ws)) ⟨h1, h24, h, hl⟩
def comB (n : Nat) (A B : List Nat) : List Nat := (A.map fun w => (w <<< n) ||| w) ++ B.map fun w => w <<< n
theorem shl_lt {n w : Nat} (h24 : n ≤ 24) (h : w < 2 ^ n) : w <<< n < 2 ^ 64 := by
  rw [Nat.shiftLeft_eq]
  have h1 : 2 ^ n ≤ 2 ^ 24 := Nat.pow_le_pow_right (by decide) h24
  have h2 : w * 2 ^ n ≤ 2 ^ 24 * 2 ^ 24 := Nat.mul_le_mul (by omega) h1
  exact Nat.lt_of_le_of_lt h2 (by decide)
theorem comB_span (hA : ∀ a ∈ A, a < 2 ^ n) (v : Nat) : span (lowB n (comB n A B)) v ↔ span A v ∧ span B v := common_span hA v
end
end Vf
namespace Vf
open PySem PySem.Spec PyProof.Rows L2
variable {W : Wd}
section
variable {C : Addr} {n m : Nat} {A B ws : List Nat}
theorem sd_check_word (h1 : 1 ≤ n) (h24 : n ≤ 24) (h : m < 2 ^ n) : SpD (W := W) sp_check_word [] [dN m, dN n] (dV .non) := fun vs H Q iv o q => by
  match vs, o with
  | [v, u], ⟨e1, e2, _⟩ =>
    rw [show v = V.int (m : Int) from e1, show u = V.int (n : Int) from e2]
    exact ⟨m, n, rfl, h1, h24, h, q _ H (W.refl H) rfl⟩
/-- the places of a that are off in w -/
def offB (w a : Nat) : Nat := a ^^^ (a &&& w)
theorem linF_off (w : Nat) : LinF (offB w) := linF_xor linF_id (linF_and w)
theorem offB_zero {w a : Nat} : offB w a = 0 ↔ a &&& w = a := ⟨fun h => (xor_zero_iff h).symm, fun h => by unfold offB; rw [h, Nat.xor_self]⟩
theorem offB_lt {w a n : Nat} (h : a < 2 ^ n) : offB w a < 2 ^ n := Nat.xor_lt_two_pow h (Nat.lt_of_le_of_lt Nat.and_le_left h)
def shoB (n : Nat) (B : List Nat) (w : Nat) : List Nat := B.map fun b => (offB w b <<< n) ||| b
def sp_shortened (C : Addr) : Sp := spW (ι := Nat × List Nat × Nat) (fun _ i => i.2.2 < 2 ^ i.1) (fun _ i => [dRoom C i.1 i.2.1, dN i.2.2]) fun _ i => dRoom C i.1 (lowB i.1 (shoB i.1 i.2.1 i.2.2))
theorem sd_shortened (h : m < 2 ^ n) : SpD (sp_shortened C) [] [(dRoom C n B : Dn W), dN m] (dRoom C n (lowB n (shoB n B m))) := spW_sd (i := (n, B, m)) h
theorem shoB_span (hB : ∀ a ∈ B, a < 2 ^ n) (v : Nat) : span (lowB n (shoB n B m)) v ↔ span B v ∧ v &&& m = v := by
  rw [lowB_span]
  unfold shoB
  rw [two_floors (linF_off m) hB, offB_zero]
theorem shoB_lt (h24 : n ≤ 24) (hB : ∀ w ∈ B, w < 2 ^ n) : ∀ v ∈ shoB n B m, v < 2 ^ 64 := fun v hv => by
  obtain ⟨w, hw, rfl⟩ := List.mem_map.mp hv
  exact Nat.or_lt_two_pow (shl_lt h24 (offB_lt (hB w hw))) (lt64 h24 (hB w hw))
end
section
variable {Ds Es Fs : EnvT W} {ts tu : TS} {tl : TE} {i : Nat} {d : Dn W}
end
end Vf
set_option Elab.async false
set_option linter.all false
set_option maxRecDepth 100000
set_option maxHeartbeats 4000000
namespace Vf
/-! ### helps for the laws' rooms -/
theorem nd_t {p : Prop} [Decidable p] (h : p) : (!decide p) = false := by rw [decide_eq_true h]; rfl
theorem d_t {p : Prop} [Decidable p] (h : p) : decide p = true := decide_eq_true h
theorem SpanL.pos {ws L : List Nat} (h : SpanL ws L) : 0 < L.length := List.length_pos_of_mem ((h.1 0).mpr (span_zero ws))
theorem SpanL.len {ws L : List Nat} (h : SpanL ws L) : L.length = 2 ^ (bas ws).length := by
  obtain ⟨m1, n1, l1⟩ := sums_ok (bas_plain ws).1
  rw [← l1]
  exact len_same (h.2.imp fun k => Nat.ne_of_lt k) n1 fun x => by rw [h.1, m1, bas_span]
theorem plain_ex2 : ∀ ws : List Nat, ∃ B, Plain B ∧ (∀ v, span B v ↔ span ws v) ∧ B.length ≤ ws.length
  | [] => ⟨[], plain_nil, fun _ => Iff.rfl, Nat.le_refl _⟩
  | w :: ws => by
    obtain ⟨B, pl, sp, ln⟩ := plain_ex2 ws
    have e : ∀ v, span (restOf w B :: B) v ↔ span (w :: ws) v := fun v => by
      rw [rest_room pl.1, span_cons, span_cons, sp, sp]
    by_cases r0 : restOf w B = 0
    · refine ⟨B, pl, fun v => ?_, Nat.le_succ_of_le ln⟩
      rw [← e v, r0]
      exact ⟨span_sub fun x hx => span_mem (List.mem_cons_of_mem _ hx), span_sub fun x hx => (List.mem_cons.mp hx).elim (fun e => by rw [e]; exact span_zero B) span_mem⟩
    · obtain ⟨D, pm, ge⟩ := sort_desc (B.map (clear1 (restOf w B)) ++ [restOf w B])
      have pD := piv_perm pm.symm (put_piv pl.1 r0 fun x hx => rest_off pl.1 w hx)
      refine ⟨D, ⟨pD, ge_gt pD ge⟩, fun v => by rw [span_perm pm v, put_span, e v], ?_⟩
      rw [pm.length_eq, List.length_append, List.length_map]
      exact Nat.succ_le_succ ln
theorem bas_len (ws : List Nat) : (bas ws).length ≤ ws.length := by
  obtain ⟨B, pl, sp, ln⟩ := plain_ex2 ws
  rw [← bas_of pl sp]
  exact ln
theorem SpanL.le {ws L : List Nat} (h : SpanL ws L) (k : ws.length ≤ 8) : L.length ≤ 256 := by
  rw [h.len]
  exact Nat.le_trans (Nat.pow_le_pow_right (by decide) (Nat.le_trans (bas_len ws) k)) (by decide)
theorem SpanL.congr {ws us L : List Nat} (h : SpanL ws L) (k : ∀ v, span ws v ↔ span us v) : SpanL us L := ⟨fun v => (h.1 v).trans (k v), h.2⟩
theorem SpanL.uniq {ws L M : List Nat} (h : SpanL ws L) (k : SpanL ws M) : L = M := up_eq h.2 k.2 fun v => (h.1 v).trans (k.1 v).symm
theorem span_left {A B : List Nat} {v : Nat} (h : span A v) : span (A ++ B) v := span_sub (fun w hw => span_mem (List.mem_append_left _ hw)) h
theorem span_right {A B : List Nat} {v : Nat} (h : span B v) : span (A ++ B) v := span_sub (fun w hw => span_mem (List.mem_append_right _ hw)) h
/-- a sum within a room -/
theorem span_app_sub {A B D : List Nat} (hA : ∀ v, span A v → span D v) (hB : ∀ v, span B v → span D v) {v : Nat} (h : span (A ++ B) v) : span D v := by
  obtain ⟨a, b, ha, hb, rfl⟩ := span_append.mp h
  exact span_xor (hA a ha) (hB b hb)
theorem span_emp (v : Nat) : span [] v ↔ v = 0 := ⟨span_nil, fun h => h ▸ span_zero []⟩
/-- all words of n places -/
theorem span_units (n v : Nat) : span ((List.range n).map (2 ^ ·)) v ↔ v < 2 ^ n := by
  constructor
  · refine span_lt fun w hw => ?_
    obtain ⟨i, hi, rfl⟩ := List.mem_map.mp hw
    exact Nat.pow_lt_pow_right (by decide) (List.mem_range.mp hi)
  · intro h
    induction n generalizing v with
    | zero =>
      have : v = 0 := by simpa using h
      rw [this]
      exact span_zero _
    | succ n ih =>
      have up : ∀ w, span ((List.range n).map (2 ^ ·)) w → span ((List.range (n + 1)).map (2 ^ ·)) w := fun w => span_sub fun u hu => by
        obtain ⟨i, hi, rfl⟩ := List.mem_map.mp hu
        exact span_mem (List.mem_map_of_mem (List.mem_range.mpr (Nat.lt_succ_of_lt (List.mem_range.mp hi))))
      by_cases k : v < 2 ^ n
      · exact up v (ih v k)
      · have hm : span ((List.range (n + 1)).map (2 ^ ·)) (2 ^ n) := span_mem (List.mem_map_of_mem (List.mem_range.mpr (Nat.lt_succ_self n)))
        have hl : v ^^^ 2 ^ n < 2 ^ n := by
          apply Nat.lt_pow_two_of_testBit
          intro i hi
          rw [Nat.testBit_xor, Nat.testBit_two_pow]
          by_cases e : i = n
          · subst e
            have : v.testBit i = true := by
              have h2 : i = v.log2 := by
                have v0 : v ≠ 0 := by
                  have := Nat.two_pow_pos i
                  omega
                have l1 := (lt_pow_log (n := i + 1) v0).mp h
                have l2 : ¬ v.log2 < i := fun z => k ((lt_pow_log (n := i) v0).mpr z)
                omega
              have v0 : v ≠ 0 := by
                have := Nat.two_pow_pos i
                omega
              have := top_bit v0
              rw [← h2] at this
              exact this
            rw [this, decide_eq_true rfl]
            rfl
          · rw [bit_hi h (by omega), decide_eq_false (Ne.symm e)]
            rfl
        have := span_xor (up _ (ih _ hl)) hm
        rwa [xor_cancel] at this
theorem sum_common2 {n : Nat} {A B : List Nat} (pA : Plain A) (pB : Plain B) (hA : ∀ a ∈ A, a < 2 ^ n) (hB : ∀ b ∈ B, b < 2 ^ n) : (bas (A ++ B)).length + (lowB n (comB n A B)).length = A.length + B.length := by
  have h := sum_common hA hB (fun v => comB_span hA v)
  rwa [bas_lowB, bas_self pA, bas_self pB] at h
end Vf
namespace Vf
open PySem PySem.Spec PyProof.Rows L2
/-! ### rules within a comprehension: the written part told by name -/
section
variable {X : Cx} (K : PySem.W.Frag)
theorem op_inS (h : X.K = K := by rfl) : OpR X (compareOp .In) (rIn K false) := h ▸ op_in_seq
theorem cr_sortedS (h : X.K = K := by rfl) : CallR X (.builtin "sorted") (rSortedI K) := h ▸ cr_sortedI
end
end Vf
namespace Vf
open PySem PySem.Spec PyProof.Rows L2
theorem ix_listS {X : Cx} (K : PySem.W.Frag) (h : X.K = K := by rfl) : IxR X (rIxL K) := h ▸ ix_list
theorem sl_listS {X : Cx} (K : PySem.W.Frag) (h : X.K = K := by rfl) : SlR X (rSlL K) := h ▸ sl_list
end Vf
namespace Vf
/-! ### equal rooms -/
end Vf
namespace Vf
/-! ### shortened, cut -/
section
variable {n w u v : Nat} {B : List Nat}
end
end Vf
set_option Elab.async false
set_option linter.all false
set_option maxRecDepth 100000
set_option maxHeartbeats 4000000
namespace Vf
open PySem PySem.Spec PyProof.Rows L2
/-! ### words led by sequences of places -/
theorem pow_add_off {x a : Nat} (h : x.testBit a = false) : 2 ^ a + x = x ^^^ 2 ^ a := by
  have k := sub_mask (x ^^^ 2 ^ a) (2 ^ a)
  have e : (x ^^^ 2 ^ a) &&& 2 ^ a = 2 ^ a := by
    apply Nat.eq_of_testBit_eq
    intro i
    rw [Nat.testBit_and, Nat.testBit_xor, Nat.testBit_two_pow]
    by_cases q : a = i
    · subst q
      rw [h, decide_eq_true rfl]
      rfl
    · rw [decide_eq_false q, Bool.and_false]
  rw [e, xor_cancel] at k
  exact k
theorem sumPow_bit : ∀ {l : List Nat}, l.Nodup → ∀ j, ((l.map (2 ^ ·)).sum).testBit j = decide (j ∈ l)
  | [], _, j => by simp
  | a :: l, h, j => by
    obtain ⟨h1, h2⟩ := List.nodup_cons.mp h
    have ih := sumPow_bit (l := l) h2
    have off : ((l.map (2 ^ ·)).sum).testBit a = false := by rw [ih a, decide_eq_false h1]
    rw [List.map_cons, List.sum_cons, pow_add_off off, Nat.testBit_xor, ih j, Nat.testBit_two_pow]
    by_cases q : j = a
    · subst q
      simp [h1]
    · have q' : ¬ a = j := fun e => q e.symm
      simp [q, q']
theorem getD_el {s : List Nat} {i : Nat} (h : i < s.length) : s.getD i 0 = s[i] := by
  rw [List.getD_eq_getElem?_getD, List.getElem?_eq_getElem h]
  rfl
def ledL (s : List Nat) (w : Nat) : List Nat := ((List.range s.length).filter fun i => w.testBit i).map fun i => s.getD i 0
def ledN (s : List Nat) (w : Nat) : Nat := ((ledL s w).map (2 ^ ·)).sum
theorem getD_inj {s : List Nat} (h : s.Nodup) {i j : Nat} (hi : i < s.length) (hj : j < s.length) (e : s.getD i 0 = s.getD j 0) : i = j := by
  rw [getD_el hi, getD_el hj] at e
  rcases Nat.lt_trichotomy i j with k | k | k
  · exact absurd e (List.pairwise_iff_getElem.mp h i j hi hj k)
  · exact k
  · exact absurd e.symm (List.pairwise_iff_getElem.mp h j i hj hi k)
theorem ledL_nd {s : List Nat} (h : s.Nodup) (w : Nat) : (ledL s w).Nodup := by
  unfold ledL List.Nodup
  rw [List.pairwise_map]
  refine ((List.nodup_range (n := s.length)).filter _).imp_of_mem fun {a b} ha hb ne e => ne ?_
  exact getD_inj h (List.mem_range.mp (List.mem_filter.mp ha).1) (List.mem_range.mp (List.mem_filter.mp hb).1) e
theorem ledL_mem {s : List Nat} {w j : Nat} : j ∈ ledL s w ↔ ∃ i, i < s.length ∧ w.testBit i = true ∧ s.getD i 0 = j := by
  unfold ledL
  rw [List.mem_map]
  constructor
  · rintro ⟨i, hi, e⟩
    exact ⟨i, List.mem_range.mp (List.mem_filter.mp hi).1, (List.mem_filter.mp hi).2, e⟩
  · rintro ⟨i, h1, h2, e⟩
    exact ⟨i, List.mem_filter.mpr ⟨List.mem_range.mpr h1, h2⟩, e⟩
theorem ledN_at {s : List Nat} (h : s.Nodup) (w : Nat) {i : Nat} (hi : i < s.length) : (ledN s w).testBit (s.getD i 0) = w.testBit i := by
  unfold ledN
  rw [sumPow_bit (ledL_nd h w), Bool.eq_iff_iff, decide_eq_true_iff, ledL_mem]
  constructor
  · rintro ⟨j, h1, h2, e⟩
    rw [← getD_inj h h1 hi e]
    exact h2
  · exact fun k => ⟨i, hi, k, rfl⟩
theorem ledN_off {s : List Nat} (h : s.Nodup) (w : Nat) {j : Nat} (hj : ¬ ∃ i, i < s.length ∧ s.getD i 0 = j) : (ledN s w).testBit j = false := by
  unfold ledN
  rw [sumPow_bit (ledL_nd h w), decide_eq_false]
  rw [ledL_mem]
  rintro ⟨i, h1, _, e⟩
  exact hj ⟨i, h1, e⟩
theorem led_ext {s : List Nat} {x y : Nat} (hx : ∀ j, (¬ ∃ i, i < s.length ∧ s.getD i 0 = j) → x.testBit j = y.testBit j) (h : ∀ i, i < s.length → x.testBit (s.getD i 0) = y.testBit (s.getD i 0)) : x = y := by
  apply Nat.eq_of_testBit_eq
  intro j
  by_cases k : ∃ i, i < s.length ∧ s.getD i 0 = j
  · obtain ⟨i, hi, rfl⟩ := k
    exact h i hi
  · exact hx j k
theorem ledN_lin {s : List Nat} (h : s.Nodup) : LinF (ledN s) := fun a b => by
  refine led_ext (s := s) (fun j k => ?_) fun i hi => ?_
  · rw [Nat.testBit_xor, ledN_off h _ k, ledN_off h _ k, ledN_off h _ k]
    rfl
  · rw [Nat.testBit_xor, ledN_at h _ hi, ledN_at h _ hi, ledN_at h _ hi, Nat.testBit_xor]
theorem ledN_and {s : List Nat} (h : s.Nodup) (a b : Nat) : ledN s (a &&& b) = ledN s a &&& ledN s b := by
  refine led_ext (s := s) (fun j k => ?_) fun i hi => ?_
  · rw [Nat.testBit_and, ledN_off h _ k, ledN_off h _ k, ledN_off h _ k]
    rfl
  · rw [Nat.testBit_and, ledN_at h _ hi, ledN_at h _ hi, ledN_at h _ hi, Nat.testBit_and]
/-- a sequence of n places -/
structure Seq (n : Nat) (s : List Nat) : Prop where
  len : s.length = n
  nd : s.Nodup
  lt : ∀ x ∈ s, x < n
theorem Seq.of {n : Nat} {s : List Nat} (h : s.Perm (List.range n)) : Seq n s := ⟨by rw [h.length_eq, List.length_range], h.nodup_iff.mpr List.nodup_range, fun x hx => List.mem_range.mp (h.mem_iff.mp hx)⟩
theorem Seq.at {n : Nat} {s : List Nat} (h : Seq n s) {i : Nat} (hi : i < n) : s.getD i 0 < n := by
  have hi' : i < s.length := by rw [h.len]; exact hi
  rw [getD_el hi']
  exact h.lt _ (List.getElem_mem hi')
theorem ledN_lt {n : Nat} {s : List Nat} (h : Seq n s) (w : Nat) : ledN s w < 2 ^ n := by
  apply Nat.lt_pow_two_of_testBit
  intro j hj
  refine ledN_off h.nd w ?_
  rintro ⟨i, hi, rfl⟩
  have := h.at (i := i) (by rw [← h.len]; exact hi)
  omega
theorem ledN_inj {n : Nat} {s : List Nat} (h : Seq n s) {a b : Nat} (ha : a < 2 ^ n) (hb : b < 2 ^ n) (e : ledN s a = ledN s b) : a = b := by
  apply Nat.eq_of_testBit_eq
  intro i
  by_cases hi : i < n
  · have hi' : i < s.length := by rw [h.len]; exact hi
    rw [← ledN_at h.nd a hi', ← ledN_at h.nd b hi', e]
  · rw [bit_hi ha (by omega), bit_hi hb (by omega)]
theorem spots_mem (w i : Nat) : i ∈ spots w ↔ i < 24 ∧ w.testBit i = true := by
  unfold spots spotsK
  rw [List.mem_filter, List.mem_range]
theorem ledN_pc {n : Nat} {s : List Nat} (h : Seq n s) (h24 : n ≤ 24) {w : Nat} (hw : w < 2 ^ n) : pc (ledN s w) = pc w := by
  rw [← spots_len, ← spots_len]
  have e : (spots (ledN s w)).length = (ledL s w).length := len_same (spots_nd _) (ledL_nd h.nd w) fun j => by
    rw [spots_mem]
    unfold ledN
    rw [sumPow_bit (ledL_nd h.nd w), decide_eq_true_iff]
    refine ⟨fun k => k.2, fun k => ⟨?_, k⟩⟩
    obtain ⟨i, hi, _, rfl⟩ := ledL_mem.mp k
    have := h.at (i := i) (by rw [← h.len]; exact hi)
    omega
  rw [e]
  unfold ledL
  rw [List.length_map]
  refine len_same ((List.nodup_range).filter _) (spots_nd w) fun j => ?_
  rw [spots_mem, List.mem_filter, List.mem_range, h.len]
  constructor
  · rintro ⟨a, b⟩
    exact ⟨by omega, b⟩
  · rintro ⟨a, b⟩
    refine ⟨Nat.lt_of_not_le fun k => ?_, b⟩
    rw [bit_hi hw k] at b
    cases b
/-! ### what the defs of words mean -/
variable {W : Wd}
section
variable {C : Addr} {n m w : Nat} {B l s : List Nat}
/-- a list or a tuple of numbers -/
def dLT (l : List Nat) : Dn W := ⟨fun v H => ∃ a, v = .ref a ∧ W.F a ∧ Sq H a (vs l), fun st ⟨a, e, g, h⟩ => ⟨a, e, g, h.imp (W.keep g st) (W.keep g st)⟩⟩
theorem lt_of_L {Ds : EnvT W} {te : TE} (h : EV Ds te (dVs l)) : EV Ds te (dLT l) := ev_wk h fun v H ⟨a, e, g, h⟩ => ⟨a, e, g, .inl h⟩
theorem lt_of_T {Ds : EnvT W} {te : TE} (h : EV Ds te (dTup (vs l))) : EV Ds te (dLT l) := ev_wk h fun v H ⟨a, e, g, h⟩ => ⟨a, e, g, .inr h⟩
theorem sd_places_of (h : m < 2 ^ 24) : SpD (W := W) sp_places_of [] [dN m] (dVs (spots m)) := fun vs H Q iv o q => by
  match vs, o with
  | [v], ⟨e, _⟩ =>
    rw [show v = V.int (m : Int) from e]
    exact ⟨m, rfl, h, fun H' p s np e => q _ H' (W.same s) ⟨p, rfl, W.fresh iv np, e⟩⟩
theorem sd_are_spots (nd : l.Nodup) (h : ∀ i ∈ l, i < n) (hl : l.length ≤ 24) : SpD (W := W) sp_are_spots [] [dN n, dLT l] (dB true) := fun vs H Q iv o q => by
  match vs, o with
  | [v, u], ⟨e1, ⟨a, e2, g, hs⟩, _⟩ =>
    subst e2
    rw [show v = V.int (n : Int) from e1]
    exact ⟨a, l, n, rfl, hs, nd, h, hl, fun H' s => q _ H' (W.same s) rfl⟩
theorem sd_word_of (nd : l.Nodup) (h : ∀ i ∈ l, i < 24) (hl : l.length ≤ 24) : SpD (W := W) sp_word_of [] [dLT l] (dN (l.map (2 ^ ·)).sum) := fun vs H Q iv o q => by
  match vs, o with
  | [u], ⟨⟨a, e2, g, hs⟩, _⟩ =>
    subst e2
    exact ⟨a, l, rfl, hs, nd, h, hl, fun H' s => q _ H' (W.same s) rfl⟩
theorem cd_lenLT {K : PySem.W.Frag} : CrD (W := W) (fun xs H Q => ∃ p ys, xs = [.ref p] ∧ (SqL K H p ys ∨ SqT K H p ys) ∧ Q (.int ys.length) H) [dLT l] (dN l.length) := fun vs H Q iv o q => by
  match vs, o with
  | [v], ⟨⟨p, e, g, h⟩, _⟩ =>
    subst e
    exact ⟨p, _, rfl, h.len, by rw [len_vs]; exact q _ H (W.refl H) rfl⟩
theorem od_ixN {K : PySem.W.Frag} {k : Nat} (h : k < l.length) : OpD (W := W) (rIxL K) (dVs l) (dN k) (dN (l.getD k 0)) := od_ixL (by rw [List.getElem?_eq_getElem h, getD_el h])
def exB (B s : List Nat) : List Nat := B.map (ledN s)
theorem exB_span (h : Seq n s) (v : Nat) : span (bas (exB B s)) v ↔ ∃ a, span B a ∧ v = ledN s a := by
  unfold exB
  rw [bas_span, span_map (ledN_lin h.nd)]
theorem exB_lt (h : Seq n s) : ∀ c ∈ exB B s, c < 2 ^ n := fun c hc => by
  obtain ⟨a, _, rfl⟩ := List.mem_map.mp hc
  exact ledN_lt h a
end
end Vf
namespace Vf
open PySem PySem.Spec PyProof.Rows L2
variable {W : Wd}
section
variable {Ds Es Fs : EnvT W} {d : Dn W} {te : TE} {ta : TA} {ts t1 t2 tu : TS} {n i j : Nat} {K : PySem.W.Frag} {l : List Nat}
theorem rg_vs (n : Nat) : rgV 0 (n : Int) = vs (List.range n) := by
  unfold rgV vs
  rw [show ((n : Int) - 0).toNat = n by omega]
  refine List.map_congr_left fun i _ => ?_
  rw [Int.zero_add]
theorem ev_listRg (hn : n ≤ 100000) (h : EV Ds te (dN n)) : EV Ds (tLstRg (tRg1 te)) (dVs (List.range n)) := fun σ H Q iv en q => h σ H _ iv en fun v H1 l1 o1 => by
  have iv1 := W.step l1 iv
  refine ⟨n, o1, RgOk.of_le (by omega) (by omega) (by omega) (by omega), fun p np => q _ _ (W.trans l1 (W.put0 iv1 np)) ⟨p, rfl, W.fresh iv1 np, ?_⟩⟩
  rw [upd_same, rg_vs]
end
end Vf
set_option Elab.async false
set_option linter.all false
set_option maxRecDepth 100000
set_option maxHeartbeats 4000000
namespace Vf
open PySem PySem.Spec PyProof.Rows L2
variable {W : Wd}
/-! ### fewer meanings -/
def AllIn (Gs : EnvT W) : List (Nat × Dn W) → Prop
  | [] => True
  | p :: r => Gs.get p.1 = some p.2 ∧ AllIn Gs r
theorem getE_in {Gs : EnvT W} : ∀ {l : List (Nat × Dn W)} {i : Nat} {d : Dn W}, AllIn Gs l → getE l i = some d → Gs.get i = some d
  | [], _, _, _, e => by cases e
  | (j, c) :: l, i, d, ⟨h1, h2⟩, e => by
    have e : (bif Nat.beq j i then some c else getE l i) = some d := e
    cases k : Nat.beq j i with
    | true =>
      rw [k] at e
      have e : some c = some d := e
      have := Nat.eq_of_beq_eq_true k
      subst this
      rw [← e]
      exact h1
    | false =>
      rw [k] at e
      exact getE_in h2 e
theorem EnvL.sub {Gs Es : EnvT W} {σ : L2.St} {H : Hp} (h : EnvL Gs σ H) (hn : Es.n = Gs.n) (k : AllIn Gs Es.l) : EnvL Es σ H := ⟨h.1.trans hn.symm, fun i d e lt => h.2 i d (getE_in k e) lt⟩
section
variable {Ds Es Fs Gs : EnvT W} {d : Dn W} {te : TE} {ta : TA} {tt : TT} {ts t1 t2 tu : TS} {n i j : Nat} {K : PySem.W.Frag} {l : List Nat}
theorem nv_sub (h : NV Ds ts Gs) (hn : Es.n = Gs.n) (k : AllIn Gs Es.l) : NV Ds ts Es := fun D σ H iv en q => h D σ H iv en fun σ' H' l e => q σ' H' l (e.sub hn k)
/-! ### words led, by the law's own -/
end
/-! ### the sequence that leads back, and one behind another, made in one loop -/
end Vf
set_option Elab.async false
set_option linter.all false
set_option maxRecDepth 100000
set_option maxHeartbeats 4000000
namespace Vf
open PySem PySem.Spec PyProof.Rows L2
/-! ### lists that a def makes and changes: cells, by slot and content -/
theorem upd_del {H : Hp} {p : Addr} {o : HO} (h : H p = some o) : upd (del p H) p o = H := by
  funext b
  by_cases e : b = p
  · subst e
    rw [upd_same, h]
  · rw [upd_ne e, del_ne e]
theorem del_upd {H : Hp} {p : Addr} {o : HO} (h : H p = none) : del p (upd H p o) = H := by
  funext b
  by_cases e : b = p
  · subst e
    rw [del_same, h]
  · rw [del_ne e, upd_ne e]
theorem del_updS {H : Hp} {p : Addr} {o : HO} : del p (upd H p o) = del p H := by
  funext b
  by_cases e : b = p
  · subst e
    rw [del_same, del_same]
  · rw [del_ne e, del_ne e, upd_ne e]
variable {W : Wd}
theorem L_del {H : Hp} {p : Addr} {o : HO} (iv : W.inv (del p H)) (h : H p = some o) : W.L (del p H) H := by
  have := W.put0 (o := o) iv del_same
  rwa [upd_del h] at this
/-- a list made anew -/
def FL (Ds : EnvT W) (te : TE) (xs : List V) : Prop := ∀ (σ : L2.St) (H : Hp) (Q : VK), W.inv H → EnvL Ds σ H → (∀ p H', H p = none → W.F p → W.L H (del p H') → H' p = some (.lst xs) → Q (.ref p) H') → te σ H Q
/-- the cells of σ in H; without them the heap is G -/
def CE (W : Wd) : List (Nat × List V) → L2.St → Hp → Hp → Prop
  | [], _, H, G => G = H
  | c :: cs, σ, H, G => ∃ p, σ[c.1]? = some (some (.ref p)) ∧ W.F p ∧ H p = some (.lst c.2) ∧ CE W cs σ (del p H) G
def withC (Ds : EnvT W) : List (Nat × List V) → EnvT W
  | [] => Ds
  | c :: cs => (withC Ds cs).set c.1 (some (dLst c.2))
theorem CE.up : ∀ {cs : List (Nat × List V)} {σ : L2.St} {H G : Hp}, CE W cs σ H G → W.inv G → W.L G H
  | [], σ, H, G, h, iv => by
    have h : G = H := h
    subst h
    exact W.refl _
  | c :: cs, σ, H, G, ⟨p, e, f, hp, h⟩, iv => by
    have l := CE.up h iv
    exact W.trans l (L_del (W.step l iv) hp)
theorem set_id {σ : L2.St} {i : Nat} {v : Option V} (h : σ[i]? = some v) : σ.set i v = σ := by
  obtain ⟨lt, e⟩ := List.getElem?_eq_some_iff.mp h
  rw [← e]
  exact List.set_getElem_self lt
theorem CE.env {Ds : EnvT W} : ∀ {cs : List (Nat × List V)} {σ : L2.St} {H G : Hp}, CE W cs σ H G → W.inv G → EnvL Ds σ G → EnvL (withC Ds cs) σ H
  | [], σ, H, G, h, iv, en => by
    have h : G = H := h
    subst h
    exact en
  | c :: cs, σ, H, G, ⟨p, e, f, hp, h⟩, iv, en => by
    have l := CE.up h iv
    have k := (CE.env h iv en).st (L_del (W.step l iv) hp)
    have := EnvL.set (d := dLst c.2) (v := .ref p) (i := c.1) ⟨p, rfl, f, hp⟩ k
    rwa [set_id e] at this
theorem CE.go : ∀ {cs : List (Nat × List V)} {σ : L2.St} {H H1 G : Hp}, CE W cs σ H G → W.L H H1 → ∃ G1, CE W cs σ H1 G1 ∧ W.L G G1
  | [], σ, H, H1, G, h, l => by
    have h : G = H := h
    subst h
    exact ⟨H1, rfl, l⟩
  | c :: cs, σ, H, H1, G, ⟨p, e, f, hp, h⟩, l => by
    obtain ⟨G1, h1, l1⟩ := CE.go h (W.delL f l)
    exact ⟨G1, ⟨p, e, f, W.keep f l hp, h1⟩, l1⟩
theorem CE.slot {v : Option V} {j : Nat} : ∀ {cs : List (Nat × List V)} {σ : L2.St} {H G : Hp}, CE W cs σ H G → (cs.all fun c => !(Nat.beq c.1 j)) = true → CE W cs (σ.set j v) H G
  | [], σ, H, G, h, _ => h
  | c :: cs, σ, H, G, ⟨p, e, f, hp, h⟩, k => by
    rw [List.all_cons, Bool.and_eq_true] at k
    have ne : j ≠ c.1 := fun z => by
      subst z
      rw [Nat.beq_refl] at k
      cases k.1
    exact ⟨p, by rw [List.getElem?_set_ne ne]; exact e, f, hp, CE.slot h k.2⟩
/-- a cell's new content -/
def setC (cs : List (Nat × List V)) (i : Nat) (xs : List V) : List (Nat × List V) := match cs with
  | [] => []
  | c :: cs => bif Nat.beq c.1 i then (i, xs) :: cs else c :: setC cs i xs
def getC (cs : List (Nat × List V)) (i : Nat) : Option (List V) := match cs with
  | [] => none
  | c :: cs => bif Nat.beq c.1 i then some c.2 else getC cs i
theorem del_del {H : Hp} {p q : Addr} : del p (del q H) = del q (del p H) := by
  funext b
  unfold del
  split <;> split <;> rfl
theorem del_upd_ne {H : Hp} {p q : Addr} {o : HO} (n : q ≠ p) : del p (upd H q o) = upd (del p H) q o := by
  funext b
  unfold del upd
  by_cases e : b = q
  · subst e
    rw [if_neg n, if_pos rfl, if_pos rfl]
  · rw [if_neg e, if_neg e]
theorem CE.change {xs ys : List V} {i : Nat} : ∀ {cs : List (Nat × List V)} {σ : L2.St} {H G : Hp}, CE W cs σ H G → getC cs i = some xs → ∃ p, σ[i]? = some (some (.ref p)) ∧ H p = some (.lst xs) ∧ CE W (setC cs i ys) σ (upd H p (.lst ys)) G
  | [], σ, H, G, h, e => by cases e
  | c :: cs, σ, H, G, ⟨p, e, f, hp, h⟩, g => by
    have g : (bif Nat.beq c.1 i then some c.2 else getC cs i) = some xs := g
    show ∃ q, _ ∧ _ ∧ CE W (bif Nat.beq c.1 i then (i, ys) :: cs else c :: setC cs i ys) σ _ G
    cases k : Nat.beq c.1 i with
    | true =>
      have ei := Nat.eq_of_beq_eq_true k
      rw [k] at g
      have g : some c.2 = some xs := g
      cases g
      subst ei
      exact ⟨p, e, hp, p, e, f, upd_same, by rw [del_updS]; exact h⟩
    | false =>
      rw [k] at g
      obtain ⟨q, e2, hq, h2⟩ := CE.change (ys := ys) h g
      obtain ⟨nq, hq⟩ := del_some hq
      refine ⟨q, e2, hq, p, e, f, by rw [upd_ne (Ne.symm nq)]; exact hp, ?_⟩
      rw [del_upd_ne nq]
      exact h2
/-! ### judgements with cells -/
def NVC (Ds : EnvT W) (cs : List (Nat × List V)) (ts : TS) (Es : EnvT W) (cs' : List (Nat × List V)) : Prop := ∀ (D : Ends) (σ : L2.St) (H G : Hp), CE W cs σ H G → W.inv G → EnvL Ds σ G →
  (∀ σ' H' G', CE W cs' σ' H' G' → W.L G G' → EnvL Es σ' G' → D.nx σ' H') → ts D σ H
def SVC (Ds : EnvT W) (cs : List (Nat × List V)) (ts : TS) (d : Dn W) : Prop := ∀ (D : Ends) (σ : L2.St) (H G : Hp), CE W cs σ H G → W.inv G → EnvL Ds σ G → (∀ v H', W.L G H' → d.ok v H' → D.rt v H') → ts D σ H
section
variable {Ds Es Fs : EnvT W} {cs cs1 cs2 : List (Nat × List V)} {d d1 d2 : Dn W} {te ti tl : TE} {t ta : TA} {tt : TT} {ts tu t1 t2 : TS} {i j k n : Nat} {K : PySem.W.Frag} {xs ys zs : List V} {l : List Nat}
theorem svc_seq (h : NVC Ds cs ts Es cs1) (k : SVC Es cs1 tu d) : SVC Ds cs (tSeq ts tu) d := fun D σ H G ce iv en q =>
  h _ σ H G ce iv en fun σ' H' G' ce' l e' => k D σ' H' G' ce' (W.step l iv) e' fun v H2 l2 o => q v H2 (W.trans l l2) o
theorem nvc_next : NVC Ds cs tNext Ds cs := fun D σ H G ce iv en q => q σ H G ce (W.refl G) en
/-- the cells are lists as others from here on -/
theorem svc_end (h : SV (withC Ds cs) ts d) : SVC Ds cs ts d := fun D σ H G ce iv en q =>
  h D σ H (W.step (ce.up iv) iv) (ce.env iv en) fun v H' l o => q v H' (W.trans (ce.up iv) l) o
theorem nvc_end (h : NV (withC Ds cs) ts Es) : NVC Ds cs ts Es [] := fun D σ H G ce iv en q =>
  h D σ H (W.step (ce.up iv) iv) (ce.env iv en) fun σ' H' l e => q σ' H' H' rfl (W.trans (ce.up iv) l) e
theorem nv_of_nvc (h : NVC Ds [] ts Es cs) (e : withC Es cs = Fs) : NV Ds ts Fs := fun D σ H iv en q =>
  h D σ H H rfl iv en fun σ' H' G' ce l e' => q σ' H' (W.trans l (ce.up (W.step l iv))) (e ▸ ce.env (W.step l iv) e')
theorem ev_run {σ : L2.St} {H G : Hp} {Q : VK} (h : EV (withC Ds cs) te d) (ce : CE W cs σ H G) (iv : W.inv G) (en : EnvL Ds σ G) (q : ∀ v H1 G1, CE W cs σ H1 G1 → W.L G G1 → W.L H H1 → d.ok v H1 → Q v H1) : te σ H Q :=
  h σ H Q (W.step (ce.up iv) iv) (ce.env iv en) fun v H1 l o => by
    obtain ⟨G1, c1, l1⟩ := ce.go l
    exact q v H1 G1 c1 l1 l o
theorem tv_run {b : Bool} {σ : L2.St} {H G : Hp} {R : Bool → Hp → Prop} (h : TV (withC Ds cs) tt b) (ce : CE W cs σ H G) (iv : W.inv G) (en : EnvL Ds σ G) (q : ∀ H1 G1, CE W cs σ H1 G1 → W.L G G1 → R b H1) : tt σ H R :=
  h σ H R (W.step (ce.up iv) iv) (ce.env iv en) fun H1 l => by
    obtain ⟨G1, c1, l1⟩ := ce.go l
    exact q H1 G1 c1 l1
theorem nvc_if {b : Bool} (h : TV (withC Ds cs) tt b) (h1 : b = true → NVC Ds cs t1 Es cs1) (h2 : b = false → NVC Ds cs t2 Es cs1) : NVC Ds cs (tIfS tt t1 t2) Es cs1 := fun D σ H G ce iv en q =>
  tv_run h ce iv en fun H1 G1 c1 l1 => by
    cases b with
    | true => exact h1 rfl D σ H1 G1 c1 (W.step l1 iv) (en.st l1) fun σ2 H2 G2 c2 l2 e2 => q σ2 H2 G2 c2 (W.trans l1 l2) e2
    | false => exact h2 rfl D σ H1 G1 c1 (W.step l1 iv) (en.st l1) fun σ2 H2 G2 c2 l2 e2 => q σ2 H2 G2 c2 (W.trans l1 l2) e2
/-! the steps that change a cell -/
theorem cell_at {σ : L2.St} {H G : Hp} (ce : CE W cs σ H G) (g : getC cs i = some xs) : ∃ p, σ[i]? = some (some (.ref p)) ∧ H p = some (.lst xs) := by
  obtain ⟨p, e, hp, _⟩ := ce.change (ys := xs) g
  exact ⟨p, e, hp⟩
theorem nvc_append {y : V} (g : getC cs i = some xs) (h : EV (withC Ds cs) te (dV y)) (z : xs.length < 100000) : NVC Ds cs (tDrop (tBM K "list" rAppend (tVar i) (tCons te tNil))) Ds (setC cs i (xs ++ [y])) := fun D σ H G ce iv en q => by
  obtain ⟨p, e, hp⟩ := cell_at ce g
  refine ⟨.ref p, e, .inl ⟨rfl, _, SqL.of hp⟩, ev_run h ce iv en fun v H1 G1 c1 l1 _ o => ?_⟩
  obtain ⟨p2, e2, hp2, c2⟩ := c1.change (ys := xs ++ [y]) g
  rw [e] at e2
  cases e2
  rw [show v = y from o]
  exact ⟨p, xs, y, rfl, rfl, hp2, sl_lt (by omega), q _ _ _ c2 l1 (en.st l1)⟩
/-! loops -/
/-- for x in l, l the list in slot j -/
theorem CE.ne {q : Addr} {o : HO} : ∀ {cs : List (Nat × List V)} {σ : L2.St} {H G : Hp}, CE W cs σ H G → G q = some o → H q = some o
  | [], σ, H, G, h, e => by
    have h : G = H := h
    subst h
    exact e
  | c :: cs, σ, H, G, ⟨p, _, _, hp, h⟩, e => (del_some (CE.ne h e)).2
theorem nvc_forV (E : Nat → EnvT W) (C : Nat → List (Nat × List V)) (hj : Ds.get j = some (dLst xs)) (hn : Nat.ble (j + 1) Ds.n = true) (h0 : ∀ σ H, EnvL Ds σ H → EnvL (E 0) σ H) (hC : CE W cs = CE W (C 0))
    (hs : ∀ k, ((C k).all fun c => !(Nat.beq c.1 i)) = true) (hb : ∀ k x, xs[k]? = some x → NVC ((E k).set i (some (dV x))) (C k) ts (E (k + 1)) (C (k + 1))) :
    NVC Ds cs (tFor (iList K (tVar j)) (gName i) ts) (E xs.length) (C xs.length) := fun D σ H G ce iv en q => by
  obtain ⟨v, e, a, ea, fa, ha⟩ := en.get hj hn
  subst ea
  refine ⟨.ref a, e, a, rfl, ⟨xs, SqL.of (ce.ne ha)⟩, ?_⟩
  refine for_list (K := K) (a := a) (xs := xs) (fun k σ' H' => ∃ G', CE W (C k) σ' H' G' ∧ W.L G G' ∧ EnvL (E k) σ' G') ⟨G, hC ▸ ce, W.refl G, h0 _ _ en⟩ (fun k σ' H' _ hP => ?_) (fun k x σ' H' hx hP => ?_) fun σ' H' hP => ?_
  · obtain ⟨G', cP, lP, _⟩ := hP
    exact SqL.of (cP.ne (W.keep fa lP ha))
  · obtain ⟨G', cP, lP, eP⟩ := hP
    exact hb k x hx _ _ H' G' (cP.slot (hs k)) (W.step lP iv) (eP.set rfl) fun σ2 H2 G2 c2 l2 e2 => ⟨G2, c2, W.trans lP l2, e2⟩
  · obtain ⟨G', cP, lP, eP⟩ := hP
    exact q σ' H' G' cP lP eP
/-! a new cell -/
theorem env_new {σ : L2.St} {H : Hp} {v : V} (en : EnvL Ds σ H) : EnvL (Ds.set i none) (σ.set i (some v)) H := en.dropS
theorem svc_cell (h : FL (withC Ds cs) te xs) (r : SVC (Ds.set i none) ((i, xs) :: cs) tu d) (hi : Nat.ble (i + 1) Ds.n = true := by rfl) (k : (cs.all fun c => !(Nat.beq c.1 i)) = true := by rfl) : SVC Ds cs (tSeq (tAsg te (gName i)) tu) d := fun D σ H G ce iv en q =>
  h σ H _ (W.step (ce.up iv) iv) (ce.env iv en) fun p H1 hp fp l e => by
    obtain ⟨G1, c1, l1⟩ := ce.go l
    refine r D _ H1 G1 ⟨p, ?_, fp, e, c1.slot k⟩ (W.step l1 iv) (en.st l1).dropS fun v H2 l2 o => q v H2 (W.trans l1 l2) o
    exact List.getElem?_set_self (by rw [en.1]; exact Nat.le_of_ble_eq_true hi)
theorem sv_cell (h : FL Ds te xs) (r : SVC (Ds.set i none) [(i, xs)] tu d) (hi : Nat.ble (i + 1) Ds.n = true := by rfl) : SV Ds (tSeq (tAsg te (gName i)) tu) d := fun D σ H iv en q =>
  svc_cell (cs := []) h r hi rfl D σ H H rfl iv en q
theorem ok_dV {H : Hp} : ∀ {xs vs : List V}, OkL (xs.map fun x => (dV x : Dn W)) vs H → vs = xs
  | [], [], _ => rfl
  | n :: l, v :: vs, ⟨h, r⟩ => by
    rw [ok_dV (xs := l) r, show v = n from h]
  | [], _ :: _, h => h.elim
  | _ :: _, [], h => h.elim
theorem none_back {H H1 : Hp} {p : Addr} (iv : W.inv H1) (l : W.L H H1) (h : H1 p = none) : H p = none := by
  cases e : H p with
  | none => rfl
  | some o =>
    rw [W.keep (W.fresh iv h) l e] at h
    cases h
theorem fl_lst (xs : List V) (h : AV Ds t (xs.map fun x => dV x)) (hn : xs.length ≤ 100000 := by exact Nat.le_of_ble_eq_true rfl) : FL Ds (tLst t) xs := fun σ H Q iv en q => h σ H _ iv en fun vs H1 l1 o1 => by
  have iv1 := W.step l1 iv
  have e := ok_dV o1
  subst e
  exact ⟨Nat.le_of_lt (sl_lt hn), fun p np => q p _ (none_back iv1 l1 np) (W.fresh iv1 np) (by rw [del_upd np]; exact l1) upd_same⟩
theorem fl_nil : FL Ds (tLst tNil) [] := fl_lst [] av_nil
theorem ev_fl (h : FL Ds te xs) : EV Ds te (dLst xs) := fun σ H Q iv en q => h σ H Q iv en fun p H' np fp l e => q _ H' (W.trans l (L_del (W.step l iv) e)) ⟨p, rfl, fp, e⟩
/-- two at once: both new lists; a new list and a value -/
theorem sv_parCC {ta tb : TE} (h : FL Ds ta xs) (h2 : FL Ds tb ys) (r : SVC ((Ds.set i none).set j none) [(j, ys), (i, xs)] tu d) (hi : Nat.ble (i + 1) Ds.n = true := by rfl) (hj : Nat.ble (j + 1) Ds.n = true := by rfl) (ne : i ≠ j := by decide) :
    SV Ds (tSeq (tPar i j (tCons ta (tCons tb tNil))) tu) d := fun D σ H iv en q =>
  h σ H _ iv en fun p H1 np fp l1 e1 => by
    have L1 : W.L H H1 := W.trans l1 (L_del (W.step l1 iv) e1)
    refine h2 σ H1 _ (W.step L1 iv) (en.st L1) fun u H2 nu fu l2 e2 => ?_
    have hp : del u H2 p = some (.lst xs) := W.keep fp l2 e1
    have LG : W.L H (del p (del u H2)) := W.trans l1 (W.delL fp l2)
    have li := Nat.le_of_ble_eq_true hi
    have lj := Nat.le_of_ble_eq_true hj
    have ln := en.1
    refine ⟨.ref p, .ref u, rfl, ?_⟩
    refine r D _ H2 _ ⟨u, List.getElem?_set_self (by rw [List.length_set, ln]; exact lj), fu, e2, p, by rw [List.getElem?_set_ne (Ne.symm ne)]; exact List.getElem?_set_self (by rw [ln]; exact li), fp, hp, rfl⟩ (W.step LG iv) ((en.st LG).dropS.dropS) fun v H3 l3 o => q v H3 (W.trans LG l3) o
end
end Vf
set_option Elab.async false
set_option linter.all false
set_option maxRecDepth 100000
set_option maxHeartbeats 4000000
namespace Vf
/-! ### sorted lists, words of rooms led -/
theorem sortN_perm (l : List Nat) : (sortN l).Perm l := (sort_ok l).1
theorem sortN_len (l : List Nat) : (sortN l).length = l.length := (sort_ok l).1.length_eq
theorem sortN_lt {l : List Nat} (h : l.Nodup) : (sortN l).Pairwise (· < ·) := by
  have nd : (sortN l).Pairwise (· ≠ ·) := (sort_ok l).1.nodup_iff.mpr h
  exact ((sort_ok l).2.and nd).imp fun k => Nat.lt_of_le_of_ne k.1 k.2
theorem map_nd {f : Nat → Nat} {l : List Nat} (inj : ∀ a ∈ l, ∀ b ∈ l, f a = f b → a = b) (h : l.Nodup) : (l.map f).Nodup := by
  unfold List.Nodup
  rw [List.pairwise_map]
  exact h.imp_of_mem fun {a b} ha hb ne e => ne (inj a ha b hb e)
theorem SpanL.sort {B l : List Nat} (nd : l.Nodup) (h : ∀ v, v ∈ l ↔ span B v) : SpanL B (sortN l) := ⟨fun v => by rw [(sortN_perm l).mem_iff, h], sortN_lt nd⟩
theorem SpanL.nd {B L : List Nat} (h : SpanL B L) : L.Nodup := h.2.imp fun k => Nat.ne_of_lt k
theorem words_spanL {B : List Nat} (pl : Plain B) : SpanL B (wordsOf B) := by
  obtain ⟨m1, n1, l1⟩ := sums_ok pl.1
  exact SpanL.sort n1 m1
theorem wordsU {B L : List Nat} (pl : Plain B) (h : SpanL B L) : wordsOf B = L := (words_spanL pl).uniq h
theorem pow_inj {a b : Nat} (h : 2 ^ a = 2 ^ b) : a = b := by
  rcases Nat.lt_trichotomy a b with k | k | k
  · have := Nat.pow_lt_pow_right (a := 2) (by decide) k
    omega
  · exact k
  · have := Nat.pow_lt_pow_right (a := 2) (by decide) k
    omega
theorem dim_of {B D L M : List Nat} (pB : Plain B) (pD : Plain D) (h : SpanL B L) (k : SpanL D M) (e : L.length = M.length) : B.length = D.length := by
  have h1 := h.len
  have h2 := k.len
  rw [bas_self pB] at h1
  rw [bas_self pD] at h2
  exact pow_inj (by omega)
section
variable {n w : Nat} {s t A B S : List Nat}
theorem ex_list (hs : Seq n s) (ltA : ∀ c ∈ A, c < 2 ^ n) (sA : SpanL A S) : SpanL (bas (exB A s)) (sortN (S.map (ledN s))) := by
  have lt : ∀ v ∈ S, v < 2 ^ n := fun v hv => span_lt ltA ((sA.1 v).mp hv)
  refine SpanL.sort (map_nd (fun a ha b hb e => ledN_inj hs (lt a ha) (lt b hb) e) sA.nd) fun v => ?_
  rw [exB_span hs, List.mem_map]
  exact ⟨fun ⟨a, ha, e⟩ => ⟨a, (sA.1 a).mp ha, e.symm⟩, fun ⟨a, ha, e⟩ => ⟨a, (sA.1 a).mpr ha, e.symm⟩⟩
theorem ex_ge (hs : Seq n s) (B : List Nat) : ∀ c ∈ bas (exB B s), c < 2 ^ n := bas_lt (exB_lt hs)
theorem ex_dim (hs : Seq n s) (pA : Plain A) (ltA : ∀ c ∈ A, c < 2 ^ n) (sA : SpanL A S) : (bas (exB A s)).length = A.length :=
  dim_of (bas_plain _) pA (ex_list hs ltA sA) sA (by rw [sortN_len, List.length_map])
end
theorem vs_snoc {l : List Nat} {x : Nat} : vs l ++ [L2.V.int (x : Int)] = vs (l ++ [x]) := by
  rw [vs_append]
  rfl
end Vf
namespace Vf
end Vf
set_option Elab.async false
set_option linter.all false
set_option maxRecDepth 100000
set_option maxHeartbeats 4000000
namespace Vf
/-! ### rooms beside one another -/
section
variable {n m a b v : Nat} {A B D L M : List Nat}
end
open PySem PySem.Spec PyProof.Rows L2
variable {W : Wd} {C : Addr} {n m : Nat} {A B : List Nat}
end Vf
set_option Elab.async false
set_option linter.all false
set_option maxRecDepth 100000
set_option maxHeartbeats 4000000
namespace Vf
/-! ### contraries -/
/-- whether two words meet oddly -/
def par (a b : Nat) : Bool := decide (pc (a &&& b) % 2 = 1)
theorem par_comm (a b : Nat) : par a b = par b a := by
  unfold par
  rw [Nat.and_comm]
theorem par_xor (a c b : Nat) : par (a ^^^ c) b = (par a b ^^ par c b) := by
  unfold par
  rw [pc_dist]
  rcases Nat.mod_two_eq_zero_or_one (pc (a &&& b)) with h | h <;> rcases Nat.mod_two_eq_zero_or_one (pc (c &&& b)) with k | k <;> rw [Nat.add_mod, h, k] <;> rfl
theorem par_zero (b : Nat) : par 0 b = false := by
  unfold par
  rw [Nat.zero_and, pc_zero]
  rfl
theorem pc_pow {i : Nat} (h : i < 24) : pc (2 ^ i) = 1 := by
  rw [← spots_len]
  have e : spots (2 ^ i) = [i] := by
    refine up_eq ?_ (by simp) fun v => ?_
    · unfold spots spotsK
      exact (List.pairwise_lt_range).filter _
    · rw [spots_mem, List.mem_singleton, Nat.testBit_two_pow, decide_eq_true_iff]
      exact ⟨fun k => k.2.symm, fun k => ⟨by omega, k.symm⟩⟩
  rw [e]
  rfl
theorem par_pow {i : Nat} (h : i < 24) (c : Nat) : par (2 ^ i) c = c.testBit i := by
  unfold par
  by_cases k : c.testBit i = true
  · have e : 2 ^ i &&& c = 2 ^ i := by
      apply Nat.eq_of_testBit_eq
      intro j
      rw [Nat.testBit_and, Nat.testBit_two_pow]
      by_cases q : i = j
      · subst q
        rw [k, decide_eq_true rfl]
        rfl
      · rw [decide_eq_false q]
        rfl
    rw [e, pc_pow h, k]
    rfl
  · have e : 2 ^ i &&& c = 0 := by
      apply Nat.eq_of_testBit_eq
      intro j
      rw [Nat.testBit_and, Nat.testBit_two_pow, Nat.zero_testBit]
      by_cases q : i = j
      · subst q
        rw [Bool.not_eq_true] at k
        rw [k, Bool.and_false]
      · rw [decide_eq_false q]
        rfl
    rw [e, pc_zero, Bool.not_eq_true _ |>.mp k]
    rfl
def pw (p : Bool) (x : Nat) : Nat := if p then x else 0
theorem pw_xor (p q : Bool) (x : Nat) : pw (p ^^ q) x = pw p x ^^^ pw q x := by
  cases p <;> cases q <;> simp [pw]
theorem par_pw (p : Bool) (x c : Nat) : par (pw p x) c = (p && par x c) := by
  cases p
  · exact par_zero c
  · exact (Bool.true_and _).symm
/-- of each basis word that v meets oddly the highest place -/
def gW (v : Nat) : List Nat → Nat
  | [] => 0
  | b :: B => pw (par v b) (2 ^ b.log2) ^^^ gW v B
theorem xor4 (a b c d : Nat) : (a ^^^ b) ^^^ (c ^^^ d) = (a ^^^ c) ^^^ (b ^^^ d) := by
  rw [Nat.xor_assoc, ← Nat.xor_assoc b, Nat.xor_comm b c, Nat.xor_assoc c, ← Nat.xor_assoc a]
theorem gW_xor (u v : Nat) : ∀ B : List Nat, gW (u ^^^ v) B = gW u B ^^^ gW v B
  | [] => (Nat.xor_zero 0).symm
  | b :: B => by
    show pw (par (u ^^^ v) b) (2 ^ b.log2) ^^^ gW (u ^^^ v) B = (pw (par u b) (2 ^ b.log2) ^^^ gW u B) ^^^ (pw (par v b) (2 ^ b.log2) ^^^ gW v B)
    rw [gW_xor u v B, par_xor, pw_xor, xor4]
theorem log_lt {n c : Nat} (h0 : c ≠ 0) (h : c < 2 ^ n) : c.log2 < n := (Nat.log2_lt h0).mpr h
section
variable {n : Nat} {A B D : List Nat}
theorem par_gW (pl : Plain B) (lt : ∀ b ∈ B, b < 2 ^ 24) (v : Nat) {c : Nat} (hc : c ∈ B) : ∀ B' : List Nat, B'.Nodup → (∀ b ∈ B', b ∈ B) → par (gW v B') c = (decide (c ∈ B') && par v c)
  | [], _, _ => by
    show par 0 c = _
    rw [par_zero]
    simp
  | b :: B', nd, sub => by
    obtain ⟨n1, n2⟩ := List.nodup_cons.mp nd
    have hb := sub b List.mem_cons_self
    have lb := log_lt (pl.1.2 b hb) (lt b hb)
    show par (pw _ _ ^^^ gW v B') c = _
    rw [par_xor, par_pw, par_pow lb, par_gW pl lt v hc B' n2 fun x hx => sub x (List.mem_cons_of_mem _ hx)]
    by_cases e : b = c
    · subst e
      rw [top_bit (pl.1.2 b hb)]
      simp [n1]
    · rw [piv_off pl.1 hb hc e]
      have e2 : ¬ c = b := fun z => e z.symm
      simp [e2]
theorem gW_top (pl : Plain B) (lt : ∀ b ∈ B, b < 2 ^ 24) {c : Nat} (hc : c ∈ B) : ∀ B' : List Nat, B'.Nodup → (∀ b ∈ B', b ∈ B) → gW (2 ^ c.log2) B' = pw (decide (c ∈ B')) (2 ^ c.log2)
  | [], _, _ => rfl
  | b :: B', nd, sub => by
    obtain ⟨n1, n2⟩ := List.nodup_cons.mp nd
    have hb := sub b List.mem_cons_self
    have lc := log_lt (pl.1.2 c hc) (lt c hc)
    show pw _ _ ^^^ gW _ B' = _
    rw [gW_top pl lt hc B' n2 fun x hx => sub x (List.mem_cons_of_mem _ hx), par_pow lc]
    by_cases e : b = c
    · subst e
      rw [top_bit (pl.1.2 b hb)]
      simp [n1, pw]
    · rw [piv_off pl.1 hc hb (fun z => e z.symm)]
      have e2 : ¬ c = b := fun z => e z.symm
      simp [e2, pw]
/-- a word, even to the basis -/
def fW (B : List Nat) (v : Nat) : Nat := v ^^^ gW v B
theorem linF_gW (B : List Nat) : LinF fun v => gW v B := fun u v => gW_xor u v B
theorem linF_fW (B : List Nat) : LinF (fW B) := linF_xor linF_id (linF_gW B)
theorem fW_even (pl : Plain B) (lt : ∀ b ∈ B, b < 2 ^ 24) (v : Nat) {c : Nat} (hc : c ∈ B) : par (fW B v) c = false := by
  unfold fW
  rw [par_xor, par_gW pl lt v hc B (piv_nodup pl.1) fun _ h => h]
  simp [hc]
theorem gW_none {v : Nat} : ∀ {B : List Nat}, (∀ b ∈ B, par v b = false) → gW v B = 0
  | [], _ => rfl
  | b :: B, h => by
    show pw _ _ ^^^ gW v B = 0
    rw [h b List.mem_cons_self, gW_none fun c hc => h c (List.mem_cons_of_mem _ hc), Nat.xor_zero]
    rfl
theorem gW_zero (pl : Plain B) (lt : ∀ b ∈ B, b < 2 ^ 24) {v : Nat} : gW v B = 0 ↔ ∀ b ∈ B, par v b = false := by
  refine ⟨fun h b hb => ?_, gW_none⟩
  have := fW_even pl lt v hb
  unfold fW at this
  rwa [h, Nat.xor_zero] at this
theorem gW_lt {v : Nat} : ∀ {B : List Nat}, (∀ b ∈ B, b ≠ 0 ∧ b < 2 ^ n) → gW v B < 2 ^ n
  | [], _ => Nat.two_pow_pos n
  | b :: B, h => by
    refine Nat.xor_lt_two_pow ?_ (gW_lt fun c hc => h c (List.mem_cons_of_mem _ hc))
    obtain ⟨b0, bl⟩ := h b List.mem_cons_self
    unfold pw
    split
    · exact Nat.pow_lt_pow_right (by decide) (log_lt b0 bl)
    · exact Nat.two_pow_pos n
def conB (n : Nat) (B : List Nat) : List Nat := (List.range n).map fun i => fW B (2 ^ i)
theorem conB_lt (pl : Plain B) (ltB : ∀ b ∈ B, b < 2 ^ n) : ∀ c ∈ conB n B, c < 2 ^ n := fun c hc => by
  obtain ⟨i, hi, rfl⟩ := List.mem_map.mp hc
  exact Nat.xor_lt_two_pow (Nat.pow_lt_pow_right (by decide) (List.mem_range.mp hi)) (gW_lt fun b hb => ⟨pl.1.2 b hb, ltB b hb⟩)
theorem con_span (pl : Plain B) (n24 : n ≤ 24) (ltB : ∀ b ∈ B, b < 2 ^ n) (v : Nat) : span (bas (conB n B)) v ↔ v < 2 ^ n ∧ ∀ b ∈ B, par v b = false := by
  have lt : ∀ b ∈ B, b < 2 ^ 24 := fun b hb => lt24 n24 (ltB b hb)
  rw [bas_span]
  constructor
  · intro h
    refine ⟨span_lt (conB_lt pl ltB) h, ?_⟩
    have e : conB n B = ((List.range n).map (2 ^ ·)).map (fW B) := by
      unfold conB
      rw [List.map_map]
      rfl
    rw [e, span_map (linF_fW B)] at h
    obtain ⟨a, _, rfl⟩ := h
    exact fun b hb => fW_even pl lt a hb
  · rintro ⟨h1, h2⟩
    have e : conB n B = ((List.range n).map (2 ^ ·)).map (fW B) := by
      unfold conB
      rw [List.map_map]
      rfl
    rw [e, span_map (linF_fW B)]
    refine ⟨v, (span_units n v).mpr h1, ?_⟩
    unfold fW
    rw [gW_none h2, Nat.xor_zero]
theorem par_span {v : Nat} : (∀ b ∈ B, par v b = false) ↔ ∀ b, span B b → par v b = false := by
  constructor
  · intro h b hb
    exact hb (fun b => par v b = false) ⟨by show par v 0 = false; rw [par_comm, par_zero], fun a c (ha : par v a = false) (hc : par v c = false) => by show par v (a ^^^ c) = false; rw [par_comm, par_xor, par_comm a, par_comm c, ha, hc]; rfl⟩ h
  · exact fun h b hb => h b (span_mem hb)
theorem con_spanS (pl : Plain B) (n24 : n ≤ 24) (ltB : ∀ b ∈ B, b < 2 ^ n) (v : Nat) : span (bas (conB n B)) v ↔ v < 2 ^ n ∧ ∀ b, span B b → par v b = false := by
  rw [con_span pl n24 ltB, par_span]
theorem units_len (n : Nat) : (bas ((List.range n).map (2 ^ ·))).length = n := by
  have h : SpanL ((List.range n).map (2 ^ ·)) (List.range (2 ^ n)) := ⟨fun v => by rw [List.mem_range, span_units], List.pairwise_lt_range⟩
  have := h.len
  rw [List.length_range] at this
  exact (pow_inj this).symm
theorem tops_plain (pl : Plain B) : Plain (B.map fun b => 2 ^ b.log2) := by
  have l := plain_logs pl
  refine ⟨⟨?_, fun x hx => ?_⟩, ?_⟩
  · rw [List.pairwise_map]
    refine l.imp fun {b c} k => ?_
    have ne : ¬ c.log2 = b.log2 := by omega
    have ne2 : ¬ b.log2 = c.log2 := by omega
    constructor
    · rw [Nat.log2_two_pow, Nat.testBit_two_pow]
      simp [ne, ne2]
    · rw [Nat.log2_two_pow, Nat.testBit_two_pow]
      simp [ne, ne2]
  · obtain ⟨b, _, rfl⟩ := List.mem_map.mp hx
    exact Nat.ne_of_gt (Nat.two_pow_pos _)
  · rw [List.pairwise_map]
    exact l.imp fun {b c} k => Nat.pow_lt_pow_right (by decide) k
theorem gW_span {v : Nat} : ∀ (B : List Nat), span (B.map fun b => 2 ^ b.log2) (gW v B)
  | [] => span_zero _
  | b :: B => by
    refine span_xor ?_ (span_sub (fun w hw => span_mem (List.mem_cons_of_mem _ hw)) (gW_span B))
    unfold pw
    split
    · exact span_mem List.mem_cons_self
    · exact span_zero _
theorem con_dim (pl : Plain B) (n24 : n ≤ 24) (ltB : ∀ b ∈ B, b < 2 ^ n) : (bas (conB n B)).length + B.length = n := by
  have lt : ∀ b ∈ B, b < 2 ^ 24 := fun b hb => lt24 n24 (ltB b hb)
  have h := rank_null (ws := (List.range n).map (2 ^ ·)) (us := B.map fun b => 2 ^ b.log2) (ks := bas (conB n B)) (linF_gW B) (fun v => ?_) fun v => ?_
  · rw [units_len, bas_self (tops_plain pl), bas_self (bas_plain _), List.length_map] at h
    omega
  · constructor
    · intro hv
      have : span (((B.map fun b => 2 ^ b.log2)).map fun v => gW v B) v := by
        rw [List.map_map]
        have e : B.map ((fun v => gW v B) ∘ fun b => 2 ^ b.log2) = B.map fun b => 2 ^ b.log2 := List.map_congr_left fun b hb => by
          show gW (2 ^ b.log2) B = _
          rw [gW_top pl lt hb B (piv_nodup pl.1) fun _ h => h, decide_eq_true hb]
          rfl
        rw [e]
        exact hv
      obtain ⟨u, hu, e⟩ := (span_map (linF_gW B)).mp this
      refine ⟨u, (span_units n u).mpr (span_lt (fun w hw => ?_) hu), e⟩
      obtain ⟨b, hb, rfl⟩ := List.mem_map.mp hw
      exact Nat.pow_lt_pow_right (by decide) (log_lt (pl.1.2 b hb) (ltB b hb))
    · rintro ⟨u, _, rfl⟩
      exact gW_span B
  · rw [con_span pl n24 ltB, span_units, gW_zero pl lt]
/-- a room within another one of the same dimension is that one -/
theorem sub_dim (pA : Plain A) (pB : Plain B) (h : ∀ v, span A v → span B v) (e : A.length = B.length) (v : Nat) : span A v ↔ span B v := by
  have sA := words_spanL pA
  have sB := words_spanL pB
  refine ⟨h v, fun hv => ?_⟩
  have l1 := sA.len
  have l2 := sB.len
  rw [bas_self pA] at l1
  rw [bas_self pB] at l2
  have e2 : ((wordsOf B).filter fun x => decide (x ∈ wordsOf A)).length = (wordsOf A).length := len_same (sB.nd.filter _) sA.nd fun x => by
    rw [List.mem_filter, decide_eq_true_iff]
    exact ⟨fun k => k.2, fun k => ⟨(sB.1 x).mpr (h x ((sA.1 x).mp k)), k⟩⟩
  have e3 : ((wordsOf B).filter fun x => decide (x ∈ wordsOf A)).length = (wordsOf B).length := by rw [e2, l1, l2, e]
  have := List.length_filter_eq_length_iff.mp e3 v ((sB.1 v).mpr hv)
  exact (sA.1 v).mp (of_decide_eq_true this)
theorem con_lt (pl : Plain B) (ltB : ∀ b ∈ B, b < 2 ^ n) : ∀ c ∈ bas (conB n B), c < 2 ^ n := bas_lt (conB_lt pl ltB)
theorem con_con (pl : Plain B) (n24 : n ≤ 24) (ltB : ∀ b ∈ B, b < 2 ^ n) (v : Nat) : span (bas (conB n (bas (conB n B)))) v ↔ span B v := by
  have pD := bas_plain (conB n B)
  have ltD := con_lt pl ltB
  have d1 := con_dim pl n24 ltB
  have d2 := con_dim pD n24 ltD
  refine (sub_dim pl (bas_plain _) (fun v hv => ?_) (by omega) v).symm
  rw [con_spanS pD n24 ltD]
  refine ⟨span_lt ltB hv, fun b hb => ?_⟩
  rw [par_comm]
  exact ((con_spanS pl n24 ltB b).mp hb).2 v hv
/-- the contrary turns about what lies in what -/
theorem con_le (pA : Plain A) (pB : Plain B) (n24 : n ≤ 24) (ltA : ∀ b ∈ A, b < 2 ^ n) (ltB : ∀ b ∈ B, b < 2 ^ n) (h : ∀ v, span A v → span B v) (v : Nat) (hv : span (bas (conB n B)) v) : span (bas (conB n A)) v := by
  rw [con_spanS pA n24 ltA]
  obtain ⟨h1, h2⟩ := (con_spanS pB n24 ltB v).mp hv
  exact ⟨h1, fun b hb => h2 b (h b hb)⟩
theorem con_congr (pA : Plain A) (pB : Plain B) (n24 : n ≤ 24) (ltA : ∀ b ∈ A, b < 2 ^ n) (ltB : ∀ b ∈ B, b < 2 ^ n) (h : ∀ v, span A v ↔ span B v) (v : Nat) : span (bas (conB n A)) v ↔ span (bas (conB n B)) v :=
  ⟨con_le pB pA n24 ltB ltA (fun v => (h v).mpr) v, con_le pA pB n24 ltA ltB (fun v => (h v).mp) v⟩
theorem con_sum (pA : Plain A) (pB : Plain B) (n24 : n ≤ 24) (ltA : ∀ b ∈ A, b < 2 ^ n) (ltB : ∀ b ∈ B, b < 2 ^ n) (v : Nat) : span (bas (conB n (bas (A ++ B)))) v ↔ span (lowB n (comB n (bas (conB n A)) (bas (conB n B)))) v := by
  have ltS : ∀ c ∈ bas (A ++ B), c < 2 ^ n := bas_lt fun c hc => (List.mem_append.mp hc).elim (ltA c) (ltB c)
  rw [con_spanS (bas_plain _) n24 ltS, comB_span (con_lt pA ltA), con_spanS pA n24 ltA, con_spanS pB n24 ltB]
  constructor
  · rintro ⟨h1, h2⟩
    exact ⟨⟨h1, fun b hb => h2 b ((bas_span _ _).mpr (span_left hb))⟩, h1, fun b hb => h2 b ((bas_span _ _).mpr (span_right hb))⟩
  · rintro ⟨⟨h1, h2⟩, _, h3⟩
    refine ⟨h1, fun b hb => ?_⟩
    obtain ⟨x, y, hx, hy, rfl⟩ := span_append.mp ((bas_span _ _).mp hb)
    rw [par_comm, par_xor, par_comm x, par_comm y, h2 x hx, h3 y hy]
    rfl
theorem con_common (pA : Plain A) (pB : Plain B) (n24 : n ≤ 24) (ltA : ∀ b ∈ A, b < 2 ^ n) (ltB : ∀ b ∈ B, b < 2 ^ n) (v : Nat) : span (bas (conB n (lowB n (comB n A B)))) v ↔ span (bas (bas (conB n A) ++ bas (conB n B))) v := by
  have pS := bas_plain (bas (conB n A) ++ bas (conB n B))
  have ltS : ∀ c ∈ bas (bas (conB n A) ++ bas (conB n B)), c < 2 ^ n := bas_lt fun c hc => (List.mem_append.mp hc).elim (con_lt pA ltA c) (con_lt pB ltB c)
  rw [← con_con pS n24 ltS]
  refine con_congr (lowB_plain _ _) (bas_plain _) n24 lowB_lt (con_lt pS ltS) (fun u => ?_) v
  rw [con_sum (bas_plain _) (bas_plain _) n24 (con_lt pA ltA) (con_lt pB ltB), comB_span ltA, comB_span (con_lt (bas_plain _) (con_lt pA ltA)), con_con pA n24 ltA, con_con pB n24 ltB]
end
end Vf
set_option Elab.async false
set_option linter.all false
set_option maxRecDepth 100000
set_option maxHeartbeats 4000000
namespace Vf
open PySem PySem.Spec PyProof.Rows L2
variable {W : Wd}
section
variable {Ds Es Fs : EnvT W} {cs cs1 cs2 : List (Nat × List V)} {d d1 d2 : Dn W} {te ti tl tb : TE} {t ta : TA} {tt : TT} {ts tu t1 t2 : TS} {i j k n m : Nat} {K : PySem.W.Frag} {xs ys zs : List V} {l : List Nat}
/-! slices -/
theorem cutTo' (xs : List V) (n : Nat) : cutV xs none (some (n : Int)) = xs.take n := by
  unfold cutV
  rw [HT.sIx_none, show HT.sIx xs.length xs.length (some (n : Int)) = min n xs.length from HT.sIx_nat xs.length xs.length n, List.drop_zero, Nat.sub_zero]
  rcases Nat.le_total n xs.length with h | h
  · rw [Nat.min_eq_left h]
  · rw [Nat.min_eq_right h, List.take_length, List.take_of_length_le h]
theorem vs_take' (l : List Nat) (n : Nat) : (vs l).take n = vs (l.take n) := by unfold vs; rw [List.map_take]
/-! searches -/
/-! comprehensions whose elements are told in part alone -/
theorem ev_lcRX {ι : Type} {Pn : ι → Prop} {f : ι → Nat} {P : Nat → Prop} (hl : AX Ds t Pn fun x => [dN (f x)]) (hz : ∀ x, Pn x → f x ≤ 100000) (hb : ∀ x, EV (Ds.set i (some (dN x))) te (dEx P dN)) :
    EV Ds (tLc (iRng1 t) (gName i) tYes te [i]) (dEx (fun l => (∃ x, Pn x ∧ l.length = f x) ∧ ∀ v ∈ l, P v) dVs) := fun σ H Q iv en q =>
  hl σ H _ iv en fun x0 vs0 H1 px l1 o1 => by
    match vs0, o1 with
    | [v], ⟨o1, _⟩ =>
      have iv1 := W.step l1 iv
      have hz := hz x0 px
      refine ⟨(f x0 : Int), by rw [show v = V.int (f x0 : Int) from o1], by omega, by omega, fun D nD => ?_⟩
      refine lc_range (lo := 0) (n := (f x0 : Int).toNat) (fun k H' => W.L H1 H' ∧ ∃ l : List Nat, H' D = some (.lst (vs l)) ∧ l.length = k ∧ ∀ v ∈ l, P v) ⟨W.put0 iv1 nD, [], upd_same, rfl, fun _ k => (List.not_mem_nil k).elim⟩ (fun k H' hk hP => ?_)
        fun H' hP => ?_
      · obtain ⟨lP, l, eD, ll, hl⟩ := hP
        rw [Int.toNat_natCast] at hk
        have en' : EnvL (Ds.set i (some (dN k))) ((wipe σ [i]).set i (some (.int (0 + (k : Int))))) H' := env_lc (show V.int (0 + (k : Int)) = V.int (k : Int) by rw [Int.zero_add]) (en.st (W.trans l1 lP))
        refine ⟨wipe_lc, tv_yes _ H' _ (W.step lP iv1) en' fun H2 l2 => ?_⟩
        refine (if_pos rfl).mpr (hb k _ H2 _ (W.step l2 (W.step lP iv1)) (en'.st l2) fun y H3 l3 ⟨u, pu, o3⟩ => ?_)
        have eD3 := W.keep (W.fresh iv1 nD) l3 (W.keep (W.fresh iv1 nD) l2 eD)
        refine ⟨_, eD3, ?_, W.put iv1 (W.trans lP (W.trans l2 l3)) nD, l ++ [u], ?_, ?_, fun w hw => ?_⟩
        · rw [len_vs]
          exact sl_lt (by omega)
        · rw [upd_same, show y = V.int (u : Int) from o3, vs_append]
          rfl
        · rw [List.length_append, ll]
          rfl
        · rcases List.mem_append.mp hw with h | h
          · exact hl w h
          · rw [List.mem_singleton.mp h]
            exact pu
      · obtain ⟨lP, l, eD, ll, hl⟩ := hP
        rw [Int.toNat_natCast] at ll
        exact q _ H' (W.trans l1 lP) ⟨l, ⟨⟨x0, px, ll⟩, hl⟩, D, rfl, W.fresh iv1 nD, eD⟩
theorem wipe2 {σ : L2.St} {x y : V} (ne : i ≠ j) : wipe (((wipe σ [i, j]).set i (some x)).set j (some y)) [i, j] = wipe σ [i, j] := by
  show (((((σ.set j none).set i none).set i (some x)).set j (some y)).set j none).set i none = (σ.set j none).set i none
  have e1 : ((σ.set j none).set i none).set i (some x) = (σ.set j none).set i (some x) := by rw [List.set_set]
  have e2 : (((σ.set j none).set i (some x)).set j (some y)).set j none = ((σ.set j none).set i (some x)).set j none := by rw [List.set_set]
  have e3 : ((σ.set j none).set i (some x)).set j none = ((σ.set j none).set j none).set i (some x) := by rw [List.set_comm _ _ ne]
  have e4 : (((σ.set j none).set j none).set i (some x)).set i none = ((σ.set j none).set j none).set i none := by rw [List.set_set]
  have e5 : (σ.set j none).set j none = σ.set j none := by rw [List.set_set]
  rw [e1, e2, e3, e4, e5]
theorem env_wipe {σ : L2.St} {H : Hp} {x y : V} (o1 : d1.ok x H) (o2 : d2.ok y H) (en : EnvL Ds σ H) (ne : i ≠ j) : EnvL ((Ds.set i (some d1)).set j (some d2)) (((wipe σ [i, j]).set i (some x)).set j (some y)) H := by
  show EnvL _ ((((σ.set j none).set i none).set i (some x)).set j (some y)) H
  have e1 : ((σ.set j none).set i none).set i (some x) = (σ.set j none).set i (some x) := by rw [List.set_set]
  have e2 : (σ.set j none).set i (some x) = (σ.set i (some x)).set j none := by rw [List.set_comm _ _ ne]
  have e3 : ((σ.set i (some x)).set j none).set j (some y) = (σ.set i (some x)).set j (some y) := by rw [List.set_set]
  rw [e1, e2, e3]
  exact EnvL.set (i := j) o2 (EnvL.set (i := i) o1 en)
/-! what holds as long as no cell changes -/
end
end Vf
set_option Elab.async false
set_option linter.all false
set_option maxRecDepth 100000
set_option maxHeartbeats 4000000
namespace Vf
/-! ### still rooms, own rooms -/
/-- the first two that meet oddly -/
def oddP : List Nat → Option (Nat × Nat)
  | [] => none
  | w :: ws => match (w :: ws).find? (par w) with
    | some o => some (w, o)
    | none => oddP ws
def stillB (B : List Nat) : Bool := (oddP B).isNone
section
variable {n m v w : Nat} {A B D L : List Nat}
theorem still_cons : stillB (w :: B) = true ↔ (∀ o ∈ w :: B, par w o = false) ∧ stillB B = true := by
  unfold stillB
  rw [oddP]
  cases h : (w :: B).find? (par w) with
  | some o =>
    refine ⟨fun k => (by cases k), fun k => ?_⟩
    have h1 := List.find?_some h
    rw [k.1 o (List.mem_of_find?_eq_some h)] at h1
    cases h1
  | none =>
    have h1 := List.find?_eq_none.mp h
    exact ⟨fun k => ⟨fun o ho => Bool.eq_false_iff.mpr (h1 o ho), k⟩, fun k => k.2⟩
theorem still_iff : ∀ {B : List Nat}, stillB B = true ↔ ∀ a ∈ B, ∀ b ∈ B, par a b = false
  | [] => ⟨fun _ a ha => (List.not_mem_nil ha).elim, fun _ => rfl⟩
  | w :: B => by
    rw [still_cons, still_iff (B := B)]
    constructor
    · rintro ⟨h1, h2⟩ a ha b hb
      rcases List.mem_cons.mp ha with rfl | ha'
      · exact h1 b hb
      · rcases List.mem_cons.mp hb with rfl | hb'
        · rw [par_comm]
          exact h1 a (List.mem_cons_of_mem _ ha')
        · exact h2 a ha' b hb'
    · intro h
      exact ⟨fun o ho => h w List.mem_cons_self o ho, fun a ha b hb => h a (List.mem_cons_of_mem _ ha) b (List.mem_cons_of_mem _ hb)⟩
theorem still_span : stillB B = true ↔ ∀ a, span B a → ∀ b, span B b → par a b = false := by
  rw [still_iff]
  constructor
  · intro h a ha b hb
    have h1 : ∀ c ∈ B, par b c = false := fun c hc => by
      have := (par_span (v := c)).mp (fun x hx => h c hc x hx) b hb
      rwa [par_comm]
    have := par_span.mp h1 a ha
    rwa [par_comm]
  · exact fun h a ha b hb => h a (span_mem ha) b (span_mem hb)
theorem still_con (pl : Plain B) (n24 : n ≤ 24) (ltB : ∀ b ∈ B, b < 2 ^ n) : stillB B = true ↔ ∀ v, span B v → span (bas (conB n B)) v := by
  rw [still_span]
  constructor
  · exact fun h v hv => (con_spanS pl n24 ltB v).mpr ⟨span_lt ltB hv, fun b hb => h v hv b hb⟩
  · exact fun h a ha b hb => ((con_spanS pl n24 ltB a).mp (h a ha)).2 b hb
theorem dim_le (pA : Plain A) (pB : Plain B) (h : ∀ v, span A v → span B v) : A.length ≤ B.length := by
  have sA := words_spanL pA
  have sB := words_spanL pB
  have l1 := sA.len
  have l2 := sB.len
  rw [bas_self pA] at l1
  rw [bas_self pB] at l2
  have e2 : ((wordsOf B).filter fun x => decide (x ∈ wordsOf A)).length = (wordsOf A).length := len_same (sB.nd.filter _) sA.nd fun x => by
    rw [List.mem_filter, decide_eq_true_iff]
    exact ⟨fun k => k.2, fun k => ⟨(sB.1 x).mpr (h x ((sA.1 x).mp k)), k⟩⟩
  have le := List.length_filter_le (fun x => decide (x ∈ wordsOf A)) (wordsOf B)
  rw [e2, l1, l2] at le
  exact (Nat.pow_le_pow_iff_right (by decide)).mp le
def ownB (n : Nat) (B : List Nat) : Bool := stillB B && decide (2 * B.length = n)
theorem own_iff (pl : Plain B) (n24 : n ≤ 24) (ltB : ∀ b ∈ B, b < 2 ^ n) : ownB n B = true ↔ B = bas (conB n B) := by
  unfold ownB
  rw [Bool.and_eq_true, decide_eq_true_iff]
  have d := con_dim pl n24 ltB
  constructor
  · rintro ⟨h1, h2⟩
    exact plain_unique pl (bas_plain _) (sub_dim pl (bas_plain _) ((still_con pl n24 ltB).mp h1) (by omega))
  · intro h
    refine ⟨(still_con pl n24 ltB).mpr fun v hv => by rw [← h]; exact hv, ?_⟩
    rw [← h] at d
    omega
/-! parities of words beside one another -/
end
open PySem PySem.Spec PyProof.Rows L2
variable {W : Wd}
section
variable {C p : Addr} {n m : Nat} {A B ws l : List Nat}
/-! ### what the defs of contraries mean -/
/-! the laws' own -/
/-- words even to one another -/
structure StillL (n m : Nat) (l : List Nat) : Prop where
  len : l.length ≤ m
  lt : ∀ v ∈ l, v < 2 ^ n
  ev : ∀ a ∈ l, ∀ b ∈ l, par a b = false
end
end Vf
set_option Elab.async false
set_option linter.all false
set_option maxRecDepth 100000
set_option maxHeartbeats 4000000
namespace Vf
open PySem PySem.Spec PyProof.Rows L2
variable {W : Wd}
/-! ### cells whose content is told in part alone -/
def NVX (Ds : EnvT W) (cs : List (Nat × List V)) (ts : TS) (Es : EnvT W) (P : List (Nat × List V) → Prop) : Prop := ∀ (D : Ends) (σ : L2.St) (H G : Hp), CE W cs σ H G → W.inv G → EnvL Ds σ G →
  (∀ c σ' H' G', P c → CE W c σ' H' G' → W.L G G' → EnvL Es σ' G' → D.nx σ' H') → ts D σ H
section
variable {Ds Es Fs : EnvT W} {cs cs1 cs2 : List (Nat × List V)} {P Q : List (Nat × List V) → Prop} {d d1 d2 : Dn W} {te ti tl tb : TE} {t ta : TA} {tt : TT} {ts tu t1 t2 : TS} {i j k n m : Nat} {K : PySem.W.Frag} {xs ys zs : List V} {l : List Nat}
theorem nvx_wk (is : List Nat) (h : NVX Ds cs ts Es P) (e : forget Es is = Fs) : NVX Ds cs ts Fs P := fun D σ H G ce iv en q => h D σ H G ce iv en fun c σ' H' G' p c' l' e' => q c σ' H' G' p c' l' (e ▸ e'.forget is)
theorem nvx_imp (h : NVX Ds cs ts Es Q) (k : ∀ c, Q c → P c) : NVX Ds cs ts Es P := fun D σ H G ce iv en q => h D σ H G ce iv en fun c σ' H' G' p c' l' e' => q c σ' H' G' (k c p) c' l' e'
/-- for k in range(n), n told in part alone -/
theorem svx_forR {ι : Type} {Pn : ι → Prop} {f : ι → Nat} (I : Nat → List (Nat × List V) → Prop) (is : List Nat) (hl : AX (withC Ds cs) ta Pn fun x => [dN (f x)]) (hz : ∀ x, Pn x → f x < 2 ^ 62) (h0 : I 0 cs) (he : forget Ds is = Fs)
    (hs : ∀ k c, I k c → (c.all fun c => !(Nat.beq c.1 i)) = true) (hb : ∀ x k c, Pn x → k < f x → I k c → NVX (Fs.set i (some (dN k))) c ts Fs (I (k + 1))) (hk : ∀ x c, Pn x → I (f x) c → SVC Fs c tu d) :
    SVC Ds cs (tSeq (tFor (iRng1 ta) (gName i) ts) tu) d := fun D σ H G ce iv en q =>
  hl σ H _ (W.step (ce.up iv) iv) (ce.env iv en) fun x0 vs H1 px l1 o1 => by
    match vs, o1 with
    | [v], ⟨o1, _⟩ =>
      obtain ⟨G1, c1, lG⟩ := ce.go l1
      have iv1 := W.step lG iv
      have hz := hz x0 px
      refine ⟨(f x0 : Int), by rw [show v = V.int (f x0 : Int) from o1], by omega, by omega, ?_⟩
      refine for_range (lo := 0) (n := (f x0 : Int).toNat) (fun k σ' H' => ∃ c G', I k c ∧ CE W c σ' H' G' ∧ W.L G1 G' ∧ EnvL Fs σ' G') ⟨cs, G1, h0, c1, W.refl G1, he ▸ (en.st lG).forget is⟩ (fun k σ' H' hk hP => ?_) fun σ' H' hP => ?_
      · rw [Int.toNat_natCast] at hk
        obtain ⟨c, G', ic, cP, lP, eP⟩ := hP
        exact hb x0 k c px hk ic _ _ H' G' (cP.slot (hs k c ic)) (W.step lP iv1) (eP.set (show V.int (0 + (k : Int)) = V.int (k : Int) by rw [Int.zero_add])) fun c2 σ2 H2 G2 p2 c2' l2 e2 => ⟨c2, G2, p2, c2', W.trans lP l2, e2⟩
      · rw [Int.toNat_natCast] at hP
        obtain ⟨c, G', ic, cP, lP, eP⟩ := hP
        exact hk x0 c px ic D σ' H' G' cP (W.step lP iv1) eP fun v H2 l2 o => q v H2 (W.trans lG (W.trans lP l2)) o
/-- return the cell -/
theorem svc_ret (g : getC cs i = some xs) (h : d.ok = (dLst xs : Dn W).ok) : SVC Ds cs (tRet (tVar i)) d := fun D σ H G ce iv en q => by
  obtain ⟨p, e, hp⟩ := cell_at ce g
  refine ⟨.ref p, e, q _ H (ce.up iv) ?_⟩
  rw [h]
  refine ⟨p, rfl, ?_, hp⟩
  have : ∀ {cs : List (Nat × List V)} {σ : L2.St} {H G : Hp}, CE W cs σ H G → ∀ {xs : List V}, getC cs i = some xs → ∀ {p : Addr}, σ[i]? = some (some (.ref p)) → W.F p := by
    intro cs
    induction cs with
    | nil => intro σ H G _ xs g; cases g
    | cons c cs ih =>
      intro σ H G ⟨r, e1, f, _, h2⟩ xs g p e2
      have g : (bif Nat.beq c.1 i then some c.2 else getC cs i) = some xs := g
      cases kk : Nat.beq c.1 i with
      | true =>
        have := Nat.eq_of_beq_eq_true kk
        rw [this, e2] at e1
        cases e1
        exact f
      | false =>
        rw [kk] at g
        exact ih h2 g e2
  exact this ce g e
theorem svc_retX {ι : Type} {R : ι → Prop} {f : ι → Dn W} (g : getC cs i = some xs) (x : ι) (r : R x) (h : (f x).ok = (dLst xs : Dn W).ok) : SVC Ds cs (tRet (tVar i)) (dEx R f) := fun D σ H G ce iv en q =>
  svc_ret (d := f x) g h D σ H G ce iv en fun v H' l o => q v H' l ⟨x, r, o⟩
end
theorem ev_lcRFM {W : Wd} {Ds : EnvT W} {t : TA} {tt : TT} {te : TE} {n i : Nat} {p : Nat → Bool} {g : Nat → Nat} (hl : AV Ds t [dN n]) (hz : n ≤ 100000) (ht : ∀ x < n, TV (Ds.set i (some (dN x))) tt (p x)) (hb : ∀ x < n, p x = true → EV (Ds.set i (some (dN x))) te (dN (g x))) : EV Ds (tLc (iRng1 t) (gName i) tt te [i]) (dVs (((List.range n).filter p).map g)) := by
  have := ev_lcR (g := fun x => .int (g x : Int)) hl hz ht hb
  unfold dVs vs
  rw [List.map_map]
  exact this
/-! ### finding -/
end Vf
namespace Vf
open PySem PySem.Spec PyProof.Rows L2
variable {W : Wd}
section
variable {C p : Addr} {n m w : Nat} {A B ws l : List Nat}
end
end Vf
set_option Elab.async false
set_option linter.all false
set_option maxRecDepth 100000
set_option maxHeartbeats 4000000
namespace Vf
/-! ### the laws' own plain bases and sums -/
section
variable {B L ws : List Nat} {v w : Nat}
/-- where the loop stands -/
structure Lpl (ws B : List Nat) : Prop where
  pv : Piv B
  sp : ∀ v, span B v ↔ span ws v
  ln : B.length ≤ ws.length
theorem Lpl.nil : Lpl [] [] := ⟨plain_nil.1, fun _ => Iff.rfl, Nat.le_refl _⟩
theorem Lpl.put (h : Lpl ws B) (k : restOf w B ≠ 0) : Lpl (ws ++ [w]) (B.map (clear1 (restOf w B)) ++ [restOf w B]) := by
  refine ⟨put_piv h.pv k fun x hx => rest_off h.pv w hx, fun v => ?_, ?_⟩
  · rw [put_span, rest_room h.pv, span_cons, h.sp, h.sp, ← span_cons]
    exact span_perm (List.perm_append_comm (l₁ := [w]) (l₂ := ws)) v
  · rw [List.length_append, List.length_append, List.length_map]
    exact Nat.succ_le_succ h.ln
theorem Lpl.bas (h : Lpl ws B) : (sortN B).reverse = bas ws := by
  refine bas_of ⟨?_, ?_⟩ fun v => ?_
  · exact piv_perm ((List.reverse_perm _).trans (sortN_perm B)).symm h.pv
  · rw [List.pairwise_reverse]
    exact sortN_lt (piv_nodup h.pv)
  · rw [span_perm ((List.reverse_perm _).trans (sortN_perm B)), h.sp]
/-- all sums, one word behind another -/
def spanU (ws : List Nat) : List Nat := ws.foldl (fun f w => f ++ f.map (· ^^^ w)) [0]
theorem spanU_len : ∀ ws : List Nat, (spanU ws).length = 2 ^ ws.length := by
  have : ∀ (ws f : List Nat), (ws.foldl (fun f w => f ++ f.map (· ^^^ w)) f).length = f.length * 2 ^ ws.length := fun ws => by
    induction ws with
    | nil => intro f; simp
    | cons w ws ih =>
      intro f
      rw [List.foldl_cons, ih, List.length_append, List.length_map, List.length_cons, Nat.pow_succ]
      rw [← Nat.two_mul, Nat.mul_comm 2 f.length, Nat.mul_assoc, Nat.mul_comm 2]
  intro ws
  have := this ws [0]
  rw [List.length_singleton, Nat.one_mul] at this
  exact this
end
open PySem PySem.Spec PyProof.Rows L2
variable {W : Wd}
section
variable {Ds Es Fs Gs : EnvT W} {d d1 d2 : Dn W} {te ti tl tb : TE} {t ta tk : TA} {tt : TT} {ts tu t1 t2 : TS} {i j k n m : Nat} {K : PySem.W.Frag} {xs ys zs : List V} {l ws : List Nat}
theorem open_env {σ : L2.St} {H : Hp} {ι : Type} {P : ι → Prop} {f : ι → Dn W} (e : Ds.get i = some (dEx P f)) (hi : Nat.ble (i + 1) Ds.n = true) (en : EnvL Ds σ H) : ∃ x, P x ∧ EnvL (Ds.set i (some (f x))) σ H := by
  obtain ⟨v, e1, x, px, o⟩ := en.get e hi
  have := EnvL.set (i := i) o en
  rw [set_id e1] at this
  exact ⟨x, px, this⟩
theorem nv_open {ι : Type} {P : ι → Prop} {f : ι → Dn W} (i : Nat) (e : Ds.get i = some (dEx P f)) (h : ∀ x, P x → NV (Ds.set i (some (f x))) ts Es) (hi : Nat.ble (i + 1) Ds.n = true := by rfl) : NV Ds ts Es := fun D σ H iv en q => by
  obtain ⟨x, px, en'⟩ := open_env e hi en
  exact h x px D σ H iv en' q
theorem sv_open {ι : Type} {P : ι → Prop} {f : ι → Dn W} (i : Nat) (e : Ds.get i = some (dEx P f)) (h : ∀ x, P x → SV (Ds.set i (some (f x))) ts d) (hi : Nat.ble (i + 1) Ds.n = true := by rfl) : SV Ds ts d := fun D σ H iv en q => by
  obtain ⟨x, px, en'⟩ := open_env e hi en
  exact h x px D σ H iv en' q
/-- a slot's meaning told in part alone -/
theorem nv_close {ι : Type} {P : ι → Prop} {f : ι → Dn W} {x : ι} (i : Nat) (h : NV Ds ts Gs) (g : Gs.get i = some (f x)) (px : P x) (hn : Fs.n = Gs.n) (k : AllIn (Gs.set i (some (dEx P f))) Fs.l) (hi : Nat.ble (i + 1) Gs.n = true := by rfl) : NV Ds ts Fs := fun D σ H iv en q => h D σ H iv en fun σ' H' l e => by
  obtain ⟨v, e1, o⟩ := e.get g hi
  have := EnvL.set (i := i) (d := dEx P f) (v := v) ⟨x, px, o⟩ e
  rw [set_id e1] at this
  exact q σ' H' l (this.sub hn k)
end
section
variable {n m : Nat} {ws l : List Nat} {C : Addr}
end
end Vf
namespace Vf
open PySem PySem.Spec PyProof.Rows L2
theorem env_close {W : Wd} {Fs Gs : EnvT W} {σ : L2.St} {H : Hp} {ι : Type} {P : ι → Prop} {f : ι → Dn W} {x : ι} (i : Nat) (e : EnvL Gs σ H) (g : Gs.get i = some (f x)) (px : P x) (hn : Fs.n = Gs.n) (k : AllIn (Gs.set i (some (dEx P f))) Fs.l) (hi : Nat.ble (i + 1) Gs.n = true := by rfl) : EnvL Fs σ H := by
  obtain ⟨v, e1, o⟩ := e.get g hi
  have := EnvL.set (i := i) (d := dEx P f) (v := v) ⟨x, px, o⟩ e
  rw [set_id e1] at this
  exact this.sub hn k
end Vf
namespace Vf
open PySem PySem.Spec PyProof.Rows L2
variable {W : Wd}
section
variable {n m N M : Nat} {ws l B : List Nat}
theorem SpanL.bas {B L : List Nat} (pl : Plain B) (h : SpanL B L) : bas L = B := (bas_of pl fun v => ⟨fun k => span_mem ((h.1 v).mpr k), span_sub fun w hw => (h.1 w).mp hw⟩).symm
end
end Vf
namespace Vf
open PySem PySem.Spec PyProof.Rows L2
end Vf
set_option Elab.async false
set_option linter.all false
set_option maxRecDepth 100000
set_option maxHeartbeats 4000000
namespace Vf
open PySem PySem.Spec PyProof.Rows L2
variable {W : Wd}
section
variable {Ds Es Fs : EnvT W} {cs cs1 cs2 : List (Nat × List V)} {P Q : List (Nat × List V) → Prop} {d d1 d2 : Dn W} {te ti tl tb : TE} {t ta : TA} {tt : TT} {ts tu t1 t2 : TS} {i j k n m : Nat} {K : PySem.W.Frag} {xs ys zs : List V} {l : List Nat}
theorem getC_ne (ne : i ≠ j) : ∀ {cs : List (Nat × List V)}, getC (setC cs j xs) i = getC cs i
  | [] => rfl
  | c :: cs => by
    show getC (bif Nat.beq c.1 j then (j, xs) :: cs else c :: setC cs j xs) i = (bif Nat.beq c.1 i then some c.2 else getC cs i)
    cases k : Nat.beq c.1 j with
    | true =>
      have e := Nat.eq_of_beq_eq_true k
      have k2 : Nat.beq c.1 i = false := Bool.eq_false_iff.mpr fun z => ne ((Nat.eq_of_beq_eq_true z).symm.trans e)
      have k3 : Nat.beq j i = false := by rw [← e]; exact k2
      show (bif Nat.beq j i then some xs else getC cs i) = _
      rw [k2, k3]
      rfl
    | false =>
      show (bif Nat.beq c.1 i then some c.2 else getC (setC cs j xs) i) = _
      rw [getC_ne ne]
theorem nvx_appendPop (gi : getC cs i = some ys) (gj : getC cs j = some xs) (h : EV (withC Ds cs) te (dEx (fun k => k < xs.length) dN)) (z1 : ys.length < 100000) (z2 : xs.length < 100000) (ne : i ≠ j := by decide) :
    NVX Ds cs (tDrop (tBM K "list" rAppend (tVar i) (tCons (tBM K "list" rPopAt (tVar j) (tCons te tNil)) tNil))) Ds (fun c => ∃ k y, k < xs.length ∧ xs[k]? = some y ∧ c = setC (setC cs j (xs.eraseIdx k)) i (ys ++ [y])) := fun D σ H G ce iv en q => by
  obtain ⟨p, e, hp⟩ := cell_at ce gi
  obtain ⟨r, e2, hr⟩ := cell_at ce gj
  refine ⟨.ref p, e, .inl ⟨rfl, _, SqL.of hp⟩, .ref r, e2, .inl ⟨rfl, _, SqL.of hr⟩, ev_run h ce iv en fun v H1 G1 c1 l1 _ ⟨k, hk, o⟩ => ?_⟩
  have hy : xs[k]? = some xs[k] := List.getElem?_eq_getElem hk
  obtain ⟨r2, e3, hr2, c2⟩ := c1.change (ys := xs.eraseIdx k) gj
  rw [e2] at e3
  cases e3
  rw [show v = V.int (k : Int) from o]
  refine ⟨r, xs, k, k, xs[k], rfl, rfl, hr2, by omega, by omega, ?_, hy, ?_⟩
  · unfold seqIndex?
    have h0 : ¬ ((k : Int) < 0) := by omega
    have h1 : (0 : Int) ≤ (k : Int) := by omega
    have h2 : (k : Int) < (xs.length : Int) := by omega
    simp only [h0, if_false, h1, h2, decide_true, Bool.and_self, if_true, Int.toNat_natCast]
  · obtain ⟨p2, e4, hp2, c3⟩ := c2.change (i := i) (xs := ys) (ys := ys ++ [xs[k]]) (by rw [getC_ne ne]; exact gi)
    rw [e] at e4
    cases e4
    exact ⟨p, ys, xs[k], rfl, rfl, hp2, sl_lt (by omega), q _ _ _ _ ⟨k, xs[k], hk, hy, rfl⟩ c3 l1 (en.st l1)⟩
theorem nvc_sub' {Gs : EnvT W} (h : NVC Ds cs ts Gs cs1) (hn : Es.n = Gs.n) (k : AllIn Gs Es.l) : NVC Ds cs ts Es cs1 := fun D σ H G ce iv en q => h D σ H G ce iv en fun σ' H' G' c l e => q σ' H' G' c l (e.sub hn k)
/-! a list made anew by list(range(..)) -/
theorem fl_listRg (hn : n ≤ 100000) (h : EV Ds te (dN n)) : FL Ds (tLstRg (tRg1 te)) (vs (List.range n)) := fun σ H Q iv en q => h σ H _ iv en fun v H1 l1 o1 => by
  have iv1 := W.step l1 iv
  refine ⟨n, o1, RgOk.of_le (by omega) (by omega) (by omega) (by omega), fun p np => q p _ (none_back iv1 l1 np) (W.fresh iv1 np) (by rw [del_upd np]; exact l1) ?_⟩
  rw [upd_same, rg_vs]
end
end Vf
set_option Elab.async false
set_option linter.all false
set_option maxRecDepth 100000
set_option maxHeartbeats 4000000
namespace Vf
/-! ### led words by |, pairs, still lists -/
section
variable {n m k w : Nat} {s l B ws : List Nat}
theorem led_par {a b : Nat} (h : Seq n s) (n24 : n ≤ 24) (ha : a < 2 ^ n) : par (ledN s a) (ledN s b) = par a b := by
  unfold par
  rw [← ledN_and h.nd, ledN_pc h n24 (Nat.lt_of_le_of_lt Nat.and_le_left ha)]
theorem still_bas (h : ∀ a ∈ ws, ∀ b ∈ ws, par a b = false) : stillB (bas ws) = true := by
  rw [still_span]
  intro a ha b hb
  have ha := (bas_span ws a).mp ha
  have hb := (bas_span ws b).mp hb
  exact still_span.mp (still_iff.mpr h) a ha b hb
end
open PySem PySem.Spec PyProof.Rows L2
variable {W : Wd}
section
variable {p : Addr} {n m : Nat} {s l ws : List Nat}
structure SeqP (W : Wd) (i : Addr × Nat) : Prop where
  hp : IsPot W i.1
  n24 : i.2 ≤ 24
def sp_lseq : Sp := spW (ι := Addr × Nat) (fun W i => SeqP W i) (fun _ i => [dV (.ref i.1), dN i.2]) fun _ i => dEx (fun s => Seq i.2 s) dVs
theorem sd_lseq (hp : IsPot W p) (h : n ≤ 24) : SpD sp_lseq [] [dV (.ref p), dN n] (dEx (fun s => Seq n s) dVs : Dn W) := spW_sd (i := (p, n)) ⟨hp, h⟩
end
end Vf
namespace Vf
open PySem PySem.Spec PyProof.Rows L2
end Vf
namespace Vf
theorem vs_erase : ∀ (l : List Nat) (k : Nat), (vs l).eraseIdx k = vs (l.eraseIdx k)
  | [], _ => rfl
  | _ :: _, 0 => rfl
  | _ :: l, k + 1 => congrArg (List.cons _) (vs_erase l k)
end Vf
namespace Vf
section
variable {n m : Nat} {s B ws : List Nat}
/-- as many dimensions as words, if each top is off in the others -/
theorem piv_dim (h : Piv B) : (bas B).length = B.length := by
  obtain ⟨m1, n1, l1⟩ := sums_ok h
  have k := (SpanL.sort n1 m1).len
  rw [sortN_len, l1] at k
  exact (pow_inj k).symm
theorem exB_dim (hs : Seq n s) (ltB : ∀ b ∈ B, b < 2 ^ n) : (bas (exB B s)).length = (bas B).length := by
  have e : bas (exB B s) = bas (exB (bas B) s) := plain_unique (bas_plain _) (bas_plain _) fun v => by
    rw [exB_span hs, exB_span hs]
    exact ⟨fun ⟨a, ha, e⟩ => ⟨a, (bas_span B a).mpr ha, e⟩, fun ⟨a, ha, e⟩ => ⟨a, (bas_span B a).mp ha, e⟩⟩
  rw [e]
  exact ex_dim hs (bas_plain B) (bas_lt ltB) (words_spanL (bas_plain B))
end
end Vf
set_option Elab.async false
set_option linter.all false
set_option maxRecDepth 100000
set_option maxHeartbeats 4000000
namespace Vf
/-! ### fill-ups -/
section
variable {n k w : Nat} {A B ws : List Nat}
theorem add_dim (pB : Plain B) (h : ¬ span B w) : (bas (B ++ [w])).length = B.length + 1 := by
  have l : Lpl B B := ⟨pB.1, fun _ => Iff.rfl, Nat.le_refl _⟩
  have r0 : restOf w B ≠ 0 := fun z => h ((rest_zero pB.1 w).mp z)
  have k := l.put r0
  have e : bas (B.map (clear1 (restOf w B)) ++ [restOf w B]) = bas (B ++ [w]) := plain_unique (bas_plain _) (bas_plain _) fun v => by rw [bas_span, bas_span, k.sp]
  rw [← e, piv_dim k.pv, List.length_append, List.length_map]
  rfl
theorem app_lt (h : ∀ b ∈ B, b < 2 ^ n) (hw : w < 2 ^ n) : ∀ b ∈ B ++ [w], b < 2 ^ n := fun b hb => (List.mem_append.mp hb).elim (h b) fun k => by rw [List.mem_singleton.mp k]; exact hw
theorem app_even (h : ∀ a ∈ B, ∀ b ∈ B, par a b = false) (k : ∀ b ∈ B, par w b = false) (ww : par w w = false) : ∀ a ∈ B ++ [w], ∀ b ∈ B ++ [w], par a b = false := fun a ha b hb => by
  rcases List.mem_append.mp ha with p | p <;> rcases List.mem_append.mp hb with q | q
  · exact h a p b q
  · rw [List.mem_singleton.mp q, par_comm]
    exact k a p
  · rw [List.mem_singleton.mp p]
    exact k b q
  · rw [List.mem_singleton.mp p, List.mem_singleton.mp q]
    exact ww
theorem own_len (h : ownB n B = true) : 2 * B.length = n := by
  unfold ownB at h
  exact of_decide_eq_true (Bool.and_eq_true _ _ |>.mp h).2
end
open PySem PySem.Spec PyProof.Rows L2
variable {W : Wd}
section
variable {C : Addr} {n m w : Nat} {A B ws : List Nat} {X : Cx}
/-! the defs -/
end
end Vf
namespace Vf
open PySem PySem.Spec PyProof.Rows L2
variable {W : Wd} {n N M : Nat} {ws : List Nat}
end Vf
set_option Elab.async false
set_option linter.all false
set_option maxRecDepth 100000
set_option maxHeartbeats 4000000
namespace Vf
/-! ### papers -/
inductive Pap where
  | none
  | odd (a b : Nat)
  | lacks (a : Nat)
def Pap.isNone : Pap → Bool
  | .none => true
  | _ => false
section
variable {n : Nat} {B : List Nat} {p : Pap}
end
open PySem PySem.Spec PyProof.Rows L2
variable {W : Wd}
section
variable {Ds : EnvT W} {d d1 d2 d3 : Dn W} {ds : List (Dn W)} {te ta tb tc : TE} {C : Addr} {n m k : Nat} {A B ws : List Nat} {K : PySem.W.Frag} {p : Pap} {r r' : R2}
theorem od_ixTD (h : ds[k]? = some d) : OpD (W := W) (rIxT K) (dTD ds) (dN k) d := fun u v H Q iv ⟨a, xs, e, g, h1, o⟩ e2 q => by
  subst e
  rw [show v = V.int (k : Int) from e2]
  have lk : k < xs.length := by
    rw [o.length]
    exact (List.getElem?_eq_some_iff.mp h).1
  have hx : xs[k]? = some xs[k] := List.getElem?_eq_getElem lk
  have ok : d.ok xs[k] H := by
    have : ∀ {ds : List (Dn W)} {xs : List V} {k : Nat} {d : Dn W} {x : V}, OkL ds xs H → ds[k]? = some d → xs[k]? = some x → d.ok x H := by
      intro ds
      induction ds with
      | nil => intro xs k d x _ h; simp at h
      | cons d0 ds ih =>
        intro xs k d x o h hx
        cases xs with
        | nil => exact o.elim
        | cons x0 xs =>
          cases k with
          | zero =>
            have e1 : d0 = d := by simpa using h
            have e2 : x0 = x := by simpa using hx
            subst e1 e2
            exact o.1
          | succ k => exact ih o.2 (by simpa using h) (by simpa using hx)
    exact this o h hx
  exact ⟨a, xs, k, xs[k], rfl, rfl, .inl (.inl h1), atI_nat (j := k) hx, q _ H (W.refl H) ok⟩
/-! the defs -/
end
end Vf
namespace Vf
open PySem PySem.Spec PyProof.Rows L2
variable {W : Wd} {Ds : EnvT W} {tt t1 t2 : TT} {ts tu : TS} {d : Dn W}
end Vf
namespace Vf
open PySem PySem.Spec PyProof.Rows L2
theorem ix_tupS {X : Cx} (K : PySem.W.Frag) (h : X.K = K := by rfl) : IxR X (rIxT K) := h ▸ ix_tup
end Vf
set_option Elab.async false
set_option linter.all false
set_option maxRecDepth 100000
set_option maxHeartbeats 400000
namespace Vf
/-! ### sums of signs, numbers by weight -/
section
variable {α β : Type}
end
section
variable {n k v w u j : Nat} {B L : List Nat}
end
end Vf
set_option Elab.async false
set_option linter.all false
set_option maxRecDepth 100000
set_option maxHeartbeats 400000
namespace Vf
/-! ### lists of numbers of a product -/
/-! identities -/
end Vf
set_option Elab.async false
set_option linter.all false
set_option maxRecDepth 100000
set_option maxHeartbeats 1000000
namespace Vf
open PySem PySem.Spec PyProof.Rows L2
variable {W : Wd}
/-! ### numbers with signs -/
abbrev dIs (l : List Int) : Dn W := dLst (l.map V.int)
section
variable {Ds Es Fs : EnvT W} {cs cs1 : List (Nat × List V)} {d d1 d2 : Dn W} {te ti tl tb : TE} {t ta : TA} {tt : TT} {ts tu : TS} {i j k n m : Nat} {K : PySem.W.Frag} {xs ys : List V} {a b : Int} {l l2 : List Int} {C : Addr}
theorem cd_sumI : CrD (W := W) (rSum K) [dIs l] (dI l.sum) := fun vs H Q iv o q => by
  match vs, o with
  | [v], ⟨⟨p, e, g, h⟩, _⟩ =>
    subst e
    exact ⟨p, l, rfl, SqL.of h, q _ H (W.refl H) rfl⟩
end
/-! ### the defs of entries -/
section
variable {n m i j k : Nat} {l : List Int} {e : Int}
end
end Vf
set_option Elab.async false
set_option linter.all false
set_option maxRecDepth 100000
set_option maxHeartbeats 1000000
namespace Vf
open PySem PySem.Spec PyProof.Rows L2
variable {W : Wd}
section
variable {Ds Es Fs : EnvT W} {d d1 d2 d3 : Dn W} {t ta tk : TA} {te : TE}
theorem ev_eqD (h : EV Ds te d1) (e : d1 = d2) : EV Ds te d2 := e ▸ h
end
/-! sums gone through -/
/-! the list of entries, from its factors -/
end Vf
set_option Elab.async false
set_option linter.all false
set_option maxRecDepth 100000
set_option maxHeartbeats 1000000
namespace Vf
open PySem PySem.Spec PyProof.Rows L2
variable {W : Wd}
/-! ### defs whose result is a list made anew -/
section
variable {Ds Es Fs : EnvT W} {cs cs1 : List (Nat × List V)} {d d1 d2 : Dn W} {te ti tl : TE} {t ta : TA} {tt : TT} {ts tu tb : TS} {i j k n : Nat} {K : PySem.W.Frag} {xs ys : List V} {l : List Nat}
/-! a loop over a told list, cells at hand -/
theorem CE.more {p : Addr} {o : HO} : ∀ {cs : List (Nat × List V)} {σ : L2.St} {H G : Hp}, CE W cs σ (del p H) G → H p = some o → CE W cs σ H (upd G p o)
  | [], σ, H, G, h, e => by
    have h : G = del p H := h
    subst h
    exact upd_del e
  | c :: cs, σ, H, G, ⟨q, e1, f, hq, h⟩, e => by
    obtain ⟨ne, hq⟩ := del_some hq
    rw [del_del] at h
    refine ⟨q, e1, f, hq, CE.more h ?_⟩
    rw [del_ne (Ne.symm ne)]
    exact e
/-! numbers[k] += y -/
end
end Vf
set_option Elab.async false
set_option linter.all false
set_option maxRecDepth 100000
set_option maxHeartbeats 400000
namespace Vf
open PySem PySem.Spec PyProof.Rows L2
variable {W : Wd}
/-! ### a comprehension as a new list; defs that tell new lists -/
section
variable {Ds : EnvT W} {te ti tl : TE} {tt : TT} {i j k n : Nat} {K : PySem.W.Frag} {xs : List V} {l : List Nat}
end
section
variable {P : Program} {w : World} {K : PySem.W.Frag} {mg : Str → Option Value} {base : Heap} {x qual : Str} {st : Stmt} {f : Addr} {fd : FuncData} {N ps : List Str} {k : Nat}
  {ι : Type} {Pr : Wd → ι → Prop} {ds : (W : Wd) → ι → List (Dn W)} {ys : ι → List V}
end
/-! ### rows -/
def rowP (P : Nat → Nat) (n : Nat) (L : List Nat) : List Nat := (List.range (n + 1)).map fun j => (L.filter fun w => decide (P w = j)).length
theorem rowP_perm {P : Nat → Nat} {n : Nat} {L M : List Nat} (h : L.Perm M) : rowP P n L = rowP P n M := by
  unfold rowP
  exact List.map_congr_left fun j _ => (h.filter _).length_eq
end Vf
set_option Elab.async false
set_option linter.all false
set_option maxRecDepth 100000
set_option maxHeartbeats 400000
namespace Vf
open PySem PySem.Spec PyProof.Rows L2
variable {W : Wd}
/-- the row of a room -/
noncomputable def rowB (n : Nat) (B : List Nat) : List Nat := rowP pc n (wordsOf B)
theorem words_ok {B : List Nat} (pl : Plain B) : (∀ v, v ∈ wordsOf B ↔ span B v) ∧ (wordsOf B).Nodup ∧ (wordsOf B).length = 2 ^ B.length := by
  have s := words_spanL pl
  have pm : (wordsOf B).Perm (sumsOf B) := List.mergeSort_perm _ _
  have ok := sums_ok pl.1
  exact ⟨s.1, pm.nodup_iff.mpr ok.2.1, by rw [pm.length_eq, ok.2.2]⟩
/-! promises -/
section
variable {n k : Nat} {B r d l : List Nat} {C : Addr}
end
end Vf
set_option Elab.async false
set_option linter.all false
set_option maxRecDepth 100000
set_option maxHeartbeats 400000
namespace Vf
open PySem PySem.Spec PyProof.Rows L2
variable {W : Wd}
section
variable {Ds : EnvT W} {te ti tl : TE} {ts : TS} {tt : TT} {i j k n : Nat} {K : PySem.W.Frag} {xs ys : List V} {l : List Nat} {d1 d2 : Dn W}
end
end Vf
set_option Elab.async false
set_option linter.all false
set_option maxRecDepth 100000
set_option maxHeartbeats 400000
namespace Vf
open PySem PySem.Spec PyProof.Rows L2
variable {W : Wd}
/-! ### steps whose next state is told by an index -/
section
variable {ι : Type} {E : ι → EnvT W} {P : ι → List (Nat × List V) → Prop} {Ds Es Fs : EnvT W} {cs cs1 cs2 : List (Nat × List V)} {d d1 d2 : Dn W} {te ti tl tb : TE} {t ta : TA} {tt tt2 : TT} {ts tu t1 t2 : TS} {i j k n m : Nat} {K : PySem.W.Frag} {xs ys zs : List V} {l : List Nat} {b : Bool}
end
/-! promises of the laws of rows -/
def SpanN (ws L : List Nat) : Prop := (∀ v, v ∈ L ↔ span ws v) ∧ L.Nodup
end Vf
set_option Elab.async false
set_option linter.all false
set_option maxRecDepth 100000
set_option maxHeartbeats 400000
namespace Vf
open PySem PySem.Spec PyProof.Rows L2
variable {W : Wd}
section
variable {Ds Es Fs : EnvT W} {d : Dn W} {te ta tb tl : TE} {t : TA} {ts tu : TS} {t1 t2 : TT} {i j n : Nat} {K : PySem.W.Frag} {xs : List V} {l : List Nat}
end
/-! spans without repeated words -/
theorem SpanN.nil : SpanN [] [0] := ⟨fun v => ⟨fun h => by rw [List.mem_singleton.mp h]; exact span_zero _, fun h => List.mem_singleton.mpr (span_nil h)⟩, by simp⟩
theorem span_last {ws : List Nat} {w v : Nat} : span (ws ++ [w]) v ↔ span ws v ∨ span ws (v ^^^ w) := by
  rw [← span_cons]
  exact span_perm (List.perm_append_singleton w ws) v
theorem SpanN.old {ws L : List Nat} {w : Nat} (h : SpanN ws L) (hw : w ∈ L) : SpanN (ws ++ [w]) L := ⟨fun v => by
  rw [h.1, span_last]
  have sw := (h.1 w).mp hw
  refine ⟨.inl, fun k => k.elim id fun k => ?_⟩
  have := span_xor k sw
  rwa [Nat.xor_assoc, Nat.xor_self, Nat.xor_zero] at this, h.2⟩
theorem SpanN.new {ws L : List Nat} {w : Nat} (h : SpanN ws L) (hw : ¬ w ∈ L) : SpanN (ws ++ [w]) (L ++ L.map fun o => w ^^^ o) := by
  have mem : ∀ v, v ∈ L.map (fun o => w ^^^ o) ↔ span ws (v ^^^ w) := fun v => by
    rw [List.mem_map]
    refine ⟨fun ⟨o, ho, e⟩ => ?_, fun k => ⟨v ^^^ w, (h.1 _).mpr k, ?_⟩⟩
    · rw [← e, Nat.xor_comm w o, Nat.xor_assoc, Nat.xor_self, Nat.xor_zero]
      exact (h.1 o).mp ho
    · rw [Nat.xor_comm v w, ← Nat.xor_assoc, Nat.xor_self, Nat.zero_xor]
  refine ⟨fun v => ?_, ?_⟩
  · rw [List.mem_append, h.1, mem, span_last]
  · refine List.nodup_append.mpr ⟨h.2, map_nd (fun x _ y _ e => by
      have e2 := congrArg (fun z => w ^^^ z) e
      have e2 : w ^^^ (w ^^^ x) = w ^^^ (w ^^^ y) := e2
      rwa [← Nat.xor_assoc, ← Nat.xor_assoc, Nat.xor_self, Nat.zero_xor, Nat.zero_xor] at e2) h.2, fun a ha b hb e => ?_⟩
    subst e
    have s1 := (h.1 a).mp ha
    have s2 := (mem a).mp hb
    have := span_xor s1 s2
    rw [← Nat.xor_assoc, Nat.xor_self, Nat.zero_xor] at this
    exact hw ((h.1 w).mpr this)
theorem SpanN.len {ws L : List Nat} {n : Nat} (h : SpanN ws L) (lt : ∀ v ∈ ws, v < 2 ^ n) : L.length ≤ 2 ^ n := by
  have := h.2.length_le_of_subset (l₂ := List.range (2 ^ n)) fun v hv => List.mem_range.mpr (span_lt lt ((h.1 v).mp hv))
  rwa [List.length_range] at this
end Vf
set_option Elab.async false
set_option linter.all false
set_option maxRecDepth 100000
set_option maxHeartbeats 400000
namespace Vf
open PySem PySem.Spec PyProof.Rows L2
variable {W : Wd}
theorem rowB_of {n : Nat} {B L : List Nat} (pl : Plain B) (mem : ∀ v, v ∈ L ↔ span B v) (nd : L.Nodup) : rowP pc n L = rowB n B := by
  obtain ⟨m2, n2, _⟩ := words_ok pl
  exact rowP_perm ((List.perm_ext_iff_of_nodup nd n2).mpr fun v => (mem v).trans (m2 v).symm)
theorem SpanN.row {n : Nat} {ws L : List Nat} (h : SpanN ws L) : rowP pc n L = rowB n (bas ws) := rowB_of (bas_plain _) (fun v => by rw [h.1, bas_span]) h.2
theorem SpanN.lenB {ws L : List Nat} (h : SpanN ws L) : L.length = 2 ^ (bas ws).length := by
  obtain ⟨m2, n2, len⟩ := words_ok (bas_plain ws)
  rw [← len]
  exact len_same h.2 n2 fun v => by rw [h.1, m2, bas_span]
section
variable {K : PySem.W.Frag} {C : Addr} {r : List Nat}
end
/-! rows of all words: Pascal's numbers -/
end Vf
set_option Elab.async false
set_option linter.all false
set_option maxRecDepth 100000
set_option maxHeartbeats 400000
namespace Vf
open PySem PySem.Spec PyProof.Rows L2
variable {W : Wd}
section
variable {Ds : EnvT W} {te tl : TE} {i : Nat} {K : PySem.W.Frag} {l : List Nat}
end
end Vf
set_option Elab.async false
set_option linter.all false
set_option maxRecDepth 100000
set_option maxHeartbeats 400000
namespace Vf
open PySem PySem.Spec PyProof.Rows L2
variable {W : Wd}
/-! ### product_of, counted_weights -/
section
variable {c k n : Nat} {L : List Nat}
end
/-! ### while with a state told by an index, ranges of any length -/
section
variable {ι κ : Type} {Ds Es Fs : EnvT W} {ta : TA} {tt : TT} {ts : TS} {i n : Nat} {d1 : Dn W}
end
end Vf
set_option Elab.async false
set_option linter.all false
set_option maxRecDepth 100000
set_option maxHeartbeats 400000
namespace Vf
open PySem PySem.Spec PyProof.Rows L2
variable {W : Wd}
/-! ### neighbours -/
section
variable {n m w v : Nat} {A B D L ws X : List Nat}
structure OwnF (n : Nat) (B : List Nat) : Prop where
  f : RoomF n B
  own : ownB n B = true
theorem OwnF.len (h : OwnF n B) : 2 * B.length = n := own_len h.own
theorem OwnF.max (h : OwnF n B) (v : Nat) : span B v ↔ v < 2 ^ n ∧ ∀ b ∈ B, par v b = false := by
  have e := (own_iff h.f.pl h.f.n24 h.f.lt).mp h.own
  rw [← con_span h.f.pl h.f.n24 h.f.lt v, ← e]
theorem OwnF.still (h : OwnF n B) : ∀ a, span B a → ∀ b, span B b → par a b = false := by
  have o := h.own
  unfold ownB at o
  exact still_span.mp (Bool.and_eq_true _ _ |>.mp o).1
theorem own_mk (f : RoomF n B) (st : ∀ a ∈ B, ∀ b ∈ B, par a b = false) (l : 2 * B.length = n) : OwnF n B := ⟨f, by
  unfold ownB
  rw [still_iff.mpr st, decide_eq_true l]
  rfl⟩
noncomputable def halfB (n : Nat) (B : List Nat) (w : Nat) : List Nat := lowB n (comB n B (bas (conB n (bas [w]))))
noncomputable def nbB (n : Nat) (B : List Nat) (w : Nat) : List Nat := bas (halfB n B w ++ [w])
theorem one_lt (h : w < 2 ^ n) : ∀ v ∈ [w], v < 2 ^ n := fun v hv => by rw [List.mem_singleton.mp hv]; exact h
theorem half_span (f : RoomF n B) (hw : w < 2 ^ n) (v : Nat) : span (halfB n B w) v ↔ span B v ∧ par v w = false := by
  unfold halfB
  rw [comB_span f.lt, con_spanS (bas_plain _) f.n24 (bas_lt (one_lt hw))]
  have e : (∀ b, span (bas [w]) b → par v b = false) ↔ par v w = false := by
    constructor
    · intro h
      exact h w ((bas_span _ _).mpr (span_mem (List.mem_singleton.mpr rfl)))
    · intro h b hb
      exact par_span.mp (fun x hx => by rw [List.mem_singleton.mp hx]; exact h) b ((bas_span _ _).mp hb)
  rw [e]
  exact ⟨fun h => ⟨h.1, h.2.2⟩, fun h => ⟨h.1, span_lt f.lt h.1, h.2⟩⟩
theorem half_lt : ∀ v ∈ halfB n B w, v < 2 ^ n := lowB_lt
theorem half_len (h : OwnF n B) (hw : w < 2 ^ n) (nw : ¬ span B w) : 2 * (halfB n B w).length + 2 = n := by
  have f := h.f
  have pC := bas_plain (conB n (bas [w]))
  have lC := con_lt (n := n) (bas_plain [w]) (bas_lt (one_lt hw))
  have w0 : ¬ span [] w := fun k => nw (by rw [(span_emp w).mp k]; exact span_zero _)
  have l1 : (bas [w]).length = 1 := add_dim plain_nil w0
  have dC := con_dim (bas_plain [w]) f.n24 (bas_lt (one_lt hw))
  have sm := sum_common2 f.pl pC f.lt lC
  have cs := con_spanS (bas_plain [w]) f.n24 (bas_lt (one_lt hw))
  have hb : ∃ b ∈ B, par w b = true := by
    refine Decidable.byContradiction fun k => nw ((h.max w).mpr ⟨hw, fun b hb => ?_⟩)
    cases e : par w b with
    | false => rfl
    | true => exact absurd ⟨b, hb, e⟩ k
  obtain ⟨b, hb, pb⟩ := hb
  have nb : ¬ span (bas (conB n (bas [w]))) b := fun k => by
    have := ((cs b).mp k).2 w ((bas_span _ _).mpr (span_mem (List.mem_singleton.mpr rfl)))
    rw [par_comm, pb] at this
    cases this
  have d1 := add_dim pC nb
  have d2 := dim_le (bas_plain (bas (conB n (bas [w])) ++ [b])) (bas_plain (B ++ bas (conB n (bas [w])))) fun v hv => by
    rw [bas_span] at hv ⊢
    exact span_app_sub (fun x hx => span_right hx) (fun x hx => span_left (span_sub (fun y hy => by rw [List.mem_singleton.mp hy]; exact span_mem hb) hx)) hv
  have d3 := plain_len (n := n) (bas_plain (B ++ bas (conB n (bas [w])))) (bas_lt fun v hv => by
    rcases List.mem_append.mp hv with k | k
    · exact f.lt v k
    · exact lC v k)
  have hl := h.len
  unfold halfB
  omega
theorem nb_span (f : RoomF n B) (hw : w < 2 ^ n) (v : Nat) : span (nbB n B w) v ↔ (span B v ∧ par v w = false) ∨ (span B (v ^^^ w) ∧ par (v ^^^ w) w = false) := by
  unfold nbB
  rw [bas_span, span_last, half_span f hw, half_span f hw]
theorem nb_F (f : RoomF n B) (hw : w < 2 ^ n) : RoomF n (nbB n B w) := ⟨bas_plain _, f.n1, f.n24, bas_lt (app_lt half_lt hw)⟩
theorem nb_len (h : OwnF n B) (hw : w < 2 ^ n) (nw : ¬ span B w) : 2 * (nbB n B w).length = n := by
  have := half_len h hw nw
  have e : (bas (halfB n B w ++ [w])).length = (halfB n B w).length + 1 := add_dim (lowB_plain _ _) fun k => nw ((half_span h.f hw w).mp k).1
  unfold nbB
  omega
theorem own_nb (h : OwnF n B) (hw : w < 2 ^ n) (nw : ¬ span B w) (ww : par w w = false) : OwnF n (nbB n B w) := by
  have f2 := nb_F h.f hw
  have hs := half_span h.f hw
  have st : stillB (nbB n B w) = true := still_bas (app_even (fun a ha b hb => h.still a ((hs a).mp (span_mem ha)).1 b ((hs b).mp (span_mem hb)).1) (fun b hb => by
    rw [par_comm]
    exact ((hs b).mp (span_mem hb)).2) ww)
  exact own_mk f2 (still_iff.mp st) (nb_len h hw nw)
/-! lists of all words -/
theorem words_sort (pl : Plain D) (nd : X.Nodup) (mem : ∀ v, v ∈ X ↔ span D v) : sortN X = wordsOf D := (wordsU pl (SpanL.sort nd mem)).symm
/-! a lacked even word -/
/-! the first pairs -/
/-! distances -/
noncomputable def distB (n : Nat) (A B : List Nat) : Nat := A.length - (lowB n (comB n A B)).length
theorem com_le (fA : RoomF n A) : (lowB n (comB n A B)).length ≤ A.length := dim_le (lowB_plain _ _) fA.pl fun v hv => ((comB_span fA.lt v).mp hv).1
theorem com_comm (fA : RoomF n A) (fB : RoomF n B) : lowB n (comB n A B) = lowB n (comB n B A) := plain_unique (lowB_plain _ _) (lowB_plain _ _) fun v => by
  rw [comB_span fA.lt, comB_span fB.lt, and_comm]
theorem com_self (fA : RoomF n A) : lowB n (comB n A A) = A := plain_unique (lowB_plain _ _) fA.pl fun v => by
  rw [comB_span fA.lt, and_self]
theorem dist_self (fA : RoomF n A) : distB n A A = 0 := by
  unfold distB
  rw [com_self fA, Nat.sub_self]
theorem dist_zero (hA : OwnF n A) (hB : OwnF n B) : distB n A B = 0 ↔ A = B := by
  constructor
  · intro h
    have l := com_le (B := B) hA.f
    have l2 := com_le (B := A) hB.f
    rw [com_comm hB.f hA.f] at l2
    have a := hA.len
    have b := hB.len
    have e1 : (lowB n (comB n A B)).length = A.length := by
      unfold distB at h
      omega
    have s1 : ∀ v, span (lowB n (comB n A B)) v ↔ span A v := sub_dim (lowB_plain _ _) hA.f.pl (fun v hv => ((comB_span hA.f.lt v).mp hv).1) e1
    have s2 : ∀ v, span (lowB n (comB n A B)) v ↔ span B v := sub_dim (lowB_plain _ _) hB.f.pl (fun v hv => ((comB_span hA.f.lt v).mp hv).2) (by omega)
    exact plain_unique hA.f.pl hB.f.pl fun v => (s1 v).symm.trans (s2 v)
  · rintro rfl
    exact dist_self hA.f
end
end Vf
set_option Elab.async false
set_option linter.all false
set_option maxRecDepth 100000
set_option maxHeartbeats 400000
namespace Vf
open PySem PySem.Spec PyProof.Rows L2
variable {W : Wd}
/-! ### plain bases out of sorted lists of all words -/
section
variable {n i : Nat} {B M L : List Nat}
end
/-! ### rules -/
section
variable {Ds Es Fs : EnvT W} {te tl : TE} {ts : TS} {i : Nat} {K : PySem.W.Frag} {l : List Nat}
theorem nv_forL (E : Nat → EnvT W) (hl : EV Ds tl (dVs l)) (h0 : ∀ σ H, EnvL Ds σ H → EnvL (E 0) σ H) (hb : ∀ k x, l[k]? = some x → NV ((E k).set i (some (dN x))) ts (E (k + 1))) :
    NV Ds (tFor (iList K tl) (gName i) ts) (E l.length) := fun D σ H iv en q =>
  hl σ H _ iv en fun v H1 l1 ⟨a, e, g, h⟩ => by
    subst e
    refine ⟨a, rfl, ⟨vs l, .inl (.inl h)⟩, ?_⟩
    refine for_list (K := K) (a := a) (xs := vs l) (fun k σ' H' => W.L H1 H' ∧ EnvL (E k) σ' H') ⟨W.refl H1, h0 _ _ (en.st l1)⟩ (fun k σ' H' _ hP => .inl (.inl (W.keep g hP.1 h))) (fun k x σ' H' hx hP => ?_) fun σ' H' hP => q σ' H' (W.trans l1 hP.1) (by have := hP.2; rwa [len_vs] at this)
    have iv' := W.step hP.1 (W.step l1 iv)
    obtain ⟨w, hw, rfl⟩ := get_vs hx
    exact hb k w hw _ _ H' iv' (hP.2.set rfl) fun σ2 H2 l2 e2 => ⟨W.trans hP.1 l2, e2⟩
end
/-! ### promises -/
section
variable {n m w k : Nat} {A B L ws : List Nat} {C p : Addr}
theorem words_le (pl : Plain B) (h : B.length ≤ 12) : (wordsOf B).length ≤ 4096 := by
  rw [(words_ok pl).2.2]
  exact pw_le h
/-! the program's -/
end
end Vf
set_option Elab.async false
set_option linter.all false
set_option maxRecDepth 100000
set_option maxHeartbeats 400000
namespace Vf
open PySem PySem.Spec PyProof.Rows L2
variable {W : Wd}
/-! ### neighbours have distance 1, and are made again by any further word -/
section
variable {n w u v : Nat} {A B D : List Nat}
theorem nb_has (f : RoomF n A) (hw : w < 2 ^ n) : span (nbB n A w) w := (nb_span f hw w).mpr (.inr (by rw [Nat.xor_self]; exact ⟨span_zero _, par_zero w⟩))
theorem com_nb (h : OwnF n A) (hw : w < 2 ^ n) (nw : ¬ span A w) : lowB n (comB n A (nbB n A w)) = halfB n A w := plain_unique (lowB_plain _ _) (lowB_plain _ _) fun v => by
  rw [comB_span h.f.lt, nb_span h.f hw]
  refine Iff.trans ?_ (half_span h.f hw v).symm
  constructor
  · rintro ⟨h1, h2 | ⟨h2, _⟩⟩
    · exact h2
    · refine absurd ?_ nw
      have := span_xor h1 h2
      rwa [← Nat.xor_assoc, Nat.xor_self, Nat.zero_xor] at this
  · exact fun k => ⟨k.1, .inl k⟩
theorem dist_nb (h : OwnF n A) (hw : w < 2 ^ n) (nw : ¬ span A w) : distB n A (nbB n A w) = 1 := by
  have := half_len h hw nw
  have := h.len
  unfold distB
  rw [com_nb h hw nw]
  omega
end
end Vf
set_option Elab.async false
set_option linter.all false
set_option maxRecDepth 100000
set_option maxHeartbeats 4000000
set_option pp.maxSteps 300
namespace Vf
open PySem PySem.Spec PyProof.Rows L2
/-! ### chains: distances of own rooms -/
section
variable {n u k : Nat} {A B D : List Nat}
theorem dist_tri (hA : OwnF n A) (hB : OwnF n B) (hD : OwnF n D) : distB n A B ≤ distB n A D + distB n D B := by
  have lA := hA.len
  have lB := hB.len
  have lD := hD.len
  have eq := sum_common2 (n := n) (A := lowB n (comB n A D)) (B := lowB n (comB n D B)) (lowB_plain _ _) (lowB_plain _ _) lowB_lt lowB_lt
  have h1 : (bas (lowB n (comB n A D) ++ lowB n (comB n D B))).length ≤ D.length := dim_le (bas_plain _) hD.f.pl fun v hv => by
    rw [bas_span] at hv
    exact span_app_sub (fun v k => ((comB_span hA.f.lt v).mp k).2) (fun v k => ((comB_span hD.f.lt v).mp k).1) hv
  have h2 : (lowB n (comB n (lowB n (comB n A D)) (lowB n (comB n D B)))).length ≤ (lowB n (comB n A B)).length := dim_le (lowB_plain _ _) (lowB_plain _ _) fun v hv => by
    have k := (comB_span lowB_lt v).mp hv
    exact (comB_span hA.f.lt v).mpr ⟨((comB_span hA.f.lt v).mp k.1).1, ((comB_span hD.f.lt v).mp k.2).2⟩
  have c1 := com_le (B := D) hA.f
  have c2 := com_le (B := B) hD.f
  have c3 := com_le (B := B) hA.f
  unfold distB
  omega
theorem dist_le (hA : OwnF n A) : distB n A B ≤ 12 := by
  have := hA.len
  have := hA.f.n24
  unfold distB
  omega
theorem dist_near (hA : OwnF n A) (hB : OwnF n B) (hu : span B u) (nu : ¬ span A u) : OwnF n (nbB n A u) ∧ distB n (nbB n A u) B + 1 = distB n A B := by
  have lu := span_lt hB.f.lt hu
  have uu := hB.still u hu u hu
  have hN := own_nb hA lu nu uu
  have d1 := dist_nb hA lu nu
  have tr := dist_tri hA hB hN
  have lA := hA.len
  have lN := hN.len
  have ad : (bas (lowB n (comB n A B) ++ [u])).length = (lowB n (comB n A B)).length + 1 := add_dim (lowB_plain _ _) fun h => nu ((comB_span hA.f.lt u).mp h).1
  have le : (bas (lowB n (comB n A B) ++ [u])).length ≤ (lowB n (comB n (nbB n A u) B)).length := dim_le (bas_plain _) (lowB_plain _ _) fun v hv => by
    rw [bas_span] at hv
    refine span_app_sub (D := lowB n (comB n (nbB n A u) B)) (fun v k => ?_) (fun v k => ?_) hv
    · have k := (comB_span hA.f.lt v).mp k
      exact (comB_span hN.f.lt v).mpr ⟨(nb_span hA.f lu v).mpr (.inl ⟨k.1, hB.still v k.2 u hu⟩), k.2⟩
    · have : v = 0 ∨ v = u := by
        have := (span_last (ws := []) (w := u) (v := v)).mp k
        rcases this with h | h
        · exact .inl ((span_emp v).mp h)
        · have z := (span_emp _).mp h
          have : v ^^^ u ^^^ u = u := by rw [z, Nat.zero_xor]
          rw [Nat.xor_assoc, Nat.xor_self, Nat.xor_zero] at this
          exact .inr this
      rcases this with rfl | rfl
      · exact span_zero _
      · exact (comB_span hN.f.lt v).mpr ⟨nb_has hA.f lu, hu⟩
  have c1 := com_le (B := B) hN.f
  have c2 := com_le (B := B) hA.f
  refine ⟨hN, ?_⟩
  unfold distB at *
  omega
/-- a chain of own rooms of n places from A to B -/
structure IsCh (n : Nat) (A B : List Nat) (l : List (List Nat)) : Prop where
  own : ∀ D ∈ l, OwnF n D
  hd : l[0]? = some A
  lst : l[l.length - 1]? = some B
  nx : ∀ k X Y, l[k]? = some X → l[k + 1]? = some Y → distB n X Y = 1
  ln : l.length ≤ 100
theorem IsCh.pos {l : List (List Nat)} (h : IsCh n A B l) : 0 < l.length := (List.getElem?_eq_some_iff.mp h.hd).1
theorem IsCh.app {l m : List (List Nat)} (h : IsCh n A D l) (k : IsCh n D B m) (ln : l.length + m.length ≤ 100) : IsCh n A B (l ++ m.drop 1) := by
  have p1 := h.pos
  have p2 := k.pos
  refine ⟨fun X hX => (List.mem_append.mp hX).elim (h.own X) fun z => k.own X (List.mem_of_mem_drop z), ?_, ?_, fun i X Y hX hY => ?_, ?_⟩
  · rw [List.getElem?_append_left p1]
    exact h.hd
  · rw [List.length_append, List.length_drop]
    by_cases e : m.length = 1
    · have : m.drop 1 = [] := List.drop_eq_nil_of_le (by omega)
      rw [this, List.append_nil, e]
      have hl := h.lst
      have ml := k.lst
      rw [e] at ml
      have md := k.hd
      rw [show 1 - 1 = 0 from rfl, md] at ml
      cases ml
      exact hl
    · rw [List.getElem?_append_right (by omega), List.getElem?_drop, show 1 + (l.length + (m.length - 1) - 1 - l.length) = m.length - 1 by omega]
      exact k.lst
  · by_cases c : i + 1 < l.length
    · rw [List.getElem?_append_left c] at hY
      rw [List.getElem?_append_left (by omega)] at hX
      exact h.nx i X Y hX hY
    · rw [List.getElem?_append_right (by omega), List.getElem?_drop] at hY
      by_cases c2 : i < l.length
      · rw [List.getElem?_append_left c2] at hX
        have : i = l.length - 1 := by omega
        subst this
        rw [h.lst] at hX
        cases hX
        rw [show 1 + (l.length - 1 + 1 - l.length) = 0 + 1 by omega] at hY
        exact k.nx 0 _ _ k.hd hY
      · rw [List.getElem?_append_right (by omega), List.getElem?_drop] at hX
        exact k.nx _ _ _ hX (by rw [show 1 + (i - l.length) + 1 = 1 + (i + 1 - l.length) by omega]; exact hY)
  · rw [List.length_append, List.length_drop]
    omega
end
end Vf
set_option Elab.async false
set_option linter.all false
set_option maxRecDepth 100000
set_option maxHeartbeats 4000000
set_option pp.maxSteps 300
namespace Vf
open PySem PySem.Spec PyProof.Rows L2
variable {W : Wd}
/-! ### lists of rooms that a def makes and changes -/
/-- a list whose first item is an object -/
def Rf (xs : List V) : Prop := ∃ a ys, xs = V.ref a :: ys
theorem OkL.app {H : Hp} : ∀ {ds es : List (Dn W)} {xs ys : List V}, OkL ds xs H → OkL es ys H → OkL (ds ++ es) (xs ++ ys) H
  | [], _, [], _, _, h => h
  | _ :: _, _, _ :: _, _, ⟨o, r⟩, h => ⟨o, OkL.app r h⟩
  | [], _, _ :: _, _, h, _ => h.elim
  | _ :: _, _, [], _, h, _ => h.elim
theorem OkL.drop {H : Hp} : ∀ (k : Nat) {ds : List (Dn W)} {xs : List V}, OkL ds xs H → OkL (ds.drop k) (xs.drop k) H
  | 0, _, _, h => h
  | _ + 1, [], [], _ => trivial
  | k + 1, _ :: _, _ :: _, h => OkL.drop k h.2
  | _ + 1, [], _ :: _, h => h.elim
  | _ + 1, _ :: _, [], h => h.elim
theorem OkL.take {H : Hp} : ∀ (k : Nat) {ds : List (Dn W)} {xs : List V}, OkL ds xs H → OkL (ds.take k) (xs.take k) H
  | 0, _, _, _ => trivial
  | _ + 1, [], [], _ => trivial
  | k + 1, _ :: _, _ :: _, h => ⟨h.1, OkL.take k h.2⟩
  | _ + 1, [], _ :: _, h => h.elim
  | _ + 1, _ :: _, [], h => h.elim
theorem OkL.get {H : Hp} : ∀ {ds : List (Dn W)} {xs : List V} {k : Nat} {d : Dn W}, OkL ds xs H → ds[k]? = some d → ∃ x, xs[k]? = some x ∧ d.ok x H
  | [], [], _, _, _, e => by simp at e
  | d :: ds, x :: xs, 0, d', h, e => by
    have : d = d' := by simpa using e
    subst this
    exact ⟨x, rfl, h.1⟩
  | d :: ds, x :: xs, k + 1, d', h, e => by
    obtain ⟨y, hy, o⟩ := OkL.get (k := k) h.2 (by simpa using e)
    exact ⟨y, by simpa using hy, o⟩
  | [], _ :: _, _, _, h, _ => h.elim
  | _ :: _, [], _, _, h, _ => h.elim
section
variable {Ds Es Fs : EnvT W} {d d1 d2 d3 : Dn W} {ds es : List (Dn W)} {te ta tb tl ti : TE} {t : TA} {tt : TT} {ts tu : TS} {i j l k n : Nat} {K : PySem.W.Frag} {b : Bool}
theorem od_ixLD (h : ds[k]? = some d) : OpD (W := W) (rIxL K) (dLD ds) (dN k) d := fun u v H Q iv ⟨a, xs, e, g, h1, o⟩ e2 q => by
  subst e
  rw [show v = V.int (k : Int) from e2]
  obtain ⟨x, hx, ox⟩ := o.get h
  exact ⟨a, xs, k, x, rfl, rfl, SqL.of h1, atI_nat (j := k) hx, q x H (W.refl H) ox⟩
theorem cd_lenLD : CrD (W := W) (fun xs H Q => ∃ p ys, xs = [.ref p] ∧ (SqL K H p ys ∨ SqT K H p ys) ∧ Q (.int ys.length) H) [dLD ds] (dN ds.length) := fun us H Q iv o q => by
  match us, o with
  | [u], ⟨⟨a, xs, e, g, h1, o⟩, _⟩ =>
    subst e
    exact ⟨a, xs, rfl, .inl (SqL.of h1), q _ H (W.refl H) (by rw [o.length]; rfl)⟩
theorem od_catLD (h : ds.length + es.length ≤ 100000) : OpD (W := W) rCat (dLD ds) (dLD es) (dLD (ds ++ es)) := fun u v H Q iv ⟨a, xs, e1, g1, h1, o1⟩ ⟨b, ys, e2, g2, h2, o2⟩ q =>
  od_catG (xs := xs) (ys := ys) (by rw [o1.length, o2.length]; exact h) u v H Q iv ⟨a, e1, g1, h1⟩ ⟨b, e2, g2, h2⟩ fun w H' l ⟨p, e3, g3, h3⟩ => q w H' l ⟨p, xs ++ ys, e3, g3, h3, (o1.st l).app (o2.st l)⟩
end
/-! ### worlds away from one thing -/
def awayW (W : Wd) (D : Addr) (hD : W.F D) : Wd where
  L := W.L
  inv H := W.inv H ∧ ∃ xs, H D = some (.lst xs)
  F a := W.F a ∧ a ≠ D
  refl := W.refl
  trans := W.trans
  same := W.same
  step l h := ⟨W.step l h.1, h.2.elim fun xs e => ⟨xs, W.keep hD l e⟩⟩
  keep f l e := W.keep f.1 l e
  fresh h n := ⟨W.fresh h.1 n, by
    rintro rfl
    obtain ⟨xs, e⟩ := h.2
    rw [n] at e
    cases e⟩
  insF h e := ⟨W.insF h.1 e, by
    rintro rfl
    obtain ⟨xs, k⟩ := h.2
    rw [e] at k
    cases k⟩
  putX h l n k := W.putX h.1 l n k
  delX f l k := W.delX f.1 l k
  delJ f h k := ⟨W.delJ f.1 h.1 k, h.2.elim fun xs e => ⟨xs, by rw [del_ne (Ne.symm f.2)]; exact e⟩⟩
/-- a meaning in each world -/
structure UD where
  f : ∀ W : Wd, Dn W
  lift : ∀ {W : Wd} {D : Addr} (hD : W.F D) {v : V} {H : Hp}, H D = none → (f W).ok v H → (f (awayW W D hD)).ok v H
  stay : ∀ {W : Wd} {D : Addr} (hD : W.F D) {v : V} {H : Hp} {o : HO}, (f (awayW W D hD)).ok v H → (f (awayW W D hD)).ok v (upd H D o)
  drop : ∀ {W : Wd} {D : Addr} (hD : W.F D) {v : V} {H : Hp}, (f (awayW W D hD)).ok v H → (f W).ok v H
def uV (v0 : V) : UD := ⟨fun _ => dV v0, fun _ _ _ _ h => h, fun _ _ _ _ h => h, fun _ _ _ h => h⟩
def uLst (xs : List V) : UD := ⟨fun _ => dLst xs, fun _ _ _ n ⟨a, e, g, h⟩ => ⟨a, e, ⟨g, ne_of_none h n⟩, h⟩, fun _ _ _ _ ⟨a, e, g, h⟩ => ⟨a, e, g, by rw [upd_ne g.2]; exact h⟩, fun _ _ _ ⟨a, e, g, h⟩ => ⟨a, e, g.1, h⟩⟩
def uRoom (C : Addr) (n : Nat) (B : List Nat) : UD := ⟨fun _ => dRoom C n B, fun _ _ _ z ⟨a, dx, b, e, g1, g2, h1, h2, f⟩ => ⟨a, dx, b, e, ⟨g1, ne_of_none h1 z⟩, ⟨g2, ne_of_none h2 z⟩, h1, h2, f⟩,
  fun _ _ _ _ ⟨a, dx, b, e, g1, g2, h1, h2, f⟩ => ⟨a, dx, b, e, g1, g2, by rw [upd_ne g1.2]; exact h1, by rw [upd_ne g2.2]; exact h2, f⟩, fun _ _ _ ⟨a, dx, b, e, g1, g2, h1, h2, f⟩ => ⟨a, dx, b, e, g1.1, g2.1, h1, h2, f⟩⟩
def uN (n : Nat) : UD := uV (.int (n : Int))
def uVs (l : List Nat) : UD := uLst (vs l)
/-- an environment in each world -/
def uEnv (n : Nat) (l : List (Nat × UD)) (W : Wd) : EnvT W := ⟨n, l.map fun p => (p.1, p.2.f W)⟩
theorem getE_u {l : List (Nat × UD)} {i : Nat} {W : Wd} {d : Dn W} (h : getE (l.map fun p => (p.1, p.2.f W)) i = some d) : ∃ u : UD, d = u.f W ∧ ∀ W' : Wd, getE (l.map fun p => (p.1, p.2.f W')) i = some (u.f W') := by
  induction l with
  | nil => cases h
  | cons p l ih =>
    have h : (bif Nat.beq p.1 i then some (p.2.f W) else getE (l.map fun p => (p.1, p.2.f W)) i) = some d := h
    cases c : Nat.beq p.1 i with
    | true =>
      rw [c] at h
      have h : some (p.2.f W) = some d := h
      cases h
      refine ⟨p.2, rfl, fun W' => ?_⟩
      show (bif Nat.beq p.1 i then some (p.2.f W') else getE (l.map fun p => (p.1, p.2.f W')) i) = _
      rw [c]
      rfl
    | false =>
      rw [c] at h
      obtain ⟨u, e, k⟩ := ih h
      refine ⟨u, e, fun W' => ?_⟩
      show (bif Nat.beq p.1 i then some (p.2.f W') else getE (l.map fun p => (p.1, p.2.f W')) i) = _
      rw [c]
      exact k W'
theorem uEnv_lift {n : Nat} {l : List (Nat × UD)} {σ : L2.St} {H : Hp} {D : Addr} (hD : W.F D) (nD : H D = none) (h : EnvL (uEnv n l W) σ H) : EnvL (uEnv n l (awayW W D hD)) σ H := ⟨h.1, fun i d e lt => by
  obtain ⟨u, rfl, k⟩ := getE_u e
  obtain ⟨v, e1, o⟩ := h.2 i (u.f W) (k W) lt
  exact ⟨v, e1, u.lift hD nD o⟩⟩
theorem uEnv_stay {n : Nat} {l : List (Nat × UD)} {σ : L2.St} {H : Hp} {D : Addr} {o : HO} (hD : W.F D) (h : EnvL (uEnv n l (awayW W D hD)) σ H) : EnvL (uEnv n l (awayW W D hD)) σ (upd H D o) := ⟨h.1, fun i d e lt => by
  obtain ⟨u, rfl, k⟩ := getE_u e
  obtain ⟨v, e1, x⟩ := h.2 i _ e lt
  exact ⟨v, e1, u.stay hD x⟩⟩
def uDs (us : List UD) (W : Wd) : List (Dn W) := us.map fun u => u.f W
theorem uDs_lift {D : Addr} {H : Hp} (hD : W.F D) (nD : H D = none) : ∀ {us : List UD} {xs : List V}, OkL (uDs us W) xs H → OkL (uDs us (awayW W D hD)) xs H
  | [], [], _ => trivial
  | u :: us, x :: xs, h => ⟨u.lift hD nD h.1, uDs_lift hD nD h.2⟩
  | [], _ :: _, h => h.elim
  | _ :: _, [], h => h.elim
theorem uDs_stay {D : Addr} {H : Hp} {o : HO} (hD : W.F D) : ∀ {us : List UD} {xs : List V}, OkL (uDs us (awayW W D hD)) xs H → OkL (uDs us (awayW W D hD)) xs (upd H D o)
  | [], [], _ => trivial
  | u :: us, x :: xs, h => ⟨u.stay hD h.1, uDs_stay hD h.2⟩
  | [], _ :: _, h => h.elim
  | _ :: _, [], h => h.elim
theorem uDs_drop {D : Addr} {H : Hp} (hD : W.F D) : ∀ {us : List UD} {xs : List V}, OkL (uDs us (awayW W D hD)) xs H → OkL (uDs us W) xs H
  | [], [], _ => trivial
  | u :: us, x :: xs, h => ⟨u.drop hD h.1, uDs_drop hD h.2⟩
  | [], _ :: _, h => h.elim
  | _ :: _, [], h => h.elim
section
variable {Ds Es Fs : EnvT W} {d d1 d2 d3 : Dn W} {ds es : List (Dn W)} {te ta tb tl ti : TE} {t : TA} {tt : TT} {ts tu : TS} {i j l k n N : Nat} {K : PySem.W.Frag} {b : Bool} {us : List UD} {ue : List (Nat × UD)}
/-- a list of things by a comprehension over a list of things -/
theorem ev_lcDD {ι : Type} (ue : List (Nat × UD)) (us : List ι) (fu gu : ι → UD) (hl : EV Ds tl (dLD (uDs (us.map fu) W))) (he : ∀ σ H, EnvL Ds σ H → EnvL (uEnv N ue W) σ H) (hz : us.length ≤ 100000)
    (hb : ∀ (W' : Wd), ∀ u ∈ us, EV ((uEnv N ue W').set i (some ((fu u).f W'))) te ((gu u).f W')) : EV Ds (tLc (iList K tl) (gName i) tYes te [i]) (dLD (uDs (us.map gu) W)) := fun σ H Q iv en q =>
  hl σ H _ iv en fun v H1 l1 ⟨a, xs, e, ga, h, oxs⟩ => by
    subst e
    have iv1 := W.step l1 iv
    have len := oxs.length
    unfold uDs at len
    rw [List.length_map, List.length_map] at len
    refine ⟨a, rfl, ⟨xs, .inl (.inl h)⟩, fun D nD => ?_⟩
    have fD : W.F D := W.fresh iv1 nD
    have en1 := uEnv_lift fD nD (he _ _ (en.st l1))
    have ox1 := uDs_lift fD nD oxs
    refine lc_list (K := K) (a := a) (xs := xs) (fun k H' => W.L H1 H' ∧ (∃ ys, H' D = some (.lst ys) ∧ OkL (uDs ((us.map gu).take k) (awayW W D fD)) ys H') ∧ EnvL (uEnv N ue (awayW W D fD)) σ H' ∧ OkL (uDs (us.map fu) (awayW W D fD)) xs H')
      ⟨W.put0 iv1 nD, ⟨[], upd_same, trivial⟩, uEnv_stay fD en1, uDs_stay fD ox1⟩ (fun k H' _ hP => .inl (.inl (W.keep ga hP.1 h))) (fun k x H' hx hP => ?_) fun H' hP => ?_
    · obtain ⟨lP, ⟨ys, eD, oy⟩, eP, oP⟩ := hP
      have lk : k < us.length := by
        rw [← len]
        exact (List.getElem?_eq_some_iff.mp hx).1
      have hd : us[k]? = some us[k] := List.getElem?_eq_getElem lk
      obtain ⟨x', hx', ox⟩ := oP.get (k := k) (d := (fu us[k]).f (awayW W D fD)) (by unfold uDs; rw [List.getElem?_map, List.getElem?_map, hd]; rfl)
      rw [hx] at hx'
      cases hx'
      have iv' : (awayW W D fD).inv H' := ⟨W.step lP iv1, ys, eD⟩
      have en' : EnvL ((uEnv N ue (awayW W D fD)).set i (some ((fu us[k]).f (awayW W D fD)))) ((wipe σ [i]).set i (some x)) H' := env_lc ox eP
      refine ⟨wipe_lc, tv_yes (W := awayW W D fD) _ H' _ iv' en' fun H2 l2 => ?_⟩
      refine (if_pos rfl).mpr (hb (awayW W D fD) us[k] (List.getElem_mem lk) _ H2 _ ((awayW W D fD).step l2 iv') (en'.st l2) fun y H3 l3 o3 => ?_)
      have l23 : (awayW W D fD).L H' H3 := (awayW W D fD).trans l2 l3
      have eD3 : H3 D = some (.lst ys) := W.keep fD l23 eD
      have ly := oy.length
      unfold uDs at ly
      rw [List.length_map, List.length_take, List.length_map] at ly
      refine ⟨ys, eD3, sl_lt (by omega), W.put iv1 (W.trans lP l23) nD, ⟨ys ++ [y], upd_same, ?_⟩, uEnv_stay fD (eP.st l23), uDs_stay fD (oP.st l23)⟩
      rw [List.take_add_one, List.getElem?_map, hd]
      have e2 : uDs ((us.map gu).take k ++ (Option.map gu (some us[k])).toList) (awayW W D fD) = uDs ((us.map gu).take k) (awayW W D fD) ++ [(gu us[k]).f (awayW W D fD)] := by
        unfold uDs
        rw [List.map_append]
        rfl
      rw [e2]
      exact OkL.app (uDs_stay fD (oy.st l23)) ⟨(gu us[k]).stay fD o3, trivial⟩
    · obtain ⟨lP, ⟨ys, eD, oy⟩, eP, oP⟩ := hP
      refine q _ H' (W.trans l1 lP) ⟨D, ys, rfl, fD, eD, ?_⟩
      have e3 : (us.map gu).take xs.length = us.map gu := List.take_of_length_le (by rw [List.length_map]; omega)
      rw [e3] at oy
      exact uDs_drop fD oy
/-! ### zip over two lists of things -/
end
end Vf
set_option Elab.async false
set_option linter.all false
set_option maxRecDepth 100000
set_option maxHeartbeats 4000000
set_option pp.maxSteps 300
namespace Vf
open PySem PySem.Spec PyProof.Rows L2
variable {W : Wd}
/-! ### a list of things in slot i, that grows: its content told by meanings, the world without it -/
structure LS (W : Wd) (i : Nat) (ds : List (Dn W)) (Ds : EnvT W) (p : Addr) (σ : L2.St) (H : Hp) : Prop where
  slot : σ[i]? = some (some (.ref p))
  F : W.F p
  ct : ∃ xs, H p = some (.lst xs) ∧ Rf xs ∧ OkL ds xs (del p H)
  inv : W.inv (del p H)
  env : EnvL Ds σ (del p H)
theorem LS.has {i : Nat} {ds : List (Dn W)} {Ds : EnvT W} {p : Addr} {σ : L2.St} {H : Hp} (h : LS W i ds Ds p σ H) : W.L (del p H) H ∧ W.inv H ∧ EnvL (Ds.set i (some (dLD ds))) σ H := by
  obtain ⟨xs, hp, _, o⟩ := h.ct
  have l := L_del h.inv hp
  refine ⟨l, W.step l h.inv, ?_⟩
  have := EnvL.set (d := dLD ds) (v := .ref p) (i := i) ⟨p, xs, rfl, h.F, hp, o.st l⟩ (h.env.st l)
  rwa [set_id h.slot] at this
theorem LS.go {i : Nat} {ds : List (Dn W)} {Ds : EnvT W} {p : Addr} {σ : L2.St} {H H1 : Hp} (h : LS W i ds Ds p σ H) (l : W.L H H1) : LS W i ds Ds p σ H1 ∧ W.L (del p H) (del p H1) := by
  obtain ⟨xs, hp, r, o⟩ := h.ct
  have l2 := W.delL h.F l
  exact ⟨⟨h.slot, h.F, ⟨xs, W.keep h.F l hp, r, o.st l2⟩, W.step l2 h.inv, h.env.st l2⟩, l2⟩
section
variable {ι κ : Type} {Ds Es Fs : EnvT W} {d d1 d2 d3 : Dn W} {ds es : List (Dn W)} {te ta tb tl ti : TE} {t : TA} {tt : TT} {ts tu : TS} {i j l k n N : Nat} {K : PySem.W.Frag} {b : Bool} {E : ι → EnvT W} {R : ι → List (Dn W)} {P : ι → Prop} {E' : κ → EnvT W} {R' : κ → List (Dn W)} {P' : κ → Prop}
/-! a list made anew, of things -/
end
section
variable {ι : Type} {Ds Es : EnvT W} {ds es : List (Dn W)} {te : TE} {ts tu : TS} {i : Nat} {E : ι → EnvT W} {R : ι → List (Dn W)} {P : ι → Prop}
end
section
variable {P : Program} {w : World} {K : PySem.W.Frag} {mg : Str → Option Value} {base : Heap} {x qual : Str} {st : Stmt} {f : Addr} {fd : FuncData} {N ps : List Str} {k : Nat}
  {ι : Type} {Pr : Wd → ι → Prop} {ds : (W : Wd) → ι → List (Dn W)} {us : ι → List UD}
end
end Vf
set_option Elab.async false
set_option linter.all false
set_option maxRecDepth 100000
set_option maxHeartbeats 4000000
set_option pp.maxSteps 300
namespace Vf
open PySem PySem.Spec PyProof.Rows L2
variable {W : Wd}
/-! ### lists of rooms of as many places -/
section
variable {C : Addr} {n k : Nat} {l m : List (List Nat)} {A B D : List Nat}
/-! ### chains of the program -/
end
/-! ### == of lists of rooms that are equal -/
section
variable {X : Cx} {C : Addr} {k : Nat}
end
/-! ### a new list that is read first and changed later -/
section
variable {Ds Es : EnvT W} {d d1 : Dn W} {ds : List (Dn W)} {ts tu : TS} {ta te : TE} {p : Addr} {i j : Nat}
end
end Vf
set_option Elab.async false
set_option linter.all false
set_option maxRecDepth 100000
set_option maxHeartbeats 4000000
set_option pp.maxSteps 300
namespace Vf
open PySem PySem.Spec PyProof.Rows L2
variable {W : Wd}
section
variable {Ds : EnvT W} {d d1 d2 : Dn W} {ds : List (Dn W)} {ta tb te : TE} {tu : TS} {i j l : Nat} {K : PySem.W.Frag}
end
/-- a path of own rooms that comes nearer to B by one with each step -/
structure PathP (n : Nat) (A B : List Nat) (k : Nat) (x : List (List Nat) × List Nat) : Prop where
  o : OwnF n x.2
  own : ∀ D ∈ x.1, OwnF n D
  len : x.1.length = k + 1
  hd : x.1[0]? = some A
  lst : x.1[k]? = some x.2
  nx : ∀ i X Y, x.1[i]? = some X → x.1[i + 1]? = some Y → distB n X Y = 1
  d : distB n x.2 B + k = distB n A B
theorem PathP.zero {n : Nat} {A B : List Nat} (hA : OwnF n A) : PathP n A B 0 ([A], A) := ⟨hA, fun D h => by rw [List.mem_singleton.mp h]; exact hA, rfl, rfl, rfl, fun i X Y _ h => by simp at h, rfl⟩
theorem PathP.step {n k u : Nat} {A B D : List Nat} {l : List (List Nat)} (h : PathP n A B k (l, D)) (hB : OwnF n B) (hu : span B u) (nu : ¬ span D u) : PathP n A B (k + 1) (l ++ [nbB n D u], nbB n D u) := by
  have o : OwnF n D := h.o
  have len : l.length = k + 1 := h.len
  obtain ⟨o2, e2⟩ := dist_near o hB hu nu
  have d : distB n D B + k = distB n A B := h.d
  refine ⟨o2, fun X hX => (List.mem_append.mp hX).elim (h.own X) fun z => by rw [List.mem_singleton.mp z]; exact o2, by rw [List.length_append, len]; rfl, ?_, ?_, fun i X Y hX hY => ?_, by show distB n (nbB n D u) B + (k + 1) = _; omega⟩
  · show (l ++ [nbB n D u])[0]? = some A
    rw [List.getElem?_append_left (by omega)]
    exact h.hd
  · show (l ++ [nbB n D u])[k + 1]? = some (nbB n D u)
    rw [List.getElem?_append_right (by omega), len, Nat.sub_self]
    rfl
  · have hX : (l ++ [nbB n D u])[i]? = some X := hX
    have hY : (l ++ [nbB n D u])[i + 1]? = some Y := hY
    have lt := (List.getElem?_eq_some_iff.mp hY).1
    rw [List.length_append, len] at lt
    have lt : i + 1 < k + 1 + 1 := lt
    rw [List.getElem?_append_left (by omega)] at hX
    by_cases c : i + 1 < l.length
    · rw [List.getElem?_append_left c] at hY
      exact h.nx i X Y hX hY
    · have : i = k := by omega
      subst this
      rw [List.getElem?_append_right (by omega), len, Nat.sub_self] at hY
      have hY : some (nbB n D u) = some Y := hY
      cases hY
      have hl : l[i]? = some D := h.lst
      rw [hl] at hX
      cases hX
      exact dist_nb o (span_lt hB.f.lt hu) nu
theorem PathP.chain {n : Nat} {A B D : List Nat} {l : List (List Nat)} (h : PathP n A B (distB n A B) (l, D)) (hA : OwnF n A) (hB : OwnF n B) : D = B ∧ IsCh n A B l := by
  have o : OwnF n D := h.o
  have len : l.length = distB n A B + 1 := h.len
  have d : distB n D B + distB n A B = distB n A B := h.d
  have e : D = B := (dist_zero o hB).mp (by omega)
  have d12 := dist_le (B := B) hA
  subst e
  exact ⟨rfl, h.own, h.hd, by rw [len, Nat.add_sub_cancel]; exact h.lst, h.nx, by omega⟩
end Vf
set_option Elab.async false
set_option linter.all false
set_option maxRecDepth 100000
set_option maxHeartbeats 4000000
set_option pp.maxSteps 300
namespace Vf
open PySem PySem.Spec PyProof.Rows L2
variable {W : Wd}
/-! ### own rooms exchanged, and beside one another -/
section
variable {n m w : Nat} {s A B S T : List Nat} {l : List (List Nat)}
theorem own_ex (hs : Seq n s) (h : OwnF n A) : OwnF n (bas (exB A s)) := by
  have f : RoomF n (bas (exB A s)) := ⟨bas_plain _, h.f.n1, h.f.n24, ex_ge hs A⟩
  refine own_mk f (fun a ha b hb => ?_) ?_
  · obtain ⟨x, hx, rfl⟩ := (exB_span hs a).mp (span_mem ha)
    obtain ⟨y, hy, rfl⟩ := (exB_span hs b).mp (span_mem hb)
    rw [led_par hs h.f.n24 (span_lt h.f.lt hx)]
    exact h.still x hx y hy
  · rw [exB_dim hs h.f.lt, bas_self h.f.pl]
    exact h.len
theorem IsCh.map {f : List Nat → List Nat} (h : IsCh n A B l) (ho : ∀ D, OwnF n D → OwnF m (f D)) (hd : ∀ X Y, OwnF n X → OwnF n Y → distB m (f X) (f Y) = distB n X Y) : IsCh m (f A) (f B) (l.map f) := by
  refine ⟨fun D hD => ?_, by rw [List.getElem?_map, h.hd]; rfl, by rw [List.length_map, List.getElem?_map, h.lst]; rfl, fun k X Y hX hY => ?_, by rw [List.length_map]; exact h.ln⟩
  · obtain ⟨X, hX, rfl⟩ := List.mem_map.mp hD
    exact ho X (h.own X hX)
  · rw [List.getElem?_map] at hX hY
    cases e1 : l[k]? with
    | none =>
      rw [e1] at hX
      cases hX
    | some X1 =>
      cases e2 : l[k + 1]? with
      | none =>
        rw [e2] at hY
        cases hY
      | some Y1 =>
        rw [e1] at hX
        rw [e2] at hY
        cases hX
        cases hY
        rw [hd X1 Y1 (h.own X1 (List.mem_of_getElem? e1)) (h.own Y1 (List.mem_of_getElem? e2))]
        exact h.nx k X1 Y1 e1 e2
end
/-! ### the law's own sequences -/
section
variable {p : Addr} {n w : Nat} {s l : List Nat}
end
end Vf
set_option Elab.async false
set_option linter.all false
set_option maxRecDepth 100000
set_option maxHeartbeats 4000000
set_option pp.maxSteps 300
namespace Vf
open PySem PySem.Spec PyProof.Rows L2
variable {W : Wd}
/-! ### walks -/
section
variable {n r k w : Nat} {x : Int} {l : List Nat} {p : Addr}
end
end Vf
set_option Elab.async false
set_option linter.all false
set_option maxRecDepth 100000
set_option maxHeartbeats 4000000
set_option pp.maxSteps 300
namespace Vf
open PySem PySem.Spec PyProof.Rows L2
variable {W : Wd}
/-! ### lists or tuples, also written ones, that are read alone -/
def dQ (K : PySem.W.Frag) (xs : List V) : Dn W := ⟨fun v H => ∃ a, v = .ref a ∧ ((∀ H', W.L H H' → SqL K H' a xs) ∨ (∀ H', W.L H H' → SqT K H' a xs)),
  fun l ⟨a, e, h⟩ => ⟨a, e, h.imp (fun h H' l' => h H' (W.trans l l')) fun h H' l' => h H' (W.trans l l')⟩⟩
/-- a list or tuple that was handed -/
def dLTx (xs : List V) : Dn W := ⟨fun v H => ∃ a, v = .ref a ∧ W.F a ∧ Sq H a xs, fun st ⟨a, e, g, h⟩ => ⟨a, e, g, h.imp (W.keep g st) (W.keep g st)⟩⟩
/-- a meaning that can be read so -/
def Qs (K : PySem.W.Frag) (xs : List V) (d : Dn W) : Prop := ∀ v H, d.ok v H → (dQ K xs : Dn W).ok v H
section
variable {Ds Es Fs : EnvT W} {cs cs1 : List (Nat × List V)} {d d1 d2 : Dn W} {te tl : TE} {t : TA} {tt : TT} {ts : TS} {i j m n : Nat} {K : PySem.W.Frag} {xs ys : List V} {b : Bool}
theorem qs_LT : Qs K xs (dLTx xs : Dn W) := fun v H ⟨a, e, f, h⟩ => ⟨a, e, h.elim (fun h => .inl fun H' l => SqL.of (W.keep f l h)) fun h => .inr fun H' l => .inl (.inl (W.keep f l h))⟩
end
theorem PI.or {X : Cx} {tg e : Expr} {w1 w2 : TI} (h1 : PI X tg e w1) (h2 : PI X tg e w2) : PI X tg e (fun σ H R => w1 σ H R ∨ w2 σ H R) := ⟨fun pins s σ H R I h => h.elim (h1.run pins s σ H R I) (h2.run pins s σ H R I)⟩
def iEnumLT (K : PySem.W.Frag) (t : TA) : TI := fun σ H R => iEnum K t σ H R ∨ iEnumT K t σ H R
section
variable {X : Cx}
theorem pi_enumLT {e : Expr} {ta : TA} {p pos tpos : Pos} {elts : List Expr} {kk : Nat} (hg : Gl X "enumerate") (hm : X.mg "enumerate" = none) (ha : PA X [e] ta) (hs : starEach [e] X.env = [(false, eval e X.env)] := by rfl) :
    PI X (.Tuple elts kk tpos) (.Call (.Name "enumerate" p) [e] [] pos) (iEnumLT X.K ta) := PI.or (pi_enum hg hm ha hs) (pi_enumT hg hm ha hs)
end
section
variable {Ds Es Fs : EnvT W} {cs cs1 : List (Nat × List V)} {d d1 d2 : Dn W} {te tl : TE} {t : TA} {tt : TT} {ts : TS} {i j m n : Nat} {K : PySem.W.Frag} {xs ys : List V} {b : Bool}
end
end Vf
namespace PySem
end PySem
namespace Vf
open PySem PySem.Spec PyProof.Rows L2
section
variable {X : Cx}
end
end Vf
set_option Elab.async false
set_option linter.all false
set_option maxRecDepth 100000
set_option maxHeartbeats 4000000
set_option pp.maxSteps 300
namespace Vf
open PySem PySem.Spec PyProof.Rows L2
variable {W : Wd}
/-! ### rows as lists or tuples, moments -/
section
variable {Ds Es : EnvT W} {K : PySem.W.Frag} {d : Dn W} {te tl : TE} {i j m n p : Nat} {l r : List Nat}
/-- [g k x for k, x in enumerate(l)], l in slot j -/
theorem ev_lcEQ {G : Nat → Int} (hj : Ds.get j = some d) (q0 : Qs K (vs l) d) (hz : l.length ≤ 100000) (ne : i ≠ m) (hb : ∀ k < l.length, EV ((Ds.set i (some (dN k))).set m (some (dN (l.getD k 0)))) te (dI (G k))) (hn : Nat.ble (j + 1) Ds.n = true := by rfl) :
    EV Ds (tLc (iEnumLT K (tCons (tVar j) tNil)) (gTup K 2 (gCons (gName i) (gCons (gName m) gNil))) tYes te [i, m]) (dIs ((List.range l.length).map G)) := fun σ H Q iv en q => by
  obtain ⟨v, e, o⟩ := en.get hj hn
  obtain ⟨a, ea, hq⟩ := q0 v H o
  subst ea
  have lx : ∀ k, (hk : k < l.length) → (vs l)[k]? = some (V.int ((l.getD k 0 : Nat) : Int)) := fun k hk => by
    unfold vs
    rw [List.getElem?_map, List.getElem?_eq_getElem hk, List.getD_eq_getElem?_getD, List.getElem?_eq_getElem hk]
    rfl
  have turn : ∀ (D : Addr) (nD : H D = none) (k : Nat) (hk : k < l.length) (H' : Hp), W.L H H' → H' D = some (.lst (((List.range k).map G).map V.int)) → ∀ T, H' T = none →
      gTup K 2 (gCons (gName i) (gCons (gName m) gNil)) (.ref T) (wipe σ [i, m]) (upd H' T (.tup [V.int (k : Nat), V.int ((l.getD k 0 : Nat) : Int)])) fun σ2 H2 => wipe σ2 [i, m] = wipe σ [i, m] ∧
        tYes σ2 H2 fun b H3 => if b = true then te σ2 H3 fun y H4 => ∃ ys, H4 D = some (.lst ys) ∧ ys.length < sizeLine ∧ (W.L H (upd H4 D (.lst (ys ++ [y]))) ∧ upd H4 D (.lst (ys ++ [y])) D = some (.lst (((List.range (k + 1)).map G).map V.int))) else (W.L H H3 ∧ H3 D = some (.lst (((List.range (k + 1)).map G).map V.int))) := by
    intro D nD k hk H' lP eD T nT
    have iv' := W.step lP iv
    have l3 : W.L H' (upd H' T (.tup [V.int (k : Nat), V.int ((l.getD k 0 : Nat) : Int)])) := W.put0 iv' nT
    have iv3 := W.step l3 iv'
    have en3 := env_wipe (i := i) (j := m) (d1 := dN k) (d2 := dN (l.getD k 0)) rfl rfl (en.st (W.trans lP l3)) ne
    refine ⟨T, _, rfl, .inl (.inl upd_same), rfl, _, _, rfl, _, _, rfl, rfl, wipe2 ne, tv_yes _ _ _ iv3 en3 fun H3 l4 => ?_⟩
    refine (if_pos rfl).mpr (hb k hk _ H3 _ (W.step l4 iv3) (en3.st l4) fun y H4 l5 o5 => ?_)
    have eD5 := W.keep (W.fresh iv nD) l5 (W.keep (W.fresh iv nD) l4 (W.keep (W.fresh iv nD) l3 eD))
    refine ⟨_, eD5, ?_, W.put iv (W.trans lP (W.trans l3 (W.trans l4 l5))) nD, ?_⟩
    · rw [List.length_map, List.length_map, List.length_range]
      exact sl_lt (by omega)
    · rw [upd_same, show y = V.int (G k) from o5, List.range_succ, List.map_append, List.map_append]
      rfl
  rcases hq with hq | hq
  · refine .inl ⟨.ref a, e, a, _, rfl, hq H (W.refl H), fun D nD => ?_⟩
    refine ⟨fun k m H' => k + m = l.length ∧ W.L H H' ∧ H' D = some (.lst (((List.range k).map G).map V.int)), ⟨l.length, Nat.zero_add _, W.put0 iv nD, upd_same⟩, fun k m H' hW => ?_⟩
    obtain ⟨km, lP, eD⟩ := hW
    have hL := hq H' lP
    by_cases hk : k < l.length
    · refine .inr ⟨⟨_, _, hL, lx k hk⟩, fun H2 => W.L H H2 ∧ H2 D = some (.lst (((List.range (k + 1)).map G).map V.int)), fun H2 hN => ⟨m - 1, by omega, by omega, hN⟩, fun z H2 hy => ?_⟩
      obtain ⟨T, x1, rfl, nT, rfl, fx⟩ := hy
      have e1 : x1 = V.int ((l.getD k 0 : Nat) : Int) := by
        have h2 : (vs l)[k]? = some x1 := fx _ hL
        rw [lx k hk] at h2
        exact (Option.some.inj h2).symm
      subst e1
      exact turn D nD k hk H' lP eD T nT
    · have kl : k = l.length := by omega
      subst kl
      exact .inl ⟨⟨_, hL, by rw [len_vs]; omega⟩, q _ H' lP ⟨D, rfl, W.fresh iv nD, eD⟩⟩
  · refine .inr ⟨.ref a, e, a, _, rfl, hq H (W.refl H), fun D nD => ?_⟩
    refine ⟨fun k m H' => k + m = l.length ∧ W.L H H' ∧ H' D = some (.lst (((List.range k).map G).map V.int)), ⟨l.length, Nat.zero_add _, W.put0 iv nD, upd_same⟩, fun k m H' hW => ?_⟩
    obtain ⟨km, lP, eD⟩ := hW
    have hL := hq H' lP
    by_cases hk : k < l.length
    · refine .inr ⟨⟨_, _, hL, lx k hk⟩, fun H2 => W.L H H2 ∧ H2 D = some (.lst (((List.range (k + 1)).map G).map V.int)), fun H2 hN => ⟨m - 1, by omega, by omega, hN⟩, fun z H2 hy => ?_⟩
      obtain ⟨T, x1, rfl, nT, rfl, fx⟩ := hy
      have e1 : x1 = V.int ((l.getD k 0 : Nat) : Int) := by
        have h2 : (vs l)[k]? = some x1 := fx _ hL
        rw [lx k hk] at h2
        exact (Option.some.inj h2).symm
      subst e1
      exact turn D nD k hk H' lP eD T nT
    · have kl : k = l.length := by omega
      subst kl
      exact .inl ⟨⟨_, hL, by rw [len_vs]⟩, q _ H' lP ⟨D, rfl, W.fresh iv nD, eD⟩⟩
end
/-! a cell that is told in part -/
section
variable {Ds : EnvT W} {te ti : TE} {tu : TS} {d : Dn W} {i : Nat}
end
end Vf
set_option Elab.async false
set_option linter.all false
set_option maxRecDepth 100000
set_option maxHeartbeats 4000000
set_option pp.maxSteps 300
namespace Vf
open PySem PySem.Spec PyProof.Rows L2
variable {W : Wd}
/-! ### steps beside cells; moments of rows -/
section
variable {Ds Es Fs : EnvT W} {cs cs1 : List (Nat × List V)} {d : Dn W} {te : TE} {t : TA} {tt : TT} {ts tu : TS} {i j : Nat} {K : PySem.W.Frag} {x y : V}
end
end Vf
set_option Elab.async false
set_option linter.all false
set_option maxRecDepth 100000
set_option maxHeartbeats 4000000
set_option pp.maxSteps 300
/-! ### `in` over a list of instances with their own == -/
namespace VQ
open PySem PySem.SeqAt
open AutoSeq1 (wpAny_loadPart')
open MeetsSeq MeetsSeq2 MeetsSeq3 SeqRoads2
section
variable {prog : Program} {w : World} {B0 : Around} {R : Result → Shared → Prop}
end
section
variable {prog : Program} {w : World} {B0 : Around} {E : Value → Shared → Prop} {s : Shared}
end
end VQ
namespace Vf
open PySem PySem.Spec PyProof.Rows L2
section
variable {X : Cx} {C : Addr} {k : Nat}
end
end Vf
set_option Elab.async false
set_option linter.all false
set_option maxRecDepth 100000
set_option maxHeartbeats 4000000
set_option pp.maxSteps 300
namespace Vf
open PySem PySem.Spec PyProof.Rows L2
variable {W : Wd}
section
variable {C : Addr} {n : Nat} {B : List Nat} {Ds Fs : EnvT W} {tl : TE} {ts : TS} {i j : Nat} {K : PySem.W.Frag}
end
/-! ### three own rooms over a half -/
section
variable {n v z o : Nat} {A X Y H : List Nat}
theorem own_con (h : OwnF n A) : bas (conB n A) = A := plain_unique (bas_plain _) h.f.pl fun v => by
  rw [con_span h.f.pl h.f.n24 h.f.lt, h.max]
structure Pr3 (n : Nat) (H X Y : List Nat) : Prop where
  oX : OwnF n X
  oY : OwnF n Y
  com : lowB n (comB n X Y) = H
  len : 2 * H.length + 2 = n
theorem Pr3.dist (h : Pr3 n H X Y) : distB n X Y = 1 := by
  have a := h.oX.len
  have b := h.len
  unfold distB
  rw [h.com]
  omega
theorem Pr3.ne (h : Pr3 n H X Y) : ¬ X = Y := fun e => by
  have d := h.dist
  have := (dist_zero h.oX h.oY).mpr e
  omega
theorem Pr3.sum (h : Pr3 n H X Y) : bas (X ++ Y) = bas (conB n H) := plain_unique (bas_plain _) (bas_plain _) fun v => by
  have := con_common h.oX.f.pl h.oY.f.pl h.oX.f.n24 h.oX.f.lt h.oY.f.lt v
  rw [h.com, own_con h.oX, own_con h.oY] at this
  exact this.symm
end
end Vf
set_option Elab.async false
set_option linter.all false
set_option maxRecDepth 100000
set_option maxHeartbeats 4000000
set_option pp.maxSteps 300
/-! ### set(l) of a list of ints -/
namespace L2
open PySem PySem.Spec PyProof.Rows
section
variable {P : Program} {w : World} {A : Around} {E : Value → Shared → Prop} {s : Shared}
end
section
variable {X : Cx}
end
end L2
set_option Elab.async false
set_option linter.all false
set_option maxRecDepth 100000
set_option maxHeartbeats 4000000
set_option pp.maxSteps 300
namespace Vf
open PySem PySem.Spec PyProof.Rows L2
variable {W : Wd}
/-! ### sorted(set(l)) -/
section
variable {Ds Es : EnvT W} {w : World} {K : PySem.W.Frag} {te tl : TE} {ta tb : TE} {ts tu : TS} {i j n : Nat} {l : List Nat} {d : Dn W} {y : V} {xs : List V}
end
/-! ### rows of contraries -/
section
variable {K : PySem.W.Frag} {C : Addr} {r d : List Nat} {n : Nat} {ws : List Nat}
end
end Vf
set_option Elab.async false
set_option linter.all false
set_option maxRecDepth 100000
set_option maxHeartbeats 4000000
set_option pp.maxSteps 300
/-! ### xs[a::b] -/
namespace L2
open PySem PySem.Spec PyProof.Rows
end L2
set_option Elab.async false
set_option linter.all false
set_option maxRecDepth 100000
set_option maxHeartbeats 400000
set_option pp.maxSteps 300
namespace Vf
open PySem PySem.Spec PyProof.Rows L2
/-! ### products of rows -/
def rc (L : List Nat) (j : Nat) : Nat := (L.filter fun v => decide (pc v = j)).length
theorem rc_cons (v : Nat) (L : List Nat) (j : Nat) : rc (v :: L) j = (if pc v = j then 1 else 0) + rc L j := by
  unfold rc
  rw [List.filter_cons]
  by_cases h : pc v = j
  · rw [if_pos (decide_eq_true h), if_pos h, List.length_cons, Nat.add_comm]
  · rw [if_neg (by simp [h]), if_neg h, Nat.zero_add]
/-! rows of led rooms, of rooms with all places -/
theorem rc_pcs {L M : List Nat} (h : (L.map pc).Perm (M.map pc)) (j : Nat) : rc L j = rc M j := by
  have e : ∀ X : List Nat, rc X j = ((X.map pc).filter fun x => decide (x = j)).length := fun X => by
    induction X with
    | nil =>
      unfold rc
      rw [List.map_nil, List.filter_nil, List.filter_nil]
    | cons v X ih =>
      rw [rc_cons, List.map_cons, List.filter_cons, ih]
      by_cases c : pc v = j
      · rw [if_pos c, if_pos (decide_eq_true c), List.length_cons, Nat.add_comm]
      · rw [if_neg c, if_neg (by simp [c]), Nat.zero_add]
  rw [e, e]
  exact (h.filter _).length_eq
/-! words of even weights alone -/
theorem sum_nought {l : List Nat} : l.sum = 0 ↔ ∀ x ∈ l, x = 0 := by
  induction l with
  | nil => exact ⟨fun _ _ h => (List.not_mem_nil h).elim, fun _ => rfl⟩
  | cons x l ih =>
    rw [List.sum_cons, Nat.add_eq_zero_iff, ih]
    exact ⟨fun ⟨a, b⟩ y hy => (List.mem_cons.mp hy).elim (fun e => e ▸ a) (b y), fun h => ⟨h x (List.mem_cons_self ..), fun y hy => h y (List.mem_cons_of_mem _ hy)⟩⟩
/-! _law_times -/
section
variable {A B : List Nat} {k j t : Nat}
end
section
variable {W : Wd} {A B : List Nat}
end
end Vf
set_option Elab.async false
set_option linter.all false
set_option maxRecDepth 100000
set_option maxHeartbeats 400000
set_option pp.maxSteps 300
namespace Vf
open PySem PySem.Spec PyProof.Rows L2
/-! ### one room in many ways -/
section
variable {n m w v i k : Nat} {A B L : List Nat} {f : Nat → Bool}
/-! half of the words -/
/-! weights of all words -/
/-! below a bound -/
/-! places from behind -/
/-! even ones -/
end
section
variable {W : Wd} {n v : Nat}
end
end Vf
set_option Elab.async false
set_option linter.all false
set_option maxRecDepth 100000
set_option maxHeartbeats 400000
set_option pp.maxSteps 300
/-! ### == of lists of instances with their own ==, equal or not -/
namespace VQ
open PySem PySem.SeqAt
open AutoSeq1 (wpAny_loadPart')
open MeetsSeq MeetsSeq2 MeetsSeq3 SeqRoads2
section
variable {prog : Program} {w : World} {B0 : Around} {R : Result → Shared → Prop}
end
section
variable {prog : Program} {w : World} {B0 : Around} {E : Value → Shared → Prop} {s : Shared}
end
end VQ
namespace Vf
open PySem PySem.Spec PyProof.Rows L2
section
variable {X : Cx} {C : Addr} {k : Nat}
end
section
variable {W : Wd} {C : Addr}
end
end Vf
set_option Elab.async false
set_option linter.all false
set_option maxRecDepth 100000
set_option maxHeartbeats 400000
set_option pp.maxSteps 300
/-! ### t[::-1] of a tuple -/
namespace VT
open PySem PyProof.Rows HT
section
variable {prog : Program} {w : World} {A0 : Around} {E : Value → Shared → Prop} {s : Shared}
end
end VT
namespace L2
open PySem PySem.Spec PyProof.Rows
end L2
namespace L2
open PySem PySem.Spec PyProof.Rows
/-! a test that is one of two tests -/
end L2
namespace Vf
open PySem PySem.Spec PyProof.Rows L2
theorem cd_int {W : Wd} {a : Nat} : CrD (W := W) (fun xs H Q => ∃ n : Nat, xs = [.int (n : Int)] ∧ Q (.int (n : Int)) H) [dN a] (dN a) := fun vs H Q iv o q => by
  match vs, o with
  | [v], ⟨e, _⟩ =>
    exact ⟨a, by rw [show v = V.int (a : Int) from e], q _ H (W.refl H) rfl⟩
end Vf
set_option Elab.async false
set_option linter.all false
set_option maxRecDepth 100000
set_option maxHeartbeats 400000
set_option pp.maxSteps 300
namespace Vf
open PySem PySem.Spec PyProof.Rows L2
variable {W : Wd}
section
variable {Ds E : EnvT W} {ta : TA} {ts tu : TS} {te tl : TE} {tt : TT} {i j c N : Nat} {l : List Nat} {d : Dn W} {K : PySem.W.Frag}
/-! ### for .. in enumerate with a return -/
/-! ### [.. for a, b in pairs if ..] -/
theorem okl_N {H : Hp} : ∀ {l : List Nat} {xs : List V}, OkL (uDs (l.map uN) W) xs H → xs = vs l
  | [], [], _ => rfl
  | n :: l, x :: xs, ⟨o, r⟩ => by
    rw [show x = V.int (n : Int) from o, okl_N r]
    rfl
  | [], _ :: _, h => h.elim
  | _ :: _, [], h => h.elim
theorem ev_LDN (h : EV Ds te (dLD (uDs (l.map uN) W))) : EV Ds te (dVs l) := ev_wk h fun v H ⟨a, xs, e, g, h, o⟩ => ⟨a, e, g, by rw [h, okl_N o]⟩
end
end Vf
set_option Elab.async false
set_option linter.all false
set_option maxRecDepth 100000
set_option maxHeartbeats 400000
set_option pp.maxSteps 300
/-! ### any(xs) of a list of numbers -/
namespace L2
open PySem PySem.Spec PyProof.Rows
end L2
namespace Vf
open PySem PySem.Spec PyProof.Rows L2
variable {W : Wd}
/-! ### a number or None -/
section
variable {Ds : EnvT W} {te ta tb : TE} {i j k m n : Nat} {l : List Nat} {o : Option Nat} {K : PySem.W.Frag} {C : Addr}
theorem cutBoth (xs : List V) (a b : Nat) (h : a ≤ b) (hb : b ≤ xs.length) : cutV xs (some (a : Int)) (some (b : Int)) = (xs.take b).drop a := by
  unfold cutV
  rw [show HT.sIx xs.length 0 (some (a : Int)) = min a xs.length from HT.sIx_nat xs.length 0 a, show HT.sIx xs.length xs.length (some (b : Int)) = min b xs.length from HT.sIx_nat xs.length xs.length b, Nat.min_eq_left hb, Nat.min_eq_left (by omega), List.drop_take]
theorem ev_slFT (hab : k ≤ m) (hm : m ≤ l.length) (h : EV Ds te (dVs l)) (h2 : EV Ds ta (dN k)) (h3 : EV Ds tb (dN m)) : EV Ds (tSl (rSlL K) te (tPart ta) (tPart tb)) (dVs ((l.take m).drop k)) := fun σ H Q iv en q =>
  h σ H _ iv en fun v H1 l1 o1 => h2 σ H1 _ (W.step l1 iv) (en.st l1) fun u H2 l2 o2 => by
    refine ⟨k, o2, h3 σ H2 _ (W.step l2 (W.step l1 iv)) (en.st (W.trans l1 l2)) fun u3 H3 l3 o3 => ?_⟩
    have iv3 := W.step l3 (W.step l2 (W.step l1 iv))
    obtain ⟨a, e, _, ha⟩ := (dVs l).st l3 ((dVs l).st l2 o1)
    subst e
    refine ⟨m, o3, a, _, rfl, SqL.of ha, fun p np => q _ _ (W.trans (W.trans l1 (W.trans l2 l3)) (W.put0 iv3 np)) ⟨p, rfl, W.fresh iv3 np, ?_⟩⟩
    rw [upd_same, cutBoth _ _ _ hab (by rw [len_vs]; exact hm)]
    unfold vs
    rw [← List.map_take, ← List.map_drop]
end
/-! ### the least weight of a row -/
/-! ### sums of few basis words -/
end Vf
set_option Elab.async false
set_option linter.all false
set_option maxRecDepth 100000
set_option maxHeartbeats 400000
set_option pp.maxSteps 300
namespace Vf
open PySem PySem.Spec PyProof.Rows L2
variable {W : Wd}
/-! ### words of the least weight -/
section
variable {n m k : Nat} {A B L ws : List Nat} {o : Option Nat}
theorem SpanN.bas (h : SpanN ws L) : SpanN (bas ws) L := ⟨fun v => by rw [h.1, bas_span], h.2⟩
/-! two rooms beside one another -/
end
section
variable {n m : Nat} {B l ws : List Nat} {C : Addr} {Ds : EnvT W} {t : TA} {te : TE} {x y : V} {K : PySem.W.Frag} {o : Option Nat}
end
end Vf
set_option Elab.async false
set_option linter.all false
set_option maxRecDepth 100000
set_option maxHeartbeats 400000
set_option pp.maxSteps 300
namespace Vf
open PySem PySem.Spec PyProof.Rows L2
variable {W : Wd}
section
variable {Ds : EnvT W} {te : TE} {K : PySem.W.Frag} {l : List Nat} {n a k x : Nat} {p : Addr}
end
end Vf
set_option Elab.async false
set_option linter.all false
set_option maxRecDepth 100000
set_option maxHeartbeats 400000
set_option pp.maxSteps 300
namespace Vf
open PySem PySem.Spec PyProof.Rows L2
variable {W : Wd}
/-! ### words whose weights 4 does not divide -/
def uneven (v : Nat) : Bool := decide (pc v % 4 > 0)
section
variable {n m a b v w : Nat} {A B L : List Nat} {C : Addr}
theorem uneven_iff (v : Nat) : uneven v = true ↔ pc v % 4 > 0 := decide_eq_true_iff
theorem uneven_no (v : Nat) : uneven v = false ↔ pc v % 4 = 0 := by
  unfold uneven
  rw [decide_eq_false_iff_not]
  omega
theorem par_no : par a b = false ↔ pc (a &&& b) % 2 = 0 := by
  unfold par
  rw [decide_eq_false_iff_not]
  omega
theorem uneven_xor (ha : par a a = false) (hb : par b b = false) (hab : par a b = false) : uneven (a ^^^ b) = (uneven a ^^ uneven b) := by
  have h1 := par_no.mp ha
  have h2 := par_no.mp hb
  have h3 := par_no.mp hab
  rw [Nat.and_self] at h1 h2
  have t := pc_two a b
  by_cases x : pc a % 4 > 0 <;> by_cases y : pc b % 4 > 0
  · rw [(uneven_iff a).mpr x, (uneven_iff b).mpr y]
    exact (uneven_no _).mpr (by omega)
  · rw [(uneven_iff a).mpr x, (uneven_no b).mpr (by omega)]
    exact (uneven_iff _).mpr (by omega)
  · rw [(uneven_no a).mpr (by omega), (uneven_iff b).mpr y]
    exact (uneven_iff _).mpr (by omega)
  · rw [(uneven_no a).mpr (by omega), (uneven_no b).mpr (by omega)]
    exact (uneven_no _).mpr (by omega)
theorem uneven_zero : uneven 0 = false := (uneven_no 0).mpr (by rw [pc_zero])
theorem st_two (st : stillB B = true) : ∀ a, span B a → ∀ b, span B b → uneven (a ^^^ b) = (uneven a ^^ uneven b) := fun a ha b hb =>
  uneven_xor (still_span.mp st a ha a ha) (still_span.mp st b hb b hb) (still_span.mp st a ha b hb)
/-- the word that tells why 4 does not divide all weights -/
def whyF (B : List Nat) : Option Nat := match B.find? uneven with
  | some w => some w
  | none => match oddP B with
    | none => none
    | some p => some (p.1 ^^^ p.2)
theorem whyF_none (st : stillB B = true) : (whyF B).isNone = true ↔ ∀ v, span B v → uneven v = false := by
  have two := st_two st
  have o : oddP B = none := Option.isNone_iff_eq_none.mp st
  unfold whyF
  cases e : B.find? uneven with
  | none =>
    rw [o]
    refine ⟨fun _ v hv => ?_, fun _ => rfl⟩
    have k := List.find?_eq_none.mp e
    refine (hv (fun v => span B v ∧ uneven v = false) ⟨⟨span_zero _, uneven_zero⟩, fun a b ha hb => ⟨span_xor ha.1 hb.1, ?_⟩⟩ fun w hw => ⟨span_mem hw, by simpa using k w hw⟩).2
    rw [two a ha.1 b hb.1, ha.2, hb.2]
    rfl
  | some w =>
    refine ⟨(fun k => by cases k), fun k => ?_⟩
    have := k w (span_mem (List.mem_of_find?_eq_some e))
    rw [List.find?_some e] at this
    cases this
/-! the half of a still room -/
/-! promises -/
/-! this law's weight of a word, by a table -/
end
end Vf
set_option Elab.async false
set_option linter.all false
set_option maxRecDepth 100000
set_option maxHeartbeats 400000
set_option pp.maxSteps 300
namespace Vf
open PySem PySem.Spec PyProof.Rows L2
variable {W : Wd}
/-! ### told own rooms, out of a dict -/
def kindL : Nat → List Nat
  | 2 => [3]
  | 8 => [15, 51, 85, 255]
  | 12 => [15, 60, 240, 960, 3840, 1365]
  | 14 => [15, 51, 85, 1920, 6528, 10880, 16383]
  | 16 => [15, 60, 240, 960, 3840, 15360, 61440, 21845]
  | _ => []
/-! kinds beside one another -/
def kindsL : List (List Nat) := [[8], [2, 2, 2], [8, 2], [12], [14], [2, 2, 8], [16], [2, 12], [2], [2, 2, 2, 2]]
def mkB (ks : List Nat) : List Nat × Nat := ks.foldl (fun s k => (s.1 ++ (kindL k).map (fun w => w * 2 ^ s.2), s.2 + k)) ([], 0)
def ckKs (ks : List Nat) : Bool :=
  let r := mkB ks
  decide (r.2 = ks.sum) && decide (1 ≤ r.2) && decide (r.2 ≤ 16) && decide (r.1.length ≤ 8) && r.1.all (fun w => decide (w < 2 ^ r.2)) && r.1.all (fun a => r.1.all fun b => !par a b)
structure KsP (ks : List Nat) : Prop where
  sum : (mkB ks).2 = ks.sum
  n1 : 1 ≤ ks.sum
  n16 : ks.sum ≤ 16
  l8 : (mkB ks).1.length ≤ 8
  lt : ∀ w ∈ (mkB ks).1, w < 2 ^ ks.sum
  st : ∀ a ∈ (mkB ks).1, ∀ b ∈ (mkB ks).1, par a b = false
/-! led by a sequence that grows -/
section
variable {B f : List Nat} {x j w : Nat}
end
end Vf
set_option Elab.async false
set_option linter.all false
set_option maxRecDepth 100000
set_option maxHeartbeats 400000
set_option pp.maxSteps 300
namespace Vf
open PySem PySem.Spec PyProof.Rows L2
variable {W : Wd}
section
variable {Ds Es Fs : EnvT W} {cs : List (Nat × List V)} {te tl : TE} {ta : TA} {ts tu : TS} {i j a b : Nat} {xs : List V} {l : List Nat} {d : Dn W} {K : PySem.W.Frag} {P : List (Nat × List V) → Prop}
end
/-! spans of mixed lists -/
section
variable {l ws : List Nat} {k x : Nat}
end
section
variable {p : Addr} {n : Nat} {ws : List Nat} {us : List UD}
end
section
variable {Ds : EnvT W} {cs : List (Nat × List V)} {t : TA} {ts tu : TS} {i j : Nat} {xs : List V} {d : Dn W} {K : PySem.W.Frag} {C : Addr}
end
end Vf
set_option Elab.async false
set_option linter.all false
set_option maxRecDepth 100000
set_option maxHeartbeats 400000
set_option pp.maxSteps 300
namespace Vf
open PySem PySem.Spec PyProof.Rows L2
variable {W : Wd}
/-! kinds of all laws -/
def kindsA : List (List Nat) := kindsL ++ [[8, 2, 2], [8, 8], [2, 8], [2, 2], [2, 2, 2, 8], [12, 2], [14, 2], [2, 14]]
theorem ckKs_allA : kindsA.all ckKs = true := by decide +kernel
theorem ks_PA {ks : List Nat} (h : ks ∈ kindsA) : KsP ks := by
  have c := List.all_eq_true.mp ckKs_allA ks h
  unfold ckKs at c
  simp only [Bool.and_eq_true, decide_eq_true_eq, List.all_eq_true, Bool.not_eq_true'] at c
  obtain ⟨⟨⟨⟨⟨a, b⟩, c1⟩, d⟩, e⟩, f⟩ := c
  exact ⟨a, by omega, by omega, d, fun w hw => by rw [← a]; exact e w hw, f⟩
section
variable {p : Addr} {ws : List Nat}
end
/-! why a room is not by fours, any room -/
section
variable {n m a b v w : Nat} {A B L : List Nat} {C : Addr}
end
/-! a cell of its own within a loop's body -/
section
variable {Ds Es : EnvT W} {cs : List (Nat × List V)} {ta tb te tl : TE} {ts tu : TS} {i j k : Nat} {xs : List V} {d1 : Dn W} {K : PySem.W.Frag} {P : List (Nat × List V) → Prop} {l : List Nat}
end
/-! words by distinct places -/
section
variable {p : Addr} {n : Nat}
end
/-! all([right(pot(script, k)) for k in range(..)]) -/
section
variable {K : PySem.W.Frag} {Ds : EnvT plainW} {i j k : Nat} {ns : List Int} {t : TA}
end
end Vf
set_option Elab.async false
set_option linter.all false
set_option maxRecDepth 100000
set_option maxHeartbeats 400000
set_option pp.maxSteps 300
namespace Vf
open PySem PySem.Spec PyProof.Rows L2
variable {W : Wd}
section
variable {ι κ : Type} {E : ι → EnvT W} {Ds Es : EnvT W} {cs : List (Nat × List V)} {te : TE} {ta : TA} {ts tu : TS} {i j w : Nat} {xs : List V} {K : PySem.W.Frag} {sp : Sp} {g : Nat → Nat} {P : List (Nat × List V) → Prop} {l : List Nat}
end
end Vf
set_option Elab.async false
set_option linter.all false
set_option maxRecDepth 100000
set_option maxHeartbeats 400000
set_option pp.maxSteps 300
namespace Vf
open PySem PySem.Spec PyProof.Rows L2
variable {W : Wd}
/-! ### shadow words of a still room -/
section
variable {n m a b v w : Nat} {A B L ws : List Nat} {C : Addr}
def isSh (B : List Nat) (v : Nat) : Bool := B.all fun b => par b v == uneven b
theorem isSh_iff : isSh B v = true ↔ ∀ b ∈ B, par b v = uneven b := by
  unfold isSh
  rw [List.all_eq_true]
  exact ⟨fun h b hb => eq_of_beq (h b hb), fun h b hb => beq_iff_eq.mpr (h b hb)⟩
theorem sh_span (st : stillB B = true) : isSh B v = true ↔ ∀ w, span B w → par w v = uneven w := by
  rw [isSh_iff]
  refine ⟨fun h w hw => ?_, fun h b hb => h b (span_mem hb)⟩
  exact (hw (fun w => span B w ∧ par w v = uneven w) ⟨⟨span_zero _, by rw [par_zero, uneven_zero]⟩, fun a b ha hb => ⟨span_xor ha.1 hb.1, by rw [par_xor, st_two st a ha.1 b hb.1, ha.2, hb.2]⟩⟩ fun w hw => ⟨span_mem hw, h w hw⟩).2
/-- the told shadow word -/
def shdW (B : List Nat) : Nat := ((B.filter uneven).map fun b => 2 ^ b.log2).sum
def gU : List Nat → Nat
  | [] => 0
  | b :: B => pw (uneven b) (2 ^ b.log2) ^^^ gU B
theorem par_gU (pl : Plain B) (lt : ∀ b ∈ B, b < 2 ^ 24) {c : Nat} (hc : c ∈ B) : ∀ B' : List Nat, B'.Nodup → (∀ b ∈ B', b ∈ B) → par (gU B') c = (decide (c ∈ B') && uneven c)
  | [], _, _ => by
    show par 0 c = _
    rw [par_zero]
    simp
  | b :: B', nd, sub => by
    obtain ⟨n1, n2⟩ := List.nodup_cons.mp nd
    have hb := sub b List.mem_cons_self
    have lb := log_lt (pl.1.2 b hb) (lt b hb)
    show par (pw _ _ ^^^ gU B') c = _
    rw [par_xor, par_pw, par_pow lb, par_gU pl lt hc B' n2 fun x hx => sub x (List.mem_cons_of_mem _ hx)]
    by_cases e : b = c
    · subst e
      rw [top_bit (pl.1.2 b hb)]
      simp [n1]
    · rw [piv_off pl.1 hb hc e]
      have e2 : ¬ c = b := fun z => e z.symm
      simp [e2]
theorem gU_lt : ∀ {B : List Nat}, (∀ b ∈ B, b ≠ 0 ∧ b < 2 ^ n) → gU B < 2 ^ n
  | [], _ => Nat.two_pow_pos n
  | b :: B, h => by
    refine Nat.xor_lt_two_pow ?_ (gU_lt fun c hc => h c (List.mem_cons_of_mem _ hc))
    obtain ⟨b0, bl⟩ := h b List.mem_cons_self
    unfold pw
    split
    · exact Nat.pow_lt_pow_right (by decide) (log_lt b0 bl)
    · exact Nat.two_pow_pos n
theorem sum_xor {l : List Nat} (h : (a :: l).Nodup) : 2 ^ a + (l.map (2 ^ ·)).sum = 2 ^ a ^^^ (l.map (2 ^ ·)).sum := by
  refine Nat.eq_of_testBit_eq fun j => ?_
  have z : (2 ^ a + (l.map (2 ^ ·)).sum).testBit j = _ := sumPow_bit h j
  rw [z, Nat.testBit_xor, sumPow_bit (List.nodup_cons.mp h).2, Nat.testBit_two_pow]
  by_cases e : a = j
  · subst e
    simp [(List.nodup_cons.mp h).1]
  · have e2 : ¬ j = a := fun z => e z.symm
    simp [e, e2]
theorem gU_sum (pl : Plain B) : ∀ B' : List Nat, B'.Nodup → (∀ b ∈ B', b ∈ B) → ((B'.filter uneven).map fun b => b.log2).Nodup ∧ (((B'.filter uneven).map fun b => b.log2).map (2 ^ ·)).sum = gU B'
  | [], _, _ => ⟨.nil, rfl⟩
  | b :: B', nd, sub => by
    obtain ⟨n1, n2⟩ := List.nodup_cons.mp nd
    have hb := sub b List.mem_cons_self
    obtain ⟨i1, i2⟩ := gU_sum pl B' n2 fun x hx => sub x (List.mem_cons_of_mem _ hx)
    show _ ∧ _ = pw (uneven b) (2 ^ b.log2) ^^^ gU B'
    cases u : uneven b with
    | false =>
      rw [List.filter_cons_of_neg (by rw [u]; decide)]
      refine ⟨i1, ?_⟩
      rw [i2]
      show _ = 0 ^^^ _
      rw [Nat.zero_xor]
    | true =>
      rw [List.filter_cons_of_pos u]
      have nd2 : (b.log2 :: (B'.filter uneven).map fun b => b.log2).Nodup := by
        refine List.nodup_cons.mpr ⟨fun h => ?_, i1⟩
        obtain ⟨c, hc, e⟩ := List.mem_map.mp h
        have hc' := (List.mem_filter.mp hc).1
        have ne : b ≠ c := fun z => n1 (z ▸ hc')
        have o := piv_off pl.1 hb (sub c (List.mem_cons_of_mem _ hc')) ne
        have t := top_bit (pl.1.2 c (sub c (List.mem_cons_of_mem _ hc')))
        have e : c.log2 = b.log2 := e
        rw [e] at t
        rw [o] at t
        cases t
      refine ⟨nd2, ?_⟩
      show 2 ^ b.log2 + _ = 2 ^ b.log2 ^^^ _
      rw [← i2]
      exact sum_xor nd2
theorem shdW_eq (pl : Plain B) : shdW B = gU B := by
  rw [← (gU_sum pl B (piv_nodup pl.1) fun _ h => h).2, List.map_map]
  rfl
theorem shd_sh (pl : Plain B) (lt : ∀ b ∈ B, b < 2 ^ 24) : isSh B (shdW B) = true := by
  rw [isSh_iff, shdW_eq pl]
  intro b hb
  rw [par_comm, par_gU pl lt hb B (piv_nodup pl.1) fun _ h => h]
  simp [hb]
theorem shd_lt (pl : Plain B) (lt : ∀ b ∈ B, b < 2 ^ n) : shdW B < 2 ^ n := by
  rw [shdW_eq pl]
  exact gU_lt fun b hb => ⟨pl.1.2 b hb, lt b hb⟩
/-- the shadow words are the words of the contrary, each with the told one -/
theorem sh_con (pl : Plain B) (n24 : n ≤ 24) (lt : ∀ b ∈ B, b < 2 ^ n) (h1 : a < 2 ^ n) (h : isSh B a = true) (v : Nat) : (v < 2 ^ n ∧ isSh B v = true) ↔ span (bas (conB n B)) (a ^^^ v) := by
  rw [con_span pl n24 lt, isSh_iff]
  have key := isSh_iff.mp h
  constructor
  · rintro ⟨h2, h3⟩
    refine ⟨Nat.xor_lt_two_pow h1 h2, fun b hb => ?_⟩
    rw [par_xor, par_comm a, par_comm v, key b hb, h3 b hb, Bool.xor_self]
  · rintro ⟨h2, h3⟩
    refine ⟨?_, fun b hb => ?_⟩
    · have := Nat.xor_lt_two_pow h1 h2
      rwa [← Nat.xor_assoc, Nat.xor_self, Nat.zero_xor] at this
    · have := h3 b hb
      rw [par_xor, par_comm a, par_comm v, key b hb] at this
      cases hu : uneven b <;> cases hp : par b v <;> rw [hu, hp] at this <;> first | rfl | cases this
/-! promises -/
end
section
variable {Ds Es Fs : EnvT W} {cs : List (Nat × List V)} {te : TE} {tt : TT} {ts tu : TS} {i : Nat} {P : List (Nat × List V) → Prop}
end
end Vf
namespace Vf
end Vf
set_option Elab.async false
set_option linter.all false
set_option maxRecDepth 100000
set_option maxHeartbeats 400000
set_option pp.maxSteps 300
namespace Vf
open PySem PySem.Spec PyProof.Rows L2
variable {W : Wd}
/-! ### kinds are own rooms -/
def dstL : List Nat → Bool
  | [] => true
  | x :: l => l.all (fun y => !(Nat.beq x y)) && dstL l
theorem dst_all : kindsA.all (fun ks => dstL (spanU (mkB ks).1)) = true := by decide +kernel
theorem dst_nd : ∀ {l : List Nat}, dstL l = true → l.Nodup
  | [], _ => .nil
  | x :: l, h => by
    have h : (l.all (fun y => !(Nat.beq x y)) && dstL l) = true := h
    rw [Bool.and_eq_true, List.all_eq_true] at h
    refine List.nodup_cons.mpr ⟨fun hx => ?_, dst_nd h.2⟩
    have := h.1 x hx
    rw [Nat.beq_refl] at this
    cases this
theorem half_all : ∀ ks ∈ kindsA, 2 * (mkB ks).1.length = ks.sum := by decide +kernel
theorem spanU_in : ∀ {ws : List Nat} {v : Nat}, v ∈ spanU ws → span ws v := by
  intro ws
  have : ∀ (ws f : List Nat) (v : Nat), v ∈ ws.foldl (fun f w => f ++ f.map (· ^^^ w)) f → ∃ a b, a ∈ f ∧ span ws b ∧ v = a ^^^ b := by
    intro ws
    induction ws with
    | nil => exact fun f v h => ⟨v, 0, h, span_zero _, (Nat.xor_zero v).symm⟩
    | cons w ws ih =>
      intro f v h
      obtain ⟨a, b, ha, hb, e⟩ := ih _ v h
      have up : ∀ {u}, span ws u → span (w :: ws) u := fun h => span_sub (fun x hx => span_mem (List.mem_cons_of_mem _ hx)) h
      rcases List.mem_append.mp ha with k | k
      · exact ⟨a, b, k, up hb, e⟩
      · obtain ⟨c, hc, rfl⟩ := List.mem_map.mp k
        exact ⟨c, w ^^^ b, hc, span_xor (span_mem List.mem_cons_self) (up hb), by rw [e, Nat.xor_assoc]⟩
  intro v h
  obtain ⟨a, b, ha, hb, e⟩ := this ws [0] v h
  rw [List.mem_singleton.mp ha, Nat.zero_xor] at e
  rw [e]
  exact hb
theorem bas_free {ws : List Nat} (h : (spanU ws).Nodup) : (bas ws).length = ws.length := by
  have ok := words_ok (bas_plain ws)
  have le : (spanU ws).length ≤ (wordsOf (bas ws)).length := List.Nodup.length_le_of_subset h (fun v hv => (ok.1 v).mpr ((bas_span ws v).mpr (spanU_in hv)))
  rw [spanU_len, ok.2.2] at le
  have := (Nat.pow_le_pow_iff_right (show 1 < 2 by decide)).mp le
  have := bas_len ws
  omega
theorem ks_own {ks : List Nat} (h : ks ∈ kindsA) : 2 * (bas (mkB ks).1).length = ks.sum := by
  rw [bas_free (dst_nd (List.all_eq_true.mp dst_all ks h))]
  exact half_all ks h
structure OwnM (ks l : List Nat) : Prop where
  len : l.length ≤ 8
  pos : 0 < l.length
  lt : ∀ v ∈ l, v < 2 ^ ks.sum
  st : ∀ a ∈ l, ∀ b ∈ l, par a b = false
  half : 2 * (bas l).length = ks.sum
section
variable {p : Addr} {ws : List Nat}
end
theorem OwnM.own {ks l : List Nat} (h : OwnM ks l) (n1 : 1 ≤ ks.sum) (n24 : ks.sum ≤ 24) : OwnF ks.sum (bas l) :=
  own_mk ⟨bas_plain l, n1, n24, bas_lt h.lt⟩ (still_iff.mp (still_span.mpr fun a ha b hb => still_span.mp (still_iff.mpr h.st) a ((bas_span l a).mp ha) b ((bas_span l b).mp hb))) h.half
end Vf
set_option Elab.async false
set_option linter.all false
set_option maxRecDepth 100000
set_option maxHeartbeats 400000
set_option pp.maxSteps 300
namespace Vf
open PySem PySem.Spec PyProof.Rows L2
variable {W : Wd}
/-! ### shadows of own rooms, beside one another, led -/
section
variable {n m a b v w j : Nat} {A B L M X ws s : List Nat} {C : Addr}
noncomputable def shT (B : List Nat) : List Nat := (wordsOf B).map fun w => w ^^^ shdW B
theorem xor_canc2 (s v : Nat) : (v ^^^ s) ^^^ s = v := by rw [Nat.xor_assoc, Nat.xor_self, Nat.xor_zero]
theorem shT_ok (h : OwnF n B) : (∀ v, v ∈ shT B ↔ v < 2 ^ n ∧ isSh B v = true) ∧ (shT B).Nodup := by
  have n24 := h.f.n24
  have l24 : ∀ b ∈ B, b < 2 ^ 24 := fun b hb => lt24 n24 (h.f.lt b hb)
  have ok := words_ok h.f.pl
  have sc := sh_con h.f.pl n24 h.f.lt (shd_lt h.f.pl h.f.lt) (shd_sh h.f.pl l24)
  rw [own_con h] at sc
  unfold shT
  generalize shdW B = s at sc
  refine ⟨fun v => ?_, map_nd (fun a _ b _ e => ?_) ok.2.1⟩
  · rw [sc v, List.mem_map]
    constructor
    · rintro ⟨w, hw, rfl⟩
      rw [Nat.xor_comm w s, ← Nat.xor_assoc, Nat.xor_self, Nat.zero_xor]
      exact (ok.1 w).mp hw
    · exact fun hv => ⟨s ^^^ v, (ok.1 _).mpr hv, by rw [Nat.xor_comm s v, xor_canc2]⟩
  · have := congrArg (· ^^^ s) e
    simpa [xor_canc2] using this
theorem shT_lt (h : OwnF n B) : ∀ v ∈ shT B, v < 2 ^ n := fun v hv => (((shT_ok h).1 v).mp hv).1
noncomputable def shR (n : Nat) (B : List Nat) : List Nat := rowP pc n (shT B)
theorem shR_rc (n : Nat) (B : List Nat) : shR n B = (List.range (n + 1)).map (rc (shT B)) := rfl
theorem sh_gen (st : stillB (bas X) = true) : isSh (bas X) v = true ↔ ∀ b ∈ X, par b v = uneven b := by
  rw [sh_span st]
  refine ⟨fun h b hb => h b ((bas_span X b).mpr (span_mem hb)), fun h w hw => ?_⟩
  exact ((bas_span X w).mp hw (fun w => span (bas X) w ∧ par w v = uneven w) ⟨⟨span_zero _, by rw [par_zero, uneven_zero]⟩, fun a b ha hb => ⟨span_xor ha.1 hb.1, by rw [par_xor, st_two st a ha.1 b hb.1, ha.2, hb.2]⟩⟩ fun w hw => ⟨(bas_span X w).mpr (span_mem hw), h w hw⟩).2
theorem OwnF.st (h : OwnF n B) : stillB B = true := still_span.mpr h.still
theorem uneven_pc (h : pc a = pc b) : uneven a = uneven b := by
  unfold uneven
  rw [h]
theorem rc_perm (h : L.Perm M) (j : Nat) : rc L j = rc M j := (h.filter _).length_eq
/-! led -/
theorem sh_ex (hs : Seq n s) (h : OwnF n B) (hv : v < 2 ^ n) : isSh (bas (exB B s)) (ledN s v) = isSh B v := by
  have own := own_ex hs h
  rw [Bool.eq_iff_iff, sh_gen own.st, isSh_iff]
  have e1 : ∀ b ∈ B, par (ledN s b) (ledN s v) = par b v := fun b hb => led_par hs h.f.n24 (h.f.lt b hb)
  have e2 : ∀ b ∈ B, uneven (ledN s b) = uneven b := fun b hb => uneven_pc (ledN_pc hs h.f.n24 (h.f.lt b hb))
  constructor
  · intro k b hb
    rw [← e1 b hb, ← e2 b hb]
    exact k _ (List.mem_map_of_mem hb)
  · intro k c hc
    obtain ⟨b, hb, rfl⟩ := List.mem_map.mp hc
    rw [e1 b hb, e2 b hb]
    exact k b hb
theorem shT_ex (hs : Seq n s) (h : OwnF n B) : (shT (bas (exB B s))).Perm ((shT B).map (ledN s)) := by
  have own := own_ex hs h
  have n24 := h.f.n24
  have l24 : ∀ b ∈ B, b < 2 ^ 24 := fun b hb => lt24 n24 (h.f.lt b hb)
  have lin := ledN_lin hs.nd
  have s1 := shd_lt h.f.pl h.f.lt
  have s2 := shd_sh h.f.pl l24
  have oB := shT_ok h
  refine (List.perm_ext_iff_of_nodup (shT_ok own).2 (map_nd (fun a ha b hb e => ledN_inj hs (shT_lt h a ha) (shT_lt h b hb) e) oB.2)).mpr fun v => ?_
  rw [(shT_ok own).1, List.mem_map]
  constructor
  · rintro ⟨h1, h2⟩
    have sc := (sh_con own.f.pl n24 own.f.lt (ledN_lt hs (shdW B)) (by rw [sh_ex hs h s1]; exact s2) v).mp ⟨h1, h2⟩
    rw [own_con own, exB_span hs] at sc
    obtain ⟨a, ha, e⟩ := sc
    have la := span_lt h.f.lt ha
    refine ⟨shdW B ^^^ a, (oB.1 _).mpr ((sh_con h.f.pl n24 h.f.lt s1 s2 _).mpr ?_), ?_⟩
    · rw [own_con h, ← Nat.xor_assoc, Nat.xor_self, Nat.zero_xor]
      exact ha
    · rw [lin, ← e, ← Nat.xor_assoc, Nat.xor_self, Nat.zero_xor]
  · rintro ⟨u, hu, rfl⟩
    obtain ⟨u1, u2⟩ := (oB.1 u).mp hu
    exact ⟨ledN_lt hs u, by rw [sh_ex hs h u1]; exact u2⟩
theorem shR_ex (hs : Seq n s) (h : OwnF n B) : shR n (bas (exB B s)) = shR n B := by
  rw [shR_rc, shR_rc]
  refine List.map_congr_left fun j _ => ?_
  rw [rc_perm (shT_ex hs h)]
  refine rc_pcs ?_ j
  rw [List.map_map]
  exact List.Perm.of_eq (List.map_congr_left fun v hv => ledN_pc hs h.f.n24 (shT_lt h v hv))
/-! by fours -/
end
end Vf
set_option Elab.async false
set_option linter.all false
set_option maxRecDepth 100000
set_option maxHeartbeats 400000
set_option pp.maxSteps 300
namespace Vf
open PySem PySem.Spec PyProof.Rows L2
variable {W : Wd}
section
variable {Ds : EnvT W} {te ti : TE} {tt : TT} {i m j : Nat} {l : List Nat} {d : Dn W} {ds : List (Dn W)} {K : PySem.W.Frag} {k : Nat}
end
/-! ### how many fill-ups by fours -/
section
variable {n m a b v w : Nat} {A B s : List Nat} {C : Addr}
end
end Vf
set_option Elab.async false
set_option linter.all false
set_option maxRecDepth 100000
set_option maxHeartbeats 400000
set_option pp.maxSteps 300
namespace Vf
open PySem PySem.Spec PyProof.Rows L2
variable {W : Wd}
section
variable {Ds : EnvT W} {te : TE} {tt : TT} {i : Nat}
end
section
variable {n m a b v w : Nat} {A B s : List Nat}
end
end Vf
set_option Elab.async false
set_option linter.all false
set_option maxRecDepth 100000
set_option maxHeartbeats 400000
set_option pp.maxSteps 300
namespace Vf
open PySem PySem.Spec PyProof.Rows L2
variable {W : Wd}
/-! ### values of any kind -/
section
variable {Ds : EnvT W} {te : TE} {d : Dn W} {K : PySem.W.Frag} {C : Addr} {n : Nat} {B : List Nat} {xs : List V} {ds : List (Dn W)}
end
/-! promises of any value -/
section
variable {K : PySem.W.Frag}
end
section
variable {n : Nat} {B L : List Nat} {C : Addr} {K : PySem.W.Frag} {i : Int}
end
/-! ### statements -/
section
variable {Ds Fs : EnvT W} {te tl : TE} {t : TA} {tt : TT} {ts tu : TS} {i : Nat} {d : Dn W} {ds : List (Dn W)} {K : PySem.W.Frag}
end
section
variable {Ds : EnvT W} {ta tb tc : TE} {d1 d2 : Dn W} {r r' : R2} {K : PySem.W.Frag} {a b : Int}
end
end Vf
set_option Elab.async false
set_option linter.all false
set_option maxRecDepth 100000
set_option maxHeartbeats 400000
set_option pp.maxSteps 300
namespace Vf
open PySem PySem.Spec PyProof.Rows L2
variable {W : Wd}
/-! ### dicts of numbers -/
/-- told weights of a shadow, kind by kind -/
def shdK : Nat → List (Nat × Nat)
  | 2 => [(1, 2)]
  | 8 => [(0, 1), (4, 14), (8, 1)]
  | 12 => [(2, 6), (6, 52), (10, 6)]
  | 14 => [(3, 14), (7, 100), (11, 14)]
  | 16 => [(0, 1), (4, 28), (8, 198), (12, 28), (16, 1)]
  | _ => []
/-! ### for k in a dict -/
def inn (at_ num : Nat) : List Nat → List (Nat × Nat) → List Nat
  | L, [] => L
  | L, p :: ps => inn at_ num (L.set (at_ + p.1) (L.getD (at_ + p.1) 0 + num * p.2)) ps
section
variable {Ds : EnvT W} {K : PySem.W.Frag} {i j m x y : Nat} {ps : List (Nat × Nat)} {a num : Nat} {L : List Nat}
end
end Vf
set_option Elab.async false
set_option linter.all false
set_option maxRecDepth 100000
set_option maxHeartbeats 400000
set_option pp.maxSteps 300
namespace Vf
open PySem PySem.Spec PyProof.Rows L2
variable {W : Wd}
/-! ### told rows of shadows, kinds beside one another -/
def outL (kv : List (Nat × Nat)) : Nat → List Nat → List Nat → List Nat
  | _, [], L => L
  | a, x :: xs, L => outL kv (a + 1) xs (inn a x L kv)
def stepQ (F : List Nat) (k : Nat) : List Nat := outL (shdK k) 0 F (List.replicate (F.length + k) 0)
def dueL (ks : List Nat) : List Nat := ks.foldl stepQ [1]
def kindsX : List (List Nat) := [[2], [2, 2], [2, 2, 2], [8], [2, 8], [12], [14], [16], [8, 8], [2, 2, 2, 2], [2, 12], [2, 2, 8]]
theorem kindsX_A : ∀ ks ∈ kindsX, ks ∈ kindsA := by decide
def sK : Nat → Nat
  | 2 => 1
  | 12 => 3
  | 14 => 127
  | _ => 0
def mkS (ks : List Nat) : Nat := (ks.foldl (fun s k => (s.1 + sK k * 2 ^ s.2, s.2 + k)) ((0, 0) : Nat × Nat)).1
def ckD1 (ks : List Nat) : Bool := (mkB ks).1.all (fun b => par b (mkS ks) == uneven b) && decide (mkS ks < 2 ^ ks.sum)
theorem ckD1_all : kindsX.all ckD1 = true := by decide +kernel
def ckD2 (ks : List Nat) : Bool := decide (rowP pc ks.sum ((spanU (mkB ks).1).map (mkS ks ^^^ ·)) = dueL ks)
theorem ckD2_all : kindsX.all ckD2 = true := by decide +kernel
/-! ### kinds led -/
section
variable {n j : Nat} {A B L M X ks l s : List Nat}
theorem spanU_all (nd : (spanU X).Nodup) (v : Nat) : v ∈ spanU X ↔ span X v := by
  refine ⟨spanU_in, fun h => Classical.byContradiction fun no => ?_⟩
  have ok := words_ok (bas_plain X)
  have le : (v :: spanU X).length ≤ (wordsOf (bas X)).length := List.Nodup.length_le_of_subset (List.nodup_cons.mpr ⟨no, nd⟩) fun w hw => by
    refine (ok.1 w).mpr ((bas_span X w).mpr ?_)
    rcases List.mem_cons.mp hw with rfl | h
    · exact h
    · exact spanU_in h
  rw [List.length_cons, spanU_len, ok.2.2, bas_free nd] at le
  omega
theorem shT_perm (h : OwnF n B) {a : Nat} (a1 : a < 2 ^ n) (a2 : isSh B a = true) (nd : L.Nodup) (mem : ∀ v, v ∈ L ↔ span B v) : (shT B).Perm (L.map (a ^^^ ·)) := by
  have sc := sh_con h.f.pl h.f.n24 h.f.lt a1 a2
  rw [own_con h] at sc
  refine (List.perm_ext_iff_of_nodup (shT_ok h).2 (map_nd (fun x _ y _ e => ?_) nd)).mpr fun v => ?_
  · have := congrArg (a ^^^ ·) e
    simpa [← Nat.xor_assoc] using this
  · rw [(shT_ok h).1, sc v, List.mem_map]
    constructor
    · exact fun hv => ⟨a ^^^ v, (mem _).mpr hv, by rw [← Nat.xor_assoc, Nat.xor_self, Nat.zero_xor]⟩
    · rintro ⟨w, hw, rfl⟩
      rw [← Nat.xor_assoc, Nat.xor_self, Nat.zero_xor]
      exact (mem w).mp hw
structure OwnX (ks l : List Nat) : Prop where
  own : OwnM ks l
  led : ∃ s, Seq ks.sum s ∧ l = (mkB ks).1.map (ledN s)
theorem due_base (hx : ks ∈ kindsX) : OwnF ks.sum (bas (mkB ks).1) ∧ shR ks.sum (bas (mkB ks).1) = dueL ks := by
  have ha := kindsX_A ks hx
  obtain ⟨_, n1, n16, l8, lt, st⟩ := ks_PA ha
  have own : OwnF ks.sum (bas (mkB ks).1) := own_mk ⟨bas_plain _, n1, by omega, bas_lt lt⟩ (still_iff.mp (still_span.mpr fun a ha b hb => still_span.mp (still_iff.mpr st) a ((bas_span _ a).mp ha) b ((bas_span _ b).mp hb))) (ks_own ha)
  refine ⟨own, ?_⟩
  have c1 := List.all_eq_true.mp ckD1_all ks hx
  have c2 := List.all_eq_true.mp ckD2_all ks hx
  unfold ckD1 at c1
  unfold ckD2 at c2
  rw [Bool.and_eq_true, decide_eq_true_iff, List.all_eq_true] at c1
  have c2 := of_decide_eq_true c2
  have nd := dst_nd (List.all_eq_true.mp dst_all ks ha)
  have sh : isSh (bas (mkB ks).1) (mkS ks) = true := (sh_gen own.st).mpr fun b hb => eq_of_beq (c1.1 b hb)
  rw [← c2]
  exact rowP_perm (shT_perm own c1.2 sh nd fun v => by rw [spanU_all nd, bas_span])
theorem OwnX.row (hx : ks ∈ kindsX) (h : OwnX ks l) : shR ks.sum (bas l) = dueL ks := by
  obtain ⟨s, hs, rfl⟩ := h.led
  obtain ⟨own, e⟩ := due_base hx
  rw [← e, ← shR_ex hs own]
  refine congrArg (shR ks.sum) (plain_unique (bas_plain _) (bas_plain _) fun v => ?_)
  rw [bas_span, show span ((mkB ks).1.map (ledN s)) v ↔ span (exB (mkB ks).1 s) v from Iff.rfl, ← bas_span (exB (mkB ks).1 s), exB_span hs, exB_span hs]
  exact ⟨fun ⟨a, ha, e⟩ => ⟨a, (bas_span _ a).mpr ha, e⟩, fun ⟨a, ha, e⟩ => ⟨a, (bas_span _ a).mp ha, e⟩⟩
end
section
variable {p : Addr} {ws ks L : List Nat} {n : Nat}
end
section
variable {Ds Es : EnvT W} {ta tb te : TE} {ts tu tw : TS} {d d1 : Dn W} {i j : Nat} {xs : List V} {cs cs1 : List (Nat × List V)} {a : Int}
end
section
variable {Ds Es : EnvT W} {te : TE} {tu : TS} {i : Nat} {xs ys : List V} {cs : List (Nat × List V)}
end
end Vf
set_option Elab.async false
set_option linter.all false
set_option maxRecDepth 100000
set_option maxHeartbeats 4000000
set_option pp.maxSteps 300
namespace Vf
open PySem PySem.Spec PyProof.Rows L2
/-! ### polynomials, as the loops make them -/
def inZ (x : Int) : Nat → List Int → List Int → List Int
  | _, L, [] => L
  | a, L, b :: B => inZ x (a + 1) (L.set a (L.getD a 0 + x * b)) B
theorem inZ_len (x : Int) : ∀ (B : List Int) (a : Nat) (L : List Int), (inZ x a L B).length = L.length
  | [], _, _ => rfl
  | b :: B, a, L => by
    show (inZ x (a + 1) (L.set _ _) B).length = _
    rw [inZ_len x B, List.length_set]
def outZ (B : List Int) : Nat → List Int → List Int → List Int
  | _, L, [] => L
  | a, L, x :: A => outZ B (a + 1) (inZ x a L B) A
theorem outZ_len (B : List Int) : ∀ (A : List Int) (a : Nat) (L : List Int), (outZ B a L A).length = L.length
  | [], _, _ => rfl
  | x :: A, a, L => by
    show (outZ B (a + 1) (inZ x a L B) A).length = _
    rw [outZ_len B A, inZ_len]
def mulZ (A B : List Int) : List Int := outZ B 0 (List.replicate (A.length + B.length - 1) 0) A
theorem mulZ_len (A B : List Int) : (mulZ A B).length = A.length + B.length - 1 := by
  unfold mulZ
  rw [outZ_len, List.length_replicate]
def powZ (A : List Int) : Nat → List Int
  | 0 => [1]
  | k + 1 => mulZ (powZ A k) A
theorem powZ_len {A : List Int} (h : 1 ≤ A.length) : ∀ k, (powZ A k).length = k * (A.length - 1) + 1
  | 0 => by rw [Nat.zero_mul]; rfl
  | k + 1 => by
    show (mulZ (powZ A k) A).length = _
    rw [mulZ_len, powZ_len h k, Nat.succ_mul]
    omega
def smZ (l : List Int) : Prop := ∀ x ∈ l, -(2 ^ 64) < x ∧ x < 2 ^ 64
instance (l : List Int) : Decidable (smZ l) := inferInstanceAs (Decidable (∀ x ∈ l, _))
theorem getD_some {α : Type} {l : List α} {k : Nat} {d : α} (h : k < l.length) : l[k]? = some (l.getD k d) := by
  rw [List.getD_eq_getElem?_getD, List.getElem?_eq_getElem h]
  rfl
/-! sums of multiples -/
def adZ : List (List Int) → List Int → List Int → List Int
  | t :: ts, f :: fs, tot => adZ ts fs (List.zipWith (fun x y => x + f * y) tot t)
  | [], _, tot => tot
  | _ :: _, [], tot => tot
def dotZ : List (List Int) → List Int → Nat → Int
  | t :: ts, f :: fs, j => f * t.getD j 0 + dotZ ts fs j
  | [], _, _ => 0
  | _ :: _, [], _ => 0
theorem zw_at {f : Int → Int → Int} {n : Nat} {A B : List Int} (hA : A.length = n) (hB : B.length = n) : List.zipWith f A B = (List.range n).map fun j => f (A.getD j 0) (B.getD j 0) := by
  refine List.ext_getElem? fun j => ?_
  by_cases h : j < n
  · rw [List.getElem?_zipWith, List.getElem?_map, List.getElem?_range h, getD_some (l := A) (d := 0) (by omega), getD_some (l := B) (d := 0) (by omega)]
    rfl
  · rw [List.getElem?_eq_none (by rw [List.length_zipWith]; omega), List.getElem?_eq_none (by rw [List.length_map, List.length_range]; omega)]
theorem map_getD {n j : Nat} {g : Nat → Int} (h : j < n) : ((List.range n).map g).getD j 0 = g j := by
  rw [List.getD_eq_getElem?_getD, List.getElem?_map, List.getElem?_range h]
  rfl
theorem adZ_len {n : Nat} : ∀ {ts : List (List Int)} {fs tot : List Int}, (∀ t ∈ ts, t.length = n) → tot.length = n → (adZ ts fs tot).length = n
  | [], _, _, _, h => h
  | _ :: _, [], _, _, h => h
  | t :: ts, f :: fs, tot, h1, h => adZ_len (ts := ts) (fun s hs => h1 s (List.mem_cons_of_mem _ hs)) (by rw [List.length_zipWith, h, h1 t (List.mem_cons_self ..), Nat.min_self])
theorem adZ_at {n : Nat} : ∀ {ts : List (List Int)} {fs tot : List Int}, (∀ t ∈ ts, t.length = n) → tot.length = n → adZ ts fs tot = (List.range n).map fun j => tot.getD j 0 + dotZ ts fs j
  | [], fs, tot, _, h => by
    refine List.ext_getElem? fun j => ?_
    by_cases c : j < n
    · rw [List.getElem?_map, List.getElem?_range c]
      show tot[j]? = some (tot.getD j 0 + dotZ [] fs j)
      rw [getD_some (l := tot) (d := 0) (by omega)]
      show _ = some (_ + 0)
      rw [Int.add_zero]
    · exact (List.getElem?_eq_none (show tot.length ≤ j by omega)).trans (List.getElem?_eq_none (by rw [List.length_map, List.length_range]; omega)).symm
  | s :: ts, [], tot, _, h => by
    refine List.ext_getElem? fun j => ?_
    by_cases c : j < n
    · rw [List.getElem?_map, List.getElem?_range c]
      show tot[j]? = some (tot.getD j 0 + dotZ (s :: ts) [] j)
      rw [getD_some (l := tot) (d := 0) (by omega)]
      show _ = some (_ + 0)
      rw [Int.add_zero]
    · exact (List.getElem?_eq_none (show tot.length ≤ j by omega)).trans (List.getElem?_eq_none (by rw [List.length_map, List.length_range]; omega)).symm
  | t :: ts, f :: fs, tot, h1, h => by
    have ht := h1 t (List.mem_cons_self ..)
    show adZ ts fs (List.zipWith (fun x y => x + f * y) tot t) = _
    rw [adZ_at (ts := ts) (fun s hs => h1 s (List.mem_cons_of_mem _ hs)) (by rw [List.length_zipWith, h, ht, Nat.min_self])]
    refine List.map_congr_left fun j hj => ?_
    rw [zw_at h ht, map_getD (List.mem_range.mp hj)]
    show _ + f * t.getD j 0 + _ = _ + (f * t.getD j 0 + _)
    rw [Int.add_assoc]
/-- what is taken out, step by step -/
def tkZ (ts : List (List Int)) (step : Nat) (L : List Int) : Nat → List Int × List Int
  | 0 => ([], L)
  | k + 1 => ((tkZ ts step L k).1 ++ [(tkZ ts step L k).2.getD (step * k) 0], List.zipWith (fun x y => x - (tkZ ts step L k).2.getD (step * k) 0 * y) (tkZ ts step L k).2 (ts.getD k []))
theorem tkZ_len {ts : List (List Int)} {step n : Nat} {L : List Int} (h1 : ∀ t ∈ ts, t.length = n) (h : L.length = n) : ∀ k, k ≤ ts.length → (tkZ ts step L k).2.length = n
  | 0, _ => h
  | k + 1, hk => by
    have ht : (ts.getD k []).length = n := h1 _ (List.mem_of_getElem? (getD_some (l := ts) (d := []) (by omega)))
    show (List.zipWith _ _ _).length = n
    rw [List.length_zipWith, tkZ_len h1 h k (by omega), ht, Nat.min_self]
theorem tkZ_len1 (ts : List (List Int)) (step : Nat) (L : List Int) : ∀ k, (tkZ ts step L k).1.length = k
  | 0 => rfl
  | k + 1 => by
    show ((tkZ ts step L k).1 ++ [_]).length = _
    rw [List.length_append, tkZ_len1 ts step L k]
    rfl
def tabPL : List (List (List Int)) := [[[1, 0, 1]],
  [[1, 0, 2, 0, 1]],
  [[1, 0, 3, 0, 3, 0, 1]],
  [[1, 0, 4, 0, 6, 0, 4, 0, 1],
   [0, 0, 1, 0, -2, 0, 1, 0, 0]],
  [[1, 0, 5, 0, 10, 0, 10, 0, 5, 0, 1],
   [0, 0, 1, 0, -1, 0, -1, 0, 1, 0, 0]],
  [[1, 0, 6, 0, 15, 0, 20, 0, 15, 0, 6, 0, 1],
   [0, 0, 1, 0, 0, 0, -2, 0, 0, 0, 1, 0, 0]],
  [[1, 0, 7, 0, 21, 0, 35, 0, 35, 0, 21, 0, 7, 0, 1],
   [0, 0, 1, 0, 1, 0, -2, 0, -2, 0, 1, 0, 1, 0, 0]],
  [[1, 0, 8, 0, 28, 0, 56, 0, 70, 0, 56, 0, 28, 0, 8, 0, 1],
   [0, 0, 1, 0, 2, 0, -1, 0, -4, 0, -1, 0, 2, 0, 1, 0, 0],
   [0, 0, 0, 0, 1, 0, -4, 0, 6, 0, -4, 0, 1, 0, 0, 0, 0]],
  [[1, 0, 9, 0, 36, 0, 84, 0, 126, 0, 126, 0, 84, 0, 36, 0, 9, 0, 1],
   [0, 0, 1, 0, 3, 0, 1, 0, -5, 0, -5, 0, 1, 0, 3, 0, 1, 0, 0],
   [0, 0, 0, 0, 1, 0, -3, 0, 2, 0, 2, 0, -3, 0, 1, 0, 0, 0, 0]],
  [[1, 0, 10, 0, 45, 0, 120, 0, 210, 0, 252, 0, 210, 0, 120, 0, 45, 0, 10, 0, 1],
   [0, 0, 1, 0, 4, 0, 4, 0, -4, 0, -10, 0, -4, 0, 4, 0, 4, 0, 1, 0, 0],
   [0, 0, 0, 0, 1, 0, -2, 0, -1, 0, 4, 0, -1, 0, -2, 0, 1, 0, 0, 0, 0]],
  [[1, 0, 11, 0, 55, 0, 165, 0, 330, 0, 462, 0, 462, 0, 330, 0, 165, 0, 55, 0, 11, 0, 1],
   [0, 0, 1, 0, 5, 0, 8, 0, 0, 0, -14, 0, -14, 0, 0, 0, 8, 0, 5, 0, 1, 0, 0],
   [0, 0, 0, 0, 1, 0, -1, 0, -3, 0, 3, 0, 3, 0, -3, 0, -1, 0, 1, 0, 0, 0, 0]],
  [[1, 0, 12, 0, 66, 0, 220, 0, 495, 0, 792, 0, 924, 0, 792, 0, 495, 0, 220, 0, 66, 0, 12, 0, 1],
   [0, 0, 1, 0, 6, 0, 13, 0, 8, 0, -14, 0, -28, 0, -14, 0, 8, 0, 13, 0, 6, 0, 1, 0, 0],
   [0, 0, 0, 0, 1, 0, 0, 0, -4, 0, 0, 0, 6, 0, 0, 0, -4, 0, 0, 0, 1, 0, 0, 0, 0],
   [0, 0, 0, 0, 0, 0, 1, 0, -6, 0, 15, 0, -20, 0, 15, 0, -6, 0, 1, 0, 0, 0, 0, 0, 0]]]
def tabP (n : Nat) : List (List Int) := tabPL.getD (n / 2 - 1) []
theorem tabP_len : ∀ m < 12, (tabP (2 * (m + 1))).length = 2 * (m + 1) / 8 + 1 ∧ ∀ t ∈ tabP (2 * (m + 1)), t.length = 2 * (m + 1) + 1 ∧ ∀ x ∈ t, x.natAbs ≤ 4096 := by decide +kernel
end Vf
set_option Elab.async false
set_option linter.all false
set_option maxRecDepth 100000
set_option maxHeartbeats 4000000
set_option pp.maxSteps 300
namespace Vf
open PySem PySem.Spec PyProof.Rows L2
variable {W : Wd}
/-! ### repr where no class stands: None, truths, numbers, data -/
section
variable {K : PySem.W.Frag} {d : Dn W} {l l2 : List Int} {a b : Int}
/-! lists of whole numbers, equal or not -/
end
section
variable {Ds Es Fs : EnvT W} {d : Dn W} {te tl : TE} {tt : TT} {ta : TA} {ts tu : TS} {i j m n : Nat} {K : PySem.W.Frag} {xs : List V} {l : List Int}
end
end Vf
set_option Elab.async false
set_option linter.all false
set_option maxRecDepth 100000
set_option maxHeartbeats 4000000
set_option pp.maxSteps 300
namespace Vf
open PySem PySem.Spec PyProof.Rows L2
variable {W : Wd}
/-! ### a list that grows from the empty one: its items and the slots told in the world that keeps away from it -/
def Wle (W W' : Wd) : Prop := ∀ q, IsPot W q → IsPot W' q
theorem away_le {p : Addr} (fp : W.F p) : Wle W (awayW W p fp) := fun _ h => ⟨fun iv => h.has iv.1, fun f => h.ne f.1, fun b k => h.put b k⟩
theorem uEnv_drop {n : Nat} {l : List (Nat × UD)} {σ : L2.St} {H : Hp} {D : Addr} (hD : W.F D) (h : EnvL (uEnv n l (awayW W D hD)) σ H) : EnvL (uEnv n l W) σ H := ⟨h.1, fun i d e lt => by
  obtain ⟨u, rfl, k⟩ := getE_u e
  obtain ⟨v, e1, x⟩ := h.2 i _ (k _) lt
  exact ⟨v, e1, u.drop hD x⟩⟩
/-- a meaning that never looks at what stands at the place it keeps away from -/
def OffU (u : UD) : Prop := ∀ {W : Wd} {D : Addr} (hD : W.F D) {v : V} {H : Hp}, (u.f (awayW W D hD)).ok v H → (u.f (awayW W D hD)).ok v (del D H)
theorem offu_Lst (xs : List V) : OffU (uLst xs) := fun {W D} hD {v H} ⟨a, e, g, h⟩ => ⟨a, e, g, (del_ne g.2).trans h⟩
theorem OkL_away {p : Addr} (fp : W.F p) {H H2 : Hp} {o : HO} (l : W.L (del p H) (del p H2)) (e : H2 p = some o) : ∀ {ws : List UD} {xs : List V}, (∀ w ∈ ws, OffU w) → OkL (uDs ws (awayW W p fp)) xs H → OkL (uDs ws (awayW W p fp)) xs H2
  | [], [], _, _ => trivial
  | w :: ws, x :: xs, f, ⟨o1, r⟩ => ⟨by
      have h1 := f w (List.mem_cons_self ..) fp o1
      have h2 : (w.f (awayW W p fp)).ok x (del p H2) := Dn.st (W := awayW W p fp) _ l h1
      have h3 := w.stay fp (o := o) h2
      rwa [upd_del e] at h3, OkL_away fp l e (fun w hw => f w (List.mem_cons_of_mem _ hw)) r⟩
  | [], _ :: _, _, h => h.elim
  | _ :: _, [], _, h => h.elim
structure LG (W : Wd) (i N : Nat) (ue : List (Nat × UD)) (us : List UD) (p : Addr) (fp : W.F p) (σ : L2.St) (H : Hp) : Prop where
  slot : σ[i]? = some (some (.ref p))
  ct : ∃ xs, H p = some (.lst xs) ∧ OkL (uDs us (awayW W p fp)) xs H
  inv : W.inv H
  env : EnvL (uEnv N ue (awayW W p fp)) σ H
def NVG {ι : Type} (W : Wd) (i N : Nat) (ue : List (Nat × UD)) (us : List UD) (ts : TS) (E : ι → List (Nat × UD)) (R : ι → List UD) (P : ι → Prop) : Prop := ∀ (D : Ends) (σ : L2.St) (H : Hp) (p : Addr) (fp : W.F p), LG W i N ue us p fp σ H →
  (∀ x σ' H', P x → LG W i N (E x) (R x) p fp σ' H' → W.L (del p H) (del p H') → D.nx σ' H') → ts D σ H
def SVG (i N : Nat) (ue : List (Nat × UD)) (us : List UD) (ts : TS) (d : Dn W) : Prop := ∀ (D : Ends) (σ : L2.St) (H : Hp) (p : Addr) (fp : W.F p), LG W i N ue us p fp σ H → (∀ v H', W.L (del p H) H' → d.ok v H' → D.rt v H') → ts D σ H
section
variable {ι κ : Type} {i N j m n M : Nat} {ue ue' : List (Nat × UD)} {us us' : List UD} {p : Addr} {fp : W.F p} {σ : L2.St} {H H1 : Hp}
theorem LG.ainv (h : LG W i N ue us p fp σ H) : (awayW W p fp).inv H := ⟨h.inv, h.ct.elim fun xs e => ⟨xs, e.1⟩⟩
theorem LG.go (h : LG W i N ue us p fp σ H) (l : W.L H H1) : LG W i N ue us p fp σ H1 ∧ W.L (del p H) (del p H1) := by
  obtain ⟨xs, e, o⟩ := h.ct
  exact ⟨⟨h.slot, ⟨xs, W.keep fp l e, OkL.st (W := awayW W p fp) l o⟩, W.step l h.inv, EnvL.st (W := awayW W p fp) l h.env⟩, W.delL fp l⟩
theorem LG.del (h : LG W i N ue us p fp σ H) : W.L (del p H) H := by
  obtain ⟨xs, e, _⟩ := h.ct
  exact L_del (W.delI fp h.inv) e
theorem LG.out (h : LG W i N ue us p fp σ H) : EnvL ((uEnv N ue W).set i (some (dLD (uDs us W)))) σ H := by
  obtain ⟨xs, e, o⟩ := h.ct
  have := EnvL.set (d := dLD (uDs us W)) (v := .ref p) (i := i) ⟨p, xs, rfl, fp, e, uDs_drop fp o⟩ (uEnv_drop fp h.env)
  rwa [set_id h.slot] at this
end
section
variable {ι κ : Type} {i N j j2 m n M : Nat} {ue ue' : List (Nat × UD)} {us us' : List UD} {ts tu : TS} {te tl : TE} {ta : TA} {tt : TT} {K : PySem.W.Frag} {d : Dn W} {u : UD}
  {E : ι → List (Nat × UD)} {R : ι → List UD} {P : ι → Prop} {E' : κ → List (Nat × UD)} {R' : κ → List UD} {P' : κ → Prop}
theorem ng_seq (h : NVG W i N ue us ts E R P) (k : ∀ x, P x → NVG W i N (E x) (R x) tu E' R' P') : NVG W i N ue us (tSeq ts tu) E' R' P' := fun D σ H p fp s q =>
  h _ σ H p fp s fun x σ1 H1 px s1 l1 => k x px D σ1 H1 p fp s1 fun y σ2 H2 py s2 l2 => q y σ2 H2 py s2 (W.trans l1 l2)
theorem sg_seq (h : NVG W i N ue us ts E R P) (k : ∀ x, P x → SVG i N (E x) (R x) tu d) : SVG i N ue us (tSeq ts tu) d := fun D σ H p fp s q =>
  h _ σ H p fp s fun x σ1 H1 px s1 l1 => k x px D σ1 H1 p fp s1 fun v H2 l2 o2 => q v H2 (W.trans l1 l2) o2
theorem sg_end (h : SV ((uEnv N ue W).set i (some (dLD (uDs us W)))) ts d) : SVG i N ue us ts d := fun D σ H p fp s q =>
  h D σ H s.inv s.out fun v H' l o => q v H' (W.trans s.del l) o
theorem ng_next : NVG W i N ue us tNext (fun _ : Unit => ue) (fun _ => us) (fun _ => True) := fun D σ H p fp s q => q () σ H trivial s (W.refl _)
theorem ng_imp (h : NVG W i N ue us ts E R P) (f : ι → κ) (k : ∀ x, P x → P' (f x) ∧ R x = R' (f x) ∧ ∀ W' σ H, EnvL (uEnv N (E x) W') σ H → EnvL (uEnv N (E' (f x)) W') σ H) : NVG W i N ue us ts E' R' P' := fun D σ H p fp s q =>
  h D σ H p fp s fun x σ1 H1 px s1 l1 => by
    obtain ⟨py, er, ee⟩ := k x px
    exact q (f x) σ1 H1 py ⟨s1.slot, er ▸ s1.ct, s1.inv, ee _ _ _ s1.env⟩ l1
theorem ng_setx {f : ι → UD} (h : ∀ W', Wle W W' → EV (uEnv N ue W') te (dEx P fun x => (f x).f W')) (ne : j ≠ i := by decide) : NVG W i N ue us (tAsg te (gName j)) (fun x => (j, f x) :: ue) (fun _ => us) P := fun D σ H p fp s q =>
  h _ (away_le fp) σ H _ s.ainv s.env fun v H1 l1 ⟨x, px, o⟩ => by
    obtain ⟨s1, l2⟩ := s.go l1
    exact q x _ H1 px ⟨by rw [List.getElem?_set_ne ne]; exact s1.slot, s1.ct, s1.inv, s1.env.set o⟩ l2
theorem ng_set (u : UD) (h : ∀ W', Wle W W' → EV (uEnv N ue W') te (u.f W')) (ne : j ≠ i := by decide) : NVG W i N ue us (tAsg te (gName j)) (fun _ : Unit => (j, u) :: ue) (fun _ => us) (fun _ => True) :=
  ng_setx (ι := Unit) (P := fun _ => True) (f := fun _ => u) (fun W' l => ev_ex (h W' l)) ne
theorem ng_appendx {f : ι → UD} (h : ∀ W', Wle W W' → EV (uEnv N ue W') te (dEx P fun x => (f x).f W')) (z : us.length < 100000) : NVG W i N ue us (tDrop (tBM K "list" rAppend (tVar i) (tCons te tNil))) (fun _ => ue) (fun x => us ++ [f x]) P := fun D σ H p fp s q => by
  obtain ⟨ys, hy, oy⟩ := s.ct
  refine ⟨.ref p, s.slot, .inl ⟨rfl, _, SqL.of hy⟩, h _ (away_le fp) σ H _ s.ainv s.env fun v H1 l1 ⟨x, px, o⟩ => ?_⟩
  obtain ⟨s1, l2⟩ := s.go l1
  obtain ⟨xs, hp, ok⟩ := s1.ct
  have lz := ok.length
  unfold uDs at lz
  rw [List.length_map] at lz
  have e1 : (upd H1 p (.lst (xs ++ [v]))) p = some (.lst (xs ++ [v])) := upd_same
  have iv1 : W.inv (del p (upd H1 p (.lst (xs ++ [v])))) := by
    rw [del_updS]
    exact W.delI fp s1.inv
  refine ⟨p, xs, v, rfl, rfl, hp, sl_lt (by omega), q x _ _ px ⟨s1.slot, ⟨xs ++ [v], upd_same, ?_⟩, W.step (L_del iv1 e1) iv1, uEnv_stay fp s1.env⟩ ?_⟩
  · unfold uDs
    rw [List.map_append]
    exact OkL.app (uDs_stay fp ok) ⟨(f x).stay fp o, trivial⟩
  · rw [del_updS]
    exact l2
theorem ng_append (u : UD) (h : ∀ W', Wle W W' → EV (uEnv N ue W') te (u.f W')) (z : us.length < 100000) : NVG W i N ue us (tDrop (tBM K "list" rAppend (tVar i) (tCons te tNil))) (fun _ : Unit => ue) (fun _ => us ++ [u]) (fun _ => True) :=
  ng_appendx (ι := Unit) (P := fun _ => True) (f := fun _ => u) (fun W' l => ev_ex (h W' l)) z
theorem ng_if {b : Bool} (h : ∀ W', Wle W W' → TV (uEnv N ue W') tt b) (h1 : b = true → NVG W i N ue us ts E R P) (h2 : b = false → NVG W i N ue us tu E R P) : NVG W i N ue us (tIfS tt ts tu) E R P := fun D σ H p fp s q =>
  h _ (away_le fp) σ H _ s.ainv s.env fun H1 l1 => by
    obtain ⟨s1, l2⟩ := s.go l1
    cases b with
    | true => exact (if_pos rfl).mpr (h1 rfl D σ H1 p fp s1 fun x σ2 H2 px s2 l3 => q x σ2 H2 px s2 (W.trans l2 l3))
    | false => exact (if_neg Bool.false_ne_true).mpr (h2 rfl D σ H1 p fp s1 fun x σ2 H2 px s2 l3 => q x σ2 H2 px s2 (W.trans l2 l3))
/-- for k in range(M) -/
theorem ng_forR (E : Nat → ι → List (Nat × UD)) (R : Nat → ι → List UD) (P : Nat → ι → Prop) (x0 : ι) (hl : ∀ W', Wle W W' → AV (uEnv N ue W') ta [dN M]) (h62 : M < 2 ^ 62) (p0 : P 0 x0) (r0 : R 0 x0 = us) (e0 : ∀ W' σ H, EnvL (uEnv N ue W') σ H → EnvL (uEnv N (E 0 x0) W') σ H)
    (hb : ∀ k, k < M → ∀ x, P k x → NVG W i N ((j, uN k) :: E k x) (R k x) ts (E (k + 1)) (R (k + 1)) (P (k + 1))) (ne : j ≠ i := by decide) : NVG W i N ue us (tFor (iRng1 ta) (gName j) ts) (E M) (R M) (P M) := fun D σ H p fp s q => by
  refine hl _ (away_le fp) σ H _ s.ainv s.env fun vs H1 l1 o1 => ?_
  match vs, o1 with
  | [v], ⟨o1, _⟩ =>
    obtain ⟨s1, l2⟩ := s.go l1
    refine ⟨(M : Int), by rw [show v = V.int (M : Int) from o1], by omega, by omega, ?_⟩
    refine for_range (lo := 0) (n := (M : Int).toNat) (fun k σ' H' => ∃ x, P k x ∧ LG W i N (E k x) (R k x) p fp σ' H' ∧ W.L (del p H) (del p H')) ⟨x0, p0, ⟨s1.slot, r0 ▸ s1.ct, s1.inv, e0 _ _ _ s1.env⟩, l2⟩ (fun k σ' H' hk hP => ?_) fun σ' H' hP => ?_
    · rw [Int.toNat_natCast] at hk
      obtain ⟨x, px, sx, lx⟩ := hP
      refine hb k hk x px _ _ H' p fp ⟨by rw [List.getElem?_set_ne ne]; exact sx.slot, sx.ct, sx.inv, EnvL.set (W := awayW W p fp) (d := dN k) (show V.int (0 + (k : Int)) = V.int (k : Int) by rw [Int.zero_add]) sx.env⟩ fun y σ2 H2 py s2 l3 => ⟨y, py, s2, W.trans lx l3⟩
    · rw [Int.toNat_natCast] at hP
      obtain ⟨x, px, sx, lx⟩ := hP
      exact q x σ' H' px sx lx
end
/-! ### a new list, empty at first -/
section
variable {i N : Nat} {Ds : EnvT W} {ue : List (Nat × UD)} {ts tu : TS} {te : TE} {d : Dn W} {xs ys : List V} {n : Nat}
/-- the same, the list a name's of more that are given at once, the last one -/
theorem sv_unp3G {K : PySem.W.Frag} {j k : Nat} {ta tb : TE} {d1 d2 : Dn W} (h1 : EV Ds ta d1) (h2 : EV Ds tb d2) (he : ∀ σ H, EnvL (((Ds.set j (some d1)).set k (some d2)).set i none) σ H → EnvL (uEnv N ue W) σ H) (r : SVG i N ue [] tu d) (hi : Nat.ble (i + 1) Ds.n = true := by rfl) (ne : j ≠ i := by decide) (ne2 : k ≠ i := by decide) :
    SV Ds (tSeq (tAsg (tTup (tCons ta (tCons tb (tCons (tLst tNil) tNil)))) (gTup K 3 (gNames [j, k, i]))) tu) d := fun D σ H iv en q =>
  h1 σ H _ iv en fun x H1 l1 o1 => h2 σ H1 _ (W.step l1 iv) (en.st l1) fun y H2 l2 o2 => ⟨Nat.zero_le _, fun p np => by
    have iv2 := W.step l2 (W.step l1 iv)
    have fp := W.fresh iv2 np
    have l3 : W.L H2 (upd H2 p (.lst [])) := W.put0 iv2 np
    refine ⟨show (3 : Nat) ≤ sizeLine by decide, fun T nT => ?_⟩
    have nTp : T ≠ p := by
      rintro rfl
      rw [upd_same] at nT
      cases nT
    have l4 : W.L (upd H2 p (.lst [])) (upd (upd H2 p (.lst [])) T (.tup [x, y, .ref p])) := W.put0 (W.step l3 iv2) nT
    refine ⟨T, _, rfl, .inl (.inl upd_same), rfl, x, _, rfl, y, _, rfl, .ref p, _, rfl, rfl, ?_⟩
    have nT2 : H2 T = none := by rw [upd_ne nTp] at nT; exact nT
    have e : del p (upd (upd H2 p (.lst [])) T (.tup [x, y, .ref p])) = upd H2 T (.tup [x, y, .ref p]) := by
      rw [del_upd_ne nTp, del_upd np]
    have l5 : W.L H2 (upd H2 T (.tup [x, y, .ref p])) := W.put0 iv2 nT2
    have en0 : EnvL ((Ds.set j (some d1)).set k (some d2)) ((σ.set j (some x)).set k (some y)) (upd H2 T (.tup [x, y, .ref p])) := EnvL.set (d2.st l5 o2) (EnvL.set (d1.st (W.trans l2 l5) o1) (en.st (W.trans l1 (W.trans l2 l5))))
    have np2 : (upd H2 T (.tup [x, y, .ref p])) p = none := by rw [upd_ne (Ne.symm nTp)]; exact np
    have swap : upd (upd H2 p (.lst [])) T (.tup [x, y, .ref p]) = upd (upd H2 T (.tup [x, y, .ref p])) p (.lst []) := by
      funext b
      by_cases c1 : b = T
      · subst c1
        rw [upd_same, upd_ne nTp, upd_same]
      · by_cases c2 : b = p
        · subst c2
          rw [upd_same, upd_ne c1, upd_same]
        · rw [upd_ne c1, upd_ne c2, upd_ne c2, upd_ne c1]
    refine r D _ _ p fp ⟨?_, ⟨[], ?_, trivial⟩, W.step l4 (W.step l3 iv2), ?_⟩ fun v H3 l6 o6 => ?_
    · exact List.getElem?_set_self (by rw [List.length_set, List.length_set, en.1]; exact Nat.le_of_ble_eq_true hi)
    · rw [upd_ne (Ne.symm nTp), upd_same]
    · rw [swap]
      exact uEnv_stay fp (uEnv_lift fp np2 (he _ _ (env_new (v := .ref p) en0)))
    · rw [e] at l6
      exact q v H3 (W.trans l1 (W.trans l2 (W.trans l5 l6))) o6⟩
end
/-! ### a promise of None, or of a new list -/
section
variable {P : Program} {w : World} {K : PySem.W.Frag} {mg : Str → Option Value} {base : Heap} {x qual : Str} {st : Stmt} {f : Addr} {fd : FuncData} {N ps : List Str} {k : Nat}
  {ι : Type} {Pr : Wd → ι → Prop} {ds : (W : Wd) → ι → List (Dn W)} {o : ι → Option (List Int)}
end
section
variable {Ds Es : EnvT W} {ts tu : TS} {te : TE} {tt : TT} {o : Option (List Int)} {l : List Int} {i : Nat} {xs : List V}
end
/-! ### a pair of new lists, the first one nobody else's -/
section
variable {P : Program} {w : World} {K : PySem.W.Frag} {mg : Str → Option Value} {base : Heap} {x qual : Str} {st : Stmt} {f : Addr} {fd : FuncData} {N ps : List Str} {k : Nat}
  {ι : Type} {Pr : Wd → ι → Prop} {ds : (W : Wd) → ι → List (Dn W)} {xs ys : ι → List V}
end
section
variable {Ds Es : EnvT W} {ts tu : TS} {te : TE} {xs ys : List V} {i j N : Nat} {ue : List (Nat × UD)} {K : PySem.W.Frag} {zs : List V}
end
end Vf
set_option Elab.async false
set_option linter.all false
set_option maxRecDepth 100000
set_option maxHeartbeats 4000000
set_option pp.maxSteps 300
namespace Vf
open PySem PySem.Spec PyProof.Rows L2
variable {W : Wd}
/-! ### a tuple of the written part -/
/-! ### promises -/
section
variable {n k m : Nat} {A B l fs : List Int} {ts : List (List Int)} {P Q : List Int} {o : Option (List Int)} {K : PySem.W.Frag}
structure EvP (n : Nat) : Prop where
  n2 : 2 ≤ n
  n24 : n ≤ 24
  ev : n % 2 = 0
theorem EvP.half (h : EvP n) : ∃ m, m < 12 ∧ n = 2 * (m + 1) := ⟨n / 2 - 1, by have := h.n2; have := h.n24; omega, by have := h.n2; have := h.ev; omega⟩
structure AllN (l : List Int) : Prop where
  odd : l.length % 2 = 1
  l3 : 3 ≤ l.length
  l25 : l.length ≤ 25
structure MulP (i : List Int × List Int) : Prop where
  a1 : 1 ≤ i.1.length
  a99 : i.1.length ≤ 200
  b1 : 1 ≤ i.2.length
  b99 : i.2.length ≤ 200
  sm : smZ i.1
structure PowP (i : List Int × Nat) : Prop where
  a1 : 1 ≤ i.1.length
  ln : i.2 * (i.1.length - 1) + 1 ≤ 100
  l100 : i.1.length ≤ 200
  sm : ∀ j < i.2, smZ (powZ i.1 j)
  k : i.2 ≤ 1000
theorem PowP.len {j : Nat} (h : PowP (A, k)) (hj : j ≤ k) : 1 ≤ (powZ A j).length ∧ (powZ A j).length ≤ 100 := by
  have ha : 1 ≤ A.length := h.a1
  rw [powZ_len ha]
  have := h.ln
  have h2 : j * (A.length - 1) ≤ k * (A.length - 1) := Nat.mul_le_mul_right _ hj
  have e : (A, k).2 * ((A, k).1.length - 1) = k * (A.length - 1) := rfl
  omega
theorem PowP.step {j : Nat} (h : PowP (A, k)) (hj : j < k) : MulP (powZ A j, A) := by
  have := h.len (Nat.le_of_lt hj)
  exact ⟨this.1, by show (powZ A j).length ≤ 200; omega, h.a1, h.l100, h.sm j hj⟩
def ledZ (l : List Int) (ts : List (List Int)) (step : Nat) : Option (List Int) := if (tkZ ts step l ts.length).2.any (fun x => !decide (x = 0)) = true then none else some (tkZ ts step l ts.length).1
/-- the sum told by its numbers, and back -/
def sumsZ (l : List Int) : Option (List Int) := ledZ l (tabP (l.length - 1)) 2
end
end Vf
set_option Elab.async false
set_option linter.all false
set_option maxRecDepth 100000
set_option maxHeartbeats 4000000
set_option pp.maxSteps 300
namespace Vf
open PySem PySem.Spec PyProof.Rows L2
variable {W : Wd}
section
variable {Ds Es : EnvT W} {cs : List (Nat × List V)} {te tl : TE} {ta : TA} {ts : TS} {i j m m2 n : Nat} {K : PySem.W.Frag} {xs ys : List V} {l l2 : List Int}
end
/-! ### small things -/
def uLD (us : List UD) : UD := ⟨fun W => dLD (uDs us W), fun hD _ _ n ⟨a, xs, e, g, h, o⟩ => ⟨a, xs, e, ⟨g, ne_of_none h n⟩, h, uDs_lift hD n o⟩,
  fun hD _ _ _ ⟨a, xs, e, g, h, o⟩ => ⟨a, xs, e, g, by rw [upd_ne g.2]; exact h, uDs_stay hD o⟩, fun hD _ _ ⟨a, xs, e, g, h, o⟩ => ⟨a, xs, e, g.1, h, uDs_drop hD o⟩⟩
section
variable {Ds Es : EnvT W} {te : TE} {tt : TT} {t : TA} {ts tu : TS} {i j n : Nat} {K : PySem.W.Frag} {xs : List V} {l : List Int} {d : Dn W} {o : Option (List Int)}
end
section
variable {n : Nat} {l : List Int}
theorem tabP_P (h : EvP n) : (tabP n).length = n / 8 + 1 ∧ ∀ t ∈ tabP n, t.length = n + 1 ∧ ∀ x ∈ t, x.natAbs ≤ 4096 := by
  obtain ⟨m, hm, e⟩ := h.half
  subst e
  exact tabP_len m hm
end
end Vf
set_option Elab.async false
set_option linter.all false
set_option maxRecDepth 100000
set_option maxHeartbeats 4000000
set_option pp.maxSteps 300
namespace Vf
open PySem PySem.Spec PyProof.Rows L2
variable {W : Wd}
/-! ### shadow numbers of sums -/
structure ShZP (i : Nat × List Int) : Prop where
  ev : EvP i.1
  ln : i.2.length = i.1 / 8 + 1
  sm : ∀ x ∈ i.2, x.natAbs < 2 ^ 64
/-! the law's own -/
def polyQ (n k : Nat) : List Int := List.replicate (n / 2 - 4 * k) 0 ++ powZ [1, 0, 0, 0, -1] (2 * k) ++ List.replicate (n / 2 - 4 * k) 0
def sgnZ (k : Nat) : Int := 1 - ((2 * (k - k / 2 * 2) : Nat) : Int)
def moreZ (n m : Nat) : Nat := 6 * (m - 1) - n / 2
theorem ext_getD {A B : List Int} {n : Nat} (hA : A.length = n) (hB : B.length = n) (h : ∀ j, j < n → A.getD j 0 = B.getD j 0) : A = B := by
  refine List.ext_getElem? fun j => ?_
  by_cases c : j < n
  · rw [getD_some (l := A) (d := 0) (by omega), getD_some (l := B) (d := 0) (by omega), h j c]
  · rw [List.getElem?_eq_none (by omega), List.getElem?_eq_none (by omega)]
theorem mapD {A : List Int} {f : Int → Int} {j : Nat} (h : j < A.length) : (A.map f).getD j 0 = f (A.getD j 0) := by
  rw [List.getD_eq_getElem?_getD, List.getElem?_map, getD_some (l := A) (d := 0) h]
  rfl
/-! what they are like -/
/-! bounds -/
end Vf
set_option Elab.async false
set_option linter.all false
set_option maxRecDepth 100000
set_option maxHeartbeats 4000000
set_option pp.maxSteps 300
namespace Vf
open PySem PySem.Spec PyProof.Rows L2
variable {W : Wd}
section
variable {Ds : EnvT W} {te ti : TE} {tt : TT} {K : PySem.W.Frag} {l : List Int} {n k a b : Nat} {xs : List V}
end
/-! a list or a tuple, as drawn -/
section
variable {Ds : EnvT W} {te : TE} {b : Bool} {l : List Int} {K : PySem.W.Frag}
end
/-! ### promises of the laws on sums -/
section
variable {p : Addr} {n m k : Nat} {A l : List Int} {b : Bool}
end
end Vf
set_option Elab.async false
set_option linter.all false
set_option maxRecDepth 100000
set_option maxHeartbeats 4000000
set_option pp.maxSteps 300
namespace Vf
open PySem PySem.Spec PyProof.Rows L2
variable {W : Wd}
section
variable {ι : Type} {R : ι → Prop} {f : ι → V} {Ds Es : EnvT W} {cs : List (Nat × List V)} {te ta tb : TE} {ts tu : TS} {i j k m : Nat} {K : PySem.W.Frag} {xs ys : List V} {l : List Int}
end
/-! ### the greatest sums -/
structure FvP (n : Nat) : Prop where
  n8 : 8 ≤ n
  n24 : n ≤ 24
  ev : n % 8 = 0
theorem FvP.even (h : FvP n) : EvP n := ⟨by have := h.n8; omega, h.n24, by have := h.ev; omega⟩
section
variable {n k : Nat} {l : List Int} {p : Addr} {ts : List (List Int)} {st : Nat}
end
end Vf
set_option Elab.async false
set_option linter.all false
set_option maxRecDepth 100000
set_option maxHeartbeats 4000000
set_option pp.maxSteps 300
namespace Vf
open PySem PySem.Spec PyProof.Rows L2
variable {W : Wd}
section
variable {ι : Type} {Pn : ι → Prop} {f : ι → Nat} {P : Int → Prop} {Ds : EnvT W} {te : TE} {t : TA} {tt : TT} {i j : Nat} {K : PySem.W.Frag} {l : List Int} {a m : Int} {xs : List V} {d : Dn W}
end
/-! bounds of what is taken out -/
theorem tkZ_bd {ts : List (List Int)} {step n B : Nat} {L : List Int} (h1 : ∀ t ∈ ts, t.length = n ∧ ∀ x ∈ t, x.natAbs ≤ 1000) (h : L.length = n) (hB : ∀ x ∈ L, x.natAbs ≤ B) : ∀ k, k ≤ ts.length → (∀ x ∈ (tkZ ts step L k).2, x.natAbs ≤ B * 1001 ^ k) ∧ ∀ x ∈ (tkZ ts step L k).1, x.natAbs ≤ B * 1001 ^ k
  | 0, _ => ⟨fun x hx => by rw [Nat.pow_zero, Nat.mul_one]; exact hB x hx, fun x hx => (List.not_mem_nil hx).elim⟩
  | k + 1, hk => by
    obtain ⟨a, b⟩ := tkZ_bd h1 h hB k (by omega)
    have lk := tkZ_len (step := step) (fun t ht => (h1 t ht).1) h k (by omega)
    have tt := h1 (ts.getD k []) (List.mem_of_getElem? (getD_some (by omega)))
    have up : B * 1001 ^ (k + 1) = B * 1001 ^ k + B * 1001 ^ k * 1000 := by rw [Nat.pow_succ, ← Nat.mul_assoc]; omega
    have f : ((tkZ ts step L k).2.getD (step * k) 0).natAbs ≤ B * 1001 ^ k := by
      by_cases c : step * k < (tkZ ts step L k).2.length
      · exact a _ (List.mem_of_getElem? (getD_some c))
      · rw [List.getD_eq_getElem?_getD, List.getElem?_eq_none (by omega)]
        exact Nat.zero_le _
    refine ⟨fun x hx => ?_, fun x hx => ?_⟩
    · have hx : x ∈ List.zipWith (fun x y => x - (tkZ ts step L k).2.getD (step * k) 0 * y) (tkZ ts step L k).2 (ts.getD k []) := hx
      generalize (tkZ ts step L k).2.getD (step * k) 0 = g at hx f
      obtain ⟨j, hj, e⟩ := List.mem_iff_getElem.mp hx
      rw [List.length_zipWith] at hj
      rw [List.getElem_zipWith] at e
      have e1 := a _ (List.getElem_mem (show j < (tkZ ts step L k).2.length by omega))
      have e2 := tt.2 _ (List.getElem_mem (show j < (ts.getD k []).length by omega))
      rw [← e, up]
      generalize (tkZ ts step L k).2[j] = u at e1
      generalize (ts.getD k [])[j] = v at e2
      have e3 : (g * v).natAbs ≤ B * 1001 ^ k * 1000 := by
        rw [Int.natAbs_mul]
        exact Nat.mul_le_mul f e2
      omega
    · have hx : x ∈ (tkZ ts step L k).1 ++ [(tkZ ts step L k).2.getD (step * k) 0] := hx
      rw [up]
      rcases List.mem_append.mp hx with h | h
      · have := b x h
        omega
      · rw [List.mem_singleton.mp h]
        omega
theorem tabP_sm : ∀ m < 12, ∀ t ∈ tabP (2 * (m + 1)), ∀ x ∈ t, x.natAbs ≤ 1000 := by decide +kernel
theorem tabP_1000 {n : Nat} (h : EvP n) : ∀ t ∈ tabP n, ∀ x ∈ t, x.natAbs ≤ 1000 := by
  obtain ⟨m, hm, e⟩ := h.half
  subst e
  exact tabP_sm m hm
theorem sumsZ_F {l f : List Int} {B : Nat} (h : AllN l) (hB : ∀ x ∈ l, x.natAbs ≤ B) (e : sumsZ l = some f) : f.length = (l.length - 1) / 8 + 1 ∧ ∀ x ∈ f, x.natAbs ≤ B * 1001 ^ 4 := by
  have l3 := h.l3
  have l25 := h.l25
  have od := h.odd
  have ev : EvP (l.length - 1) := ⟨by omega, by omega, by omega⟩
  obtain ⟨t1, t2⟩ := tabP_P ev
  unfold sumsZ ledZ at e
  split at e
  · cases e
  · have e := Option.some.inj e
    subst e
    refine ⟨by rw [tkZ_len1, t1], fun x hx => ?_⟩
    have b := (tkZ_bd (step := 2) (n := l.length) (fun t ht => ⟨by have := (t2 t ht).1; omega, tabP_1000 ev t ht⟩) rfl hB (tabP (l.length - 1)).length (Nat.le_refl _)).2 x hx
    refine Nat.le_trans b (Nat.mul_le_mul_left _ (Nat.pow_le_pow_right (by decide) ?_))
    omega
structure CanP (l : List Int) : Prop where
  al : AllN l
  sm : ∀ x ∈ l, x.natAbs ≤ 1000000
theorem CanP.sh {l f : List Int} (h : CanP l) (e : sumsZ l = some f) : ShZP (l.length - 1, f) := by
  obtain ⟨a, b⟩ := sumsZ_F h.al h.sm e
  have l3 := h.al.l3
  have l25 := h.al.l25
  have od := h.al.odd
  exact ⟨⟨by show 2 ≤ l.length - 1; omega, by show l.length - 1 ≤ 24; omega, by show (l.length - 1) % 2 = 0; omega⟩, a, fun x hx => Nat.lt_of_le_of_lt (b x hx) (by decide)⟩
section
variable {l : List Int} {p : Addr} {n m : Nat}
def RowB (n : Nat) (L : List (List Int)) : Prop := ∀ l ∈ L, l.length = n + 1 ∧ ∀ x ∈ l, x.natAbs ≤ 1000000
end
end Vf
set_option Elab.async false
set_option linter.all false
set_option maxRecDepth 100000
set_option maxHeartbeats 4000000
set_option pp.maxSteps 300
namespace Vf
open PySem PySem.Spec PyProof.Rows L2
variable {W : Wd}
section
variable {Ds : EnvT W} {te : TE} {t ta tb : TA} {tu : TS} {i j N : Nat} {K : PySem.W.Frag} {xs ys : List V} {d d1 : Dn W} {cs : List (Nat × List V)} {ι : Type} {R : ι → Prop} {f : ι → V}
end
section
variable {p : Addr} {n m : Nat}
theorem RowB.can {L : List (List Int)} {l : List Int} (ev : EvP n) (h : RowB n L) (hl : l ∈ L) : CanP l := by
  obtain ⟨a, b⟩ := h l hl
  have := ev.n2
  have := ev.n24
  have := ev.ev
  exact ⟨⟨by omega, by omega, by omega⟩, b⟩
end
end Vf
set_option Elab.async false
set_option linter.all false
set_option maxRecDepth 100000
set_option maxHeartbeats 4000000
set_option pp.maxSteps 300
/-! zip of a list and of a list or a tuple -/
namespace Vf
open PySem PySem.Spec PyProof.Rows L2
/-- a list (false) or a tuple (true), and what walks over it -/
def SqK (c : Bool) (h : Heap) (l : Addr) (xs : Array Value) : Prop := match c with | false => h.IsList l xs | true => h.IsTuple l xs
def ItK (c : Bool) (h : Heap) (a l : Addr) (k : Nat) : Prop := match c with | false => h.IsListIter a l k | true => h.IsTupleIter a l k
theorem SqK.at {c : Bool} {h h' : Heap} {l : Addr} {xs : Array Value} (x : SqK c h l xs) (e : ∀ o, h.get? l = some o → h'.get? l = some o) : SqK c h' l xs := by
  cases c with
  | false => exact let ⟨o, ho, r⟩ := x; ⟨o, e o ho, r⟩
  | true => exact let ⟨o, ho, r⟩ := x; ⟨o, e o ho, r⟩
theorem ItK.at {c : Bool} {h h' : Heap} {a l : Addr} {k : Nat} (x : ItK c h a l k) (e : ∀ o, h.get? a = some o → h'.get? a = some o) : ItK c h' a l k := by
  cases c with
  | false => exact Heap.IsListIter.at x e
  | true => exact Heap.IsTupleIter.at x e
theorem ItK.obj {c : Bool} {h : Heap} {a l : Addr} {k : Nat} (x : ItK c h a l k) : ∃ o f, h.get? a = some o ∧ o.data = .fields f := by
  cases c with
  | false => obtain ⟨o, ho, _, hd⟩ := (show h.IsListIter a l k from x); exact ⟨o, _, ho, hd⟩
  | true => obtain ⟨o, ho, _, hd⟩ := (show h.IsTupleIter a l k from x); exact ⟨o, _, ho, hd⟩
theorem SqK.lt {c : Bool} {h : Heap} {l : Addr} {xs : Array Value} (x : SqK c h l xs) : l < h.objs.size := by
  cases c with
  | false => exact let ⟨_, ho, _⟩ := (show h.IsList l xs from x); Heap.lt_size ho
  | true => exact let ⟨_, ho, _⟩ := (show h.IsTuple l xs from x); Heap.lt_size ho
section
variable {prog : Program} {w : World} {A : Around} {E : Value → Shared → Prop} {s : Shared} {c1 c2 : Bool} {z TI TO i1 i2 l1 l2 : Addr} {k1 k2 : Nat} {xs ys : Array Value} {x y a b : Value}
/-- what a turn leaves alone -/
def KeepZ (z TO i1 i2 : Addr) (h h' : Heap) : Prop := ∀ c o, c ≠ z → c ≠ TO → c ≠ i1 → c ≠ i2 → h.get? c = some o → h'.get? c = some o
theorem KeepZ.trans {h h' h'' : Heap} (p : KeepZ z TO i1 i2 h h') (q : KeepZ z TO i1 i2 h' h'') : KeepZ z TO i1 i2 h h'' := fun c o a1 a2 a3 a4 e => q c o a1 a2 a3 a4 (p c o a1 a2 a3 a4 e)
end
end Vf
set_option Elab.async false
set_option linter.all false
set_option maxRecDepth 100000
set_option maxHeartbeats 4000000
set_option pp.maxSteps 300
namespace Vf
open PySem PySem.Spec PyProof.Rows L2
/-! zip(list, tuple) called -/
section
variable {prog : Program} {w : World} {A : Around} {E : Value → Shared → Prop} {s : Shared}
end
/-! the walk -/
end Vf
set_option Elab.async false
set_option linter.all false
set_option maxRecDepth 100000
set_option maxHeartbeats 400000
set_option pp.maxSteps 300
namespace Vf
open PySem PySem.Spec PyProof.Rows L2
/-! the loop -/
section
variable {W : Wd} {Ds : EnvT W} {ts : TS} {cs : List (Nat × List V)} {i j m m2 : Nat} {K : PySem.W.Frag} {ys : List V}
end
end Vf
set_option Elab.async false
set_option linter.all false
set_option maxRecDepth 100000
set_option maxHeartbeats 4000000
set_option pp.maxSteps 300
namespace Vf
open PySem PySem.Spec PyProof.Rows L2
/-! what is taken out of a sum are its numbers -/
theorem adZ_getD {n j : Nat} {ts : List (List Int)} {fs tot : List Int} (h1 : ∀ t ∈ ts, t.length = n) (h : tot.length = n) (hj : j < n) : (adZ ts fs tot).getD j 0 = tot.getD j 0 + dotZ ts fs j := by
  rw [adZ_at h1 h, map_getD hj]
theorem zeros_getD (n j : Nat) : (List.replicate n (0 : Int)).getD j 0 = 0 := by
  rw [List.getD_eq_getElem?_getD, List.getElem?_replicate]
  split <;> rfl
theorem dot_lin {g : Int} : ∀ {ts : List (List Int)} {l m : List Int} {j : Nat}, l.length = m.length → dotZ ts (List.zipWith (fun x y => x + g * y) l m) j = dotZ ts l j + g * dotZ ts m j
  | [], l, m, j, _ => by
    show (0 : Int) = 0 + g * 0
    omega
  | t :: ts, [], [], j, _ => by
    show (0 : Int) = 0 + g * 0
    omega
  | t :: ts, x :: l, y :: m, j, h => by
    show (x + g * y) * t.getD j 0 + dotZ ts (List.zipWith (fun x y => x + g * y) l m) j = x * t.getD j 0 + dotZ ts l j + g * (y * t.getD j 0 + dotZ ts m j)
    rw [dot_lin (Nat.succ.inj h), Int.add_mul, Int.mul_add, Int.mul_assoc]
    generalize g * (y * t.getD j 0) = u
    omega
  | _ :: _, [], _ :: _, _, h => by cases h
  | _ :: _, _ :: _, [], _, h => by cases h
theorem adZ_lin {ts : List (List Int)} {l m : List Int} {n : Nat} {g : Int} (h1 : ∀ t ∈ ts, t.length = n) (h : l.length = m.length) :
    adZ ts (List.zipWith (fun x y => x + g * y) l m) (List.replicate n 0) = List.zipWith (fun x y => x + g * y) (adZ ts l (List.replicate n 0)) (adZ ts m (List.replicate n 0)) := by
  have z := List.length_replicate (n := n) (a := (0 : Int))
  rw [zw_at (adZ_len h1 z) (adZ_len h1 z), adZ_at h1 z]
  refine List.map_congr_left fun j hj => ?_
  have hj := List.mem_range.mp hj
  rw [adZ_getD h1 z hj, adZ_getD h1 z hj, zeros_getD, dot_lin h]
  rw [Int.zero_add, Int.zero_add, Int.zero_add]
/-! the promises, the numbers a list or a tuple -/
section
variable {W : Wd} {n : Nat} {l fs : List Int} {ts : List (List Int)} {K : PySem.W.Frag} {b : Bool} {te : TE} {Ds : EnvT W} {t : TA} {p : Addr}
end
end Vf
set_option Elab.async false
set_option linter.all false
set_option maxRecDepth 100000
set_option maxHeartbeats 4000000
set_option pp.maxSteps 300
namespace Vf
open PySem PySem.Spec PyProof.Rows L2
/-! sums by fours -/
structure AllF (l : List Int) : Prop where
  fv : FvP (l.length - 1)
  ln : l.length = l.length - 1 + 1
theorem AllF.of {n : Nat} {l : List Int} (h : FvP n) (hl : l.length = n + 1) : AllF l := ⟨by rw [hl, Nat.add_sub_cancel]; exact h, by omega⟩
section
variable {W : Wd} {K : PySem.W.Frag} {l : List Int} {n : Nat}
end
end Vf
set_option Elab.async false
set_option linter.all false
set_option maxRecDepth 100000
set_option maxHeartbeats 4000000
set_option pp.maxSteps 300
namespace Vf
open PySem PySem.Spec PyProof.Rows L2
/-! shadow numbers that are whole, and back -/
/-! changed rows of whole sums -/
def chgT (n : Nat) : List (List Int) := (List.range (n + 1)).map fun k => mulZ (powZ [1, 1] (n - k)) (powZ [1, -1] k)
theorem chg_ok : ∀ n < 25, (chgT n).length = n + 1 ∧ ∀ t ∈ chgT n, t.length = n + 1 ∧ smZ t := by decide +kernel
end Vf
set_option Elab.async false
set_option linter.all false
set_option maxRecDepth 100000
set_option maxHeartbeats 4000000
set_option pp.maxSteps 300
namespace Vf
open PySem PySem.Spec PyProof.Rows L2
variable {W : Wd}
section
variable {ι : Type} {P : ι → Prop} {i N j k : Nat} {ue : List (Nat × UD)} {us : List UD} {ta tb : TE}
end
/-! changed rows, by linear steps -/
def chgZ (n : Nat) (L : List Int) : List Int := adZ (chgT n) L (List.replicate (n + 1) 0)
/-! promises -/
section
variable {n k : Nat} {l L : List Int} {p : Addr}
end
end Vf
set_option Elab.async false
set_option linter.all false
set_option maxRecDepth 100000
set_option maxHeartbeats 4000000
set_option pp.maxSteps 300
namespace Vf
open PySem PySem.Spec PyProof.Rows L2
variable {W : Wd}
/-! the drawn ones -/
/-! which are not nought -/
def nz (l : List Int) : List Nat := (List.range l.length).filter fun k => !decide (l.getD k 0 = 0)
end Vf
set_option Elab.async false
set_option linter.all false
set_option maxRecDepth 100000
set_option maxHeartbeats 4000000
set_option pp.maxSteps 300
namespace Vf
open PySem PySem.Spec PyProof.Rows L2
/-! a row that is changed to itself is a whole sum of products -/
def spread : List Int → List Int
  | [] => []
  | [x] => [x]
  | x :: y :: l => x :: 0 :: spread (y :: l)
def dotV : List Int → List Int → Int
  | x :: a, y :: b => x * y + dotV a b
  | _, _ => 0
/-- what the table tells: with these factors all the other numbers go -/
def glV (n : Nat) (C : List Int) : List Int := List.zipWith (fun x y => x - ((2 ^ (n / 2) : Nat) : Int) * y) ((chgT n).map (dotV C)) C
def GlP (n i : Nat) (D : Int) (C : List Int) : Prop := ∀ k < n + 1, k % 2 = 0 → 2 * (n / 8) < k → (glV n C).getD k 0 = if k = 2 * (n / 8 + 1 + i) then D else 0
instance (n i : Nat) (D : Int) (C : List Int) : Decidable (GlP n i D C) := inferInstanceAs (Decidable (∀ k < n + 1, k % 2 = 0 → 2 * (n / 8) < k → (glV n C).getD k 0 = if k = 2 * (n / 8 + 1 + i) then D else 0))
def GlQ (n i : Nat) (p : Int × List Int) : Prop := 0 < p.1 ∧ (spread p.2).length = n + 1 ∧ GlP n i p.1 (spread p.2)
instance (n i : Nat) (p : Int × List Int) : Decidable (GlQ n i p) := inferInstanceAs (Decidable (_ ∧ _ ∧ _))
end Vf
set_option Elab.async false
set_option linter.all false
set_option maxRecDepth 100000
set_option maxHeartbeats 4000000
set_option pp.maxSteps 300
namespace Vf
open PySem PySem.Spec PyProof.Rows L2
structure SelfR (n : Nat) (r : List Int) : Prop where
  ln : r.length = n + 1
  odd : ∀ k, k % 2 = 1 → r.getD k 0 = 0
  chg : chgZ n r = r.map (((2 ^ (n / 2) : Nat) : Int) * ·)
theorem SelfR.sub {n : Nat} {A B : List Int} {f : Int} (h : EvP n) (ha : SelfR n A) (hb : SelfR n B) : SelfR n (List.zipWith (fun x y => x - f * y) A B) := by
  have n24 := h.n24
  obtain ⟨c1, c2⟩ := chg_ok n (by omega)
  have cl : ∀ t ∈ chgT n, t.length = n + 1 := fun t ht => (c2 t ht).1
  have e : (fun x y : Int => x - f * y) = fun x y => x + -f * y := funext fun x => funext fun y => by rw [Int.neg_mul]; rfl
  have lz : (List.zipWith (fun x y => x - f * y) A B).length = n + 1 := by rw [List.length_zipWith, ha.ln, hb.ln, Nat.min_self]
  refine ⟨lz, fun k hk => ?_, ?_⟩
  · by_cases c : k < n + 1
    · rw [zw_at ha.ln hb.ln, map_getD c, ha.odd k hk, hb.odd k hk]
      omega
    · rw [List.getD_eq_getElem?_getD, List.getElem?_eq_none (by omega)]
      rfl
  · have ca := ha.chg
    have cb := hb.chg
    unfold chgZ at ca cb ⊢
    rw [e, adZ_lin cl (ha.ln.trans hb.ln.symm), ca, cb, ← e]
    refine ext_getD (n := n + 1) (by rw [List.length_zipWith, List.length_map, List.length_map, ha.ln, hb.ln, Nat.min_self]) (by rw [List.length_map, lz]) fun j hj => ?_
    rw [zw_at (by rw [List.length_map, ha.ln]) (by rw [List.length_map, hb.ln]), map_getD hj, mapD (by rw [ha.ln]; exact hj), mapD (by rw [hb.ln]; exact hj), mapD (by rw [lz]; exact hj), zw_at ha.ln hb.ln, map_getD hj, Int.mul_sub, Int.mul_left_comm]
/-! ### products of polynomials, by sums -/
def dF : List Int → (Nat → Int) → Int
  | [], _ => 0
  | x :: l, c => x * c 0 + dF l fun k => c (k + 1)
theorem dF_congr : ∀ {l : List Int} {c d : Nat → Int}, (∀ k < l.length, c k = d k) → dF l c = dF l d
  | [], _, _, _ => rfl
  | x :: l, c, d, h => by
    show x * c 0 + dF l _ = x * d 0 + dF l _
    rw [h 0 (Nat.zero_lt_succ _), dF_congr fun k hk => h (k + 1) (Nat.succ_lt_succ hk)]
theorem dF_zero : ∀ {l : List Int} {c : Nat → Int}, (∀ k < l.length, c k = 0) → dF l c = 0
  | [], _, _ => rfl
  | x :: l, c, h => by
    show x * c 0 + dF l _ = 0
    rw [h 0 (Nat.zero_lt_succ _), dF_zero fun k hk => h (k + 1) (Nat.succ_lt_succ hk)]
    omega
theorem dF_mul {g : Int} : ∀ {l : List Int} {c : Nat → Int}, dF l (fun k => g * c k) = g * dF l c
  | [], _ => by
    show (0 : Int) = g * 0
    omega
  | x :: l, c => by
    show x * (g * c 0) + dF l (fun k => g * c (k + 1)) = g * (x * c 0 + dF l _)
    rw [dF_mul, Int.mul_add, Int.mul_left_comm]
theorem dF_null : ∀ {l : List Int} {c : Nat → Int}, (∀ x ∈ l, x = 0) → dF l c = 0
  | [], _, _ => rfl
  | x :: l, c, h => by
    show x * c 0 + dF l _ = 0
    rw [h x (List.mem_cons_self ..), dF_null fun y hy => h y (List.mem_cons_of_mem _ hy)]
    omega
theorem dF_set : ∀ {l : List Int} {a : Nat} {v : Int} {c : Nat → Int}, a < l.length → dF (l.set a v) c = dF l c + (v - l.getD a 0) * c a
  | [], a, v, c, h => absurd h (Nat.not_lt_zero _)
  | x :: l, 0, v, c, h => by
    show v * c 0 + dF l _ = x * c 0 + dF l _ + (v - x) * c 0
    rw [Int.sub_mul]
    omega
  | x :: l, a + 1, v, c, h => by
    show x * c 0 + dF (l.set a v) _ = x * c 0 + dF l _ + (v - l.getD a 0) * c (a + 1)
    rw [dF_set (Nat.lt_of_succ_lt_succ h)]
    omega
theorem dF_inZ (x : Int) : ∀ {B : List Int} {a : Nat} {L : List Int} {c : Nat → Int}, a + B.length ≤ L.length → dF (inZ x a L B) c = dF L c + x * dF B fun k => c (a + k)
  | [], a, L, c, _ => by
    show dF L c = dF L c + x * 0
    omega
  | b :: B, a, L, c, h => by
    rw [List.length_cons] at h
    show dF (inZ x (a + 1) (L.set a (L.getD a 0 + x * b)) B) c = dF L c + x * (b * c a + dF B fun k => c (a + (k + 1)))
    rw [dF_inZ x (by rw [List.length_set]; omega), dF_set (by omega), Int.mul_add, show L.getD a 0 + x * b - L.getD a 0 = x * b by omega, Int.mul_assoc, show (fun k => c (a + 1 + k)) = fun k => c (a + (k + 1)) from funext fun k => by rw [Nat.add_assoc, Nat.add_comm 1 k]]
    omega
theorem dF_outZ {B : List Int} : ∀ {A : List Int} {a : Nat} {L : List Int} {c : Nat → Int}, a + A.length + B.length ≤ L.length + 1 → dF (outZ B a L A) c = dF L c + dF A fun i => dF B fun j => c (a + i + j)
  | [], a, L, c, _ => by
    show dF L c = dF L c + 0
    omega
  | x :: A, a, L, c, h => by
    rw [List.length_cons] at h
    show dF (outZ B (a + 1) (inZ x a L B) A) c = dF L c + (x * (dF B fun j => c (a + 0 + j)) + dF A fun i => dF B fun j => c (a + (i + 1) + j))
    rw [dF_outZ (by rw [inZ_len]; omega), dF_inZ x (by omega), show (fun i => dF B fun j => c (a + 1 + i + j)) = fun i => dF B fun j => c (a + (i + 1) + j) from funext fun i => congrArg (dF B) (funext fun j => by rw [Nat.add_assoc a 1 i, Nat.add_comm 1 i])]
    simp only [Nat.add_zero]
    omega
theorem dF_zeros (n : Nat) (c : Nat → Int) : dF (List.replicate n 0) c = 0 := dF_null fun x hx => List.eq_of_mem_replicate hx
theorem dF_mulZ {A B : List Int} {c : Nat → Int} : dF (mulZ A B) c = dF A fun i => dF B fun j => c (i + j) := by
  unfold mulZ
  by_cases h : A.length + B.length = 0
  · have a : A = [] := List.length_eq_zero_iff.mp (by omega)
    subst a
    exact dF_zeros _ _
  · rw [dF_outZ (by rw [List.length_replicate]; omega), dF_zeros, Int.zero_add]
    simp only [Nat.zero_add]
def dl (t k : Nat) : Int := if k = t then 1 else 0
theorem dF_at : ∀ {l : List Int} {t : Nat}, dF l (dl t) = l.getD t 0
  | [], _ => rfl
  | x :: l, 0 => by
    show x * dl 0 0 + dF l _ = x
    rw [dF_zero (c := fun k => dl 0 (k + 1)) fun k _ => if_neg (Nat.succ_ne_zero k), show dl 0 0 = 1 from rfl]
    omega
  | x :: l, t + 1 => by
    show x * dl (t + 1) 0 + dF l (fun k => dl (t + 1) (k + 1)) = l.getD t 0
    rw [show (fun k => dl (t + 1) (k + 1)) = dl t from funext fun k => by
      unfold dl
      by_cases h : k = t
      · rw [if_pos h, if_pos (congrArg Nat.succ h)]
      · rw [if_neg h, if_neg fun z => h (Nat.succ.inj z)], dF_at, show dl (t + 1) 0 = 0 from rfl]
    omega
theorem mulZ_at {A B : List Int} {t : Nat} : (mulZ A B).getD t 0 = dF A fun i => dF B fun j => dl t (i + j) := by
  rw [← dF_at, dF_mulZ]
end Vf
set_option Elab.async false
set_option linter.all false
set_option maxRecDepth 100000
set_option maxHeartbeats 4000000
set_option pp.maxSteps 300
namespace Vf
open PySem PySem.Spec PyProof.Rows L2
end Vf
set_option Elab.async false
set_option linter.all false
set_option maxRecDepth 100000
set_option maxHeartbeats 4000000
set_option pp.maxSteps 300
namespace Vf
open PySem PySem.Spec PyProof.Rows L2
end Vf
set_option Elab.async false
set_option linter.all false
set_option maxRecDepth 100000
set_option maxHeartbeats 4000000
set_option pp.maxSteps 300
namespace Vf
open PySem PySem.Spec PyProof.Rows L2
/-! the shadow row by the row -/
end Vf
set_option Elab.async false
set_option linter.all false
set_option maxRecDepth 100000
set_option maxHeartbeats 4000000
set_option pp.maxSteps 300
namespace Vf
open PySem PySem.Spec PyProof.Rows L2
section
variable {n j : Nat} {B : List Nat}
end
end Vf
set_option Elab.async false
set_option linter.all false
set_option maxRecDepth 100000
set_option maxHeartbeats 4000000
set_option pp.maxSteps 300
namespace Vf
open PySem PySem.Spec PyProof.Rows L2
variable {W : Wd}
/-! kinds as texts -/
def kS (k : Nat) : Str := if k = 2 then "2" else if k = 8 then "8" else "c"
section
variable {p : Addr}
end
end Vf
set_option Elab.async false
set_option linter.all false
set_option maxRecDepth 100000
set_option maxHeartbeats 4000000
set_option pp.maxSteps 300
namespace Vf
open PySem PySem.Spec PyProof.Rows L2
variable {W : Wd}
section
variable {ι : Type} {P : ι → Prop} {f : ι → List V} {N i j : Nat} {ue : List (Nat × UD)} {cs : List (Nat × List V)} {te : TE} {ts : TS} {K : PySem.W.Frag}
end
/-! the words by fours -/
section
variable {n j : Nat} {B L : List Nat}
def f4 (L : List Nat) : List Nat := L.filter fun v => decide (pc v % 4 = 0)
abbrev iz (l : List Nat) : List Int := l.map fun x : Nat => (x : Int)
theorem iz_sum : ∀ l : List Nat, (iz l).sum = ((l.sum : Nat) : Int)
  | [] => rfl
  | x :: l => by
    show (x : Int) + (iz l).sum = _
    rw [iz_sum l, List.sum_cons]
    omega
end
section
variable {n : Nat} {B : List Nat} {p : Addr} {C : Addr}
end
end Vf
set_option Elab.async false
set_option linter.all false
set_option maxRecDepth 100000
set_option maxHeartbeats 4000000
set_option pp.maxSteps 300
namespace Vf
open PySem PySem.Spec PyProof.Rows L2
end Vf
set_option Elab.async false
set_option linter.all false
set_option maxRecDepth 100000
set_option maxHeartbeats 4000000
set_option pp.maxSteps 300
namespace Vf
open PySem PySem.Spec PyProof.Rows L2
end Vf
set_option Elab.async false
set_option linter.all false
set_option maxRecDepth 100000
set_option maxHeartbeats 4000000
set_option pp.maxSteps 300
namespace Vf
open PySem PySem.Spec PyProof.Rows L2
variable {W : Wd}
section
variable {n m : Nat} {A B : List Nat} {w l : List Int}
end
section
variable {n : Nat} {B : List Nat} {p : Addr} {C : Addr}
end
end Vf
set_option Elab.async false
set_option linter.all false
set_option maxRecDepth 100000
set_option maxHeartbeats 4000000
set_option pp.maxSteps 300
namespace Vf
open PySem PySem.Spec PyProof.Rows L2
/-! ### products cut off: power series -/
def cutM (m : Nat) (A B : List Int) : List Int := (mulZ A B).take (m + 1)
/-! numbers not below nought, their sum known -/
structure NnB (l : List Int) (b : Int) : Prop where
  nn : ∀ x ∈ l, 0 ≤ x
  sm : l.sum ≤ b
theorem dF_one : ∀ l : List Int, (dF l fun _ => 1) = l.sum
  | [] => rfl
  | x :: l => by
    show x * 1 + dF l (fun _ => 1) = x + l.sum
    rw [dF_one l]
    omega
theorem dF_nn : ∀ {l : List Int} {c : Nat → Int}, (∀ x ∈ l, 0 ≤ x) → (∀ k, 0 ≤ c k) → 0 ≤ dF l c
  | [], _, _, _ => Int.le_refl 0
  | x :: l, c, h, h2 => by
    show 0 ≤ x * c 0 + dF l _
    have a := Int.mul_nonneg (h x (List.mem_cons_self ..)) (h2 0)
    have b := dF_nn (l := l) (c := fun k => c (k + 1)) (fun y hy => h y (List.mem_cons_of_mem _ hy)) fun k => h2 (k + 1)
    omega
theorem sum_nn {l : List Int} (h : ∀ x ∈ l, 0 ≤ x) : 0 ≤ l.sum := by
  rw [← dF_one]
  exact dF_nn h fun _ => by omega
theorem sum_mulZ (A B : List Int) : (mulZ A B).sum = A.sum * B.sum := by
  rw [← dF_one, dF_mulZ]
  show (dF A fun _ => dF B fun _ => 1) = _
  rw [dF_one B, ← dF_one A, Int.mul_comm, ← dF_mul]
  exact dF_congr fun _ _ => (Int.mul_one _).symm
theorem mem_getD {l : List Int} {x : Int} (h : x ∈ l) : ∃ t, t < l.length ∧ l.getD t 0 = x := by
  obtain ⟨t, ht, e⟩ := List.mem_iff_getElem.mp h
  exact ⟨t, ht, by rw [List.getD_eq_getElem?_getD, List.getElem?_eq_getElem ht, e]; rfl⟩
theorem NnB.mul {A B : List Int} {a b : Int} (hA : NnB A a) (hB : NnB B b) : NnB (mulZ A B) (a * b) := by
  refine ⟨fun x hx => ?_, ?_⟩
  · obtain ⟨t, _, e⟩ := mem_getD hx
    rw [← e, mulZ_at]
    refine dF_nn hA.nn fun i => dF_nn hB.nn fun j => ?_
    unfold dl
    split <;> omega
  · rw [sum_mulZ]
    have s1 := sum_nn hA.nn
    have s2 := sum_nn hB.nn
    have := hA.sm
    have := hB.sm
    exact Int.mul_le_mul ‹_› ‹_› s2 (by omega)
theorem NnB.take {b : Int} : ∀ {l : List Int} {k : Nat}, NnB l b → NnB (l.take k) b
  | l, 0, h => ⟨fun x hx => by simp at hx, by
      have := sum_nn h.nn
      have := h.sm
      show (0 : Int) ≤ b
      omega⟩
  | [], k + 1, h => h
  | x :: l, k + 1, h => by
    have hx := h.nn x (List.mem_cons_self ..)
    have hl : NnB l (b - x) := ⟨fun y hy => h.nn y (List.mem_cons_of_mem _ hy), by have := h.sm; rw [List.sum_cons] at this; omega⟩
    have r := NnB.take (k := k) hl
    refine ⟨fun y hy => ?_, ?_⟩
    · rcases List.mem_cons.mp hy with rfl | hy
      · exact hx
      · exact r.nn y hy
    · show (x :: l.take k).sum ≤ b
      rw [List.sum_cons]
      have := r.sm
      omega
theorem NnB.cut {A B : List Int} {a b : Int} {m : Nat} (hA : NnB A a) (hB : NnB B b) : NnB (cutM m A B) (a * b) := (hA.mul hB).take
theorem NnB.mem {b : Int} : ∀ {l : List Int}, NnB l b → ∀ x ∈ l, 0 ≤ x ∧ x ≤ b
  | [], _, x, hx => absurd hx (List.not_mem_nil)
  | y :: l, h, x, hx => by
    have hy := h.nn y (List.mem_cons_self ..)
    have s := h.sm
    rw [List.sum_cons] at s
    have hl : ∀ z ∈ l, 0 ≤ z := fun z hz => h.nn z (List.mem_cons_of_mem _ hz)
    have sl := sum_nn hl
    rcases List.mem_cons.mp hx with rfl | hx
    · exact ⟨hy, by omega⟩
    · have := NnB.mem (b := b) ⟨hl, by omega⟩ x hx
      exact this
section
variable {n m a t : Nat} {L : List Int}
/-! where they stand -/
end
/-! the law's own -/
end Vf
set_option Elab.async false
set_option linter.all false
set_option maxRecDepth 100000
set_option maxHeartbeats 4000000
set_option pp.maxSteps 300
namespace Vf
open PySem PySem.Spec PyProof.Rows L2
variable {W : Wd}
section
variable {Ds Es Fs : EnvT W} {d : Dn W} {ds : List (Dn W)} {te ta tb : TE} {t : TA} {tt : TT} {ts tu : TS} {i j l k n N : Nat} {K : PySem.W.Frag} {ue : List (Nat × UD)} {cs cs1 cs2 : List (Nat × List V)}
/-! values laid at some places at once -/
end
/-! promises -/
section
variable {n m f many : Nat} {L ways A B : List Int} {R : List Nat} {C : Addr} {p : Addr} {K : PySem.W.Frag}
end
/-! steps of the rooms told -/
end Vf
set_option Elab.async false
set_option linter.all false
set_option maxRecDepth 100000
set_option maxHeartbeats 4000000
set_option pp.maxSteps 300
namespace Vf
open PySem PySem.Spec PyProof.Rows L2
variable {W : Wd}
section
variable {Ds : EnvT W} {ta tb : TE} {tu : TS} {d d1 d2 : Dn W} {ds : List (Dn W)} {xs ys : List V} {i j n : Nat} {K : PySem.W.Frag}
end
theorem pe_cal0 {X : Cx} {k : Nat} {ps : List Str} {dvs : List V} {sp : Sp} {x : Str} {p pos : Pos} (C : Cal X.prog X.w X.K X.mg X.base x k ps dvs sp) (hr : Room k X.A) (hg : Gl X x)
    (hdb : (x == ("__debug__" : Str)) = false := by decide) : PE X (.Call (.Name x p) [] [] pos) (tCall sp dvs E0 tNil) := by
  obtain ⟨f, fd, ds, F, gm, kp, b, hv⟩ := C
  exact pe_call0 F hr hg gm kp b hv pass0 hdb
section
variable {n m : Nat} {ws L : List Nat} {s : Nat}
end
end Vf
set_option Elab.async false
set_option linter.all false
set_option maxRecDepth 100000
set_option maxHeartbeats 4000000
set_option pp.maxSteps 300
namespace Vf
open PySem PySem.Spec PyProof.Rows L2
/-! ### products commute -/
section
variable {n m a p q t M : Nat}
end
/-! all lists, by their squares -/
end Vf
set_option Elab.async false
set_option linter.all false
set_option maxRecDepth 100000
set_option maxHeartbeats 4000000
set_option pp.maxSteps 300
namespace Vf
open PySem PySem.Spec PyProof.Rows L2
variable {W : Wd}
section
variable {Ds Es : EnvT W} {te ta tb tc tl : TE} {ta' : TA} {ts tu : TS} {i j m m2 n : Nat} {K : PySem.W.Frag} {xs ys : List V} {l l2 : List Int} {d d1 : Dn W}
end
section
variable {Ds Es : EnvT W} {te tl : TE} {ta : TA} {ts : TS} {i j m m2 n : Nat} {K : PySem.W.Frag} {xs ys : List V} {l l2 : List Int}
end
/-! lists of halves, their odd places -/
def oddW (l : List Int) : Nat := (((List.range l.length).filter fun k => decide (l.getD k 0 % 2 = 1)).map (2 ^ ·)).sum
structure Lp (n w : Nat) (l : List Int) : Prop where
  ln : l.length = n
  bit : ∀ k < n, l.getD k 0 % 2 = if w.testBit k = true then 1 else 0
section
variable {n w w1 w2 : Nat} {l l1 l2 : List Int}
theorem Lp.odd (h : Lp n w l) (hw : w < 2 ^ n) : oddW l = w := by
  refine Nat.eq_of_testBit_eq fun k => ?_
  unfold oddW
  rw [sumPow_bit (List.nodup_range.filter _), h.ln]
  by_cases c : k < n
  · have b := h.bit k c
    rw [Bool.eq_iff_iff, decide_eq_true_iff, List.mem_filter, List.mem_range, decide_eq_true_iff]
    by_cases t : w.testBit k = true
    · rw [if_pos t] at b
      exact ⟨fun _ => t, fun _ => ⟨c, b⟩⟩
    · rw [if_neg t] at b
      exact ⟨fun ⟨_, z⟩ => by omega, fun z => absurd z t⟩
  · rw [Nat.testBit_lt_two_pow (Nat.lt_of_lt_of_le hw (pw_le (by omega))), decide_eq_false fun z => c (List.mem_range.mp (List.mem_filter.mp z).1)]
theorem Lp.zip {g : Int → Int → Int} (h1 : Lp n w1 l1) (h2 : Lp n w2 l2) (hg : ∀ x y : Int, g x y % 2 = (x + y) % 2) : Lp n (w1 ^^^ w2) (List.zipWith g l1 l2) := by
  refine ⟨by rw [List.length_zipWith, h1.ln, h2.ln, Nat.min_self], fun k hk => ?_⟩
  rw [zw_at h1.ln h2.ln, map_getD hk, hg, Nat.testBit_xor]
  have a := h1.bit k hk
  have b := h2.bit k hk
  generalize l1.getD k 0 = x at a ⊢
  generalize l2.getD k 0 = y at b ⊢
  cases h3 : w1.testBit k <;> cases h4 : w2.testBit k <;> rw [h3] at a <;> rw [h4] at b <;> simp at a b ⊢ <;> omega
theorem Lp.zero {l : List Int} (hl : l.length = n) (h : ∀ x ∈ l, x % 2 = 0) : Lp n 0 l := ⟨hl, fun k hk => by
  rw [Nat.zero_testBit, if_neg (by decide)]
  exact h _ (List.mem_of_getElem? (getD_some (l := l) (d := 0) (by omega)))⟩
end
/-! promises -/
section
variable {n m w : Nat} {ws B : List Nat} {l : List Int} {p C : Addr} {b : Bool}
end
end Vf
set_option Elab.async false
set_option linter.all false
set_option maxRecDepth 100000
set_option maxHeartbeats 4000000
set_option pp.maxSteps 300
namespace Vf
open PySem PySem.Spec PyProof.Rows L2
variable {W : Wd}
section
variable {n : Nat} {ws : List Nat}
end
end Vf
set_option Elab.async false
set_option linter.all false
set_option maxRecDepth 100000
set_option maxHeartbeats 4000000
set_option pp.maxSteps 300
namespace Vf
open PySem PySem.Spec PyProof.Rows L2
variable {W : Wd}
section
variable {Ds Es : EnvT W} {d d1 : Dn W} {ds : List (Dn W)} {te ta tb tl : TE} {t : TA} {tt : TT} {ts tu : TS} {i j l k n N : Nat} {K : PySem.W.Frag} {ue : List (Nat × UD)} {cs : List (Nat × List V)} {xs ys : List V}
end
section
variable {ι κ : Type} {i N j m n M : Nat} {ue : List (Nat × UD)} {us vs : List UD} {ts tu : TS} {te tl : TE} {ta : TA} {tt : TT} {K : PySem.W.Frag} {d : Dn W} {E : ι → List (Nat × UD)} {R : ι → List UD} {P : ι → Prop}
/-- a growing list, longer by a list of things -/
theorem ng_extend (h : ∀ W', Wle W W' → EV (uEnv N ue W') te (dLD (uDs vs W'))) (z : us.length + vs.length ≤ 100000) : NVG W i N ue us (tDrop (tBM K "list" rExtend (tVar i) (tCons te tNil))) (fun _ : Unit => ue) (fun _ => us ++ vs) (fun _ => True) := fun D σ H p fp s q => by
  obtain ⟨ys0, hy0, _⟩ := s.ct
  refine ⟨.ref p, s.slot, .inl ⟨rfl, _, SqL.of hy0⟩, h _ (away_le fp) σ H _ s.ainv s.env fun v H1 l1 ⟨a, zs, e, ga, ha, oz⟩ => ?_⟩
  subst e
  obtain ⟨s1, l2⟩ := s.go l1
  obtain ⟨xs, hp, ok⟩ := s1.ct
  have lx := ok.length
  have lz := oz.length
  unfold uDs at lx lz
  rw [List.length_map] at lx lz
  have iv1 : (awayW W p fp).inv H1 := s1.ainv
  refine ⟨p, a, xs, zs, rfl, rfl, hp, ha, Nat.le_of_lt (sl_lt (by omega)), q () _ _ trivial ⟨s1.slot, ⟨xs ++ zs, upd_same, ?_⟩, ?_, ?_⟩ ?_⟩
  · have e2 : uDs (us ++ vs) (awayW W p fp) = uDs us (awayW W p fp) ++ uDs vs (awayW W p fp) := by
      unfold uDs
      rw [List.map_append]
    rw [e2]
    exact OkL.app (uDs_stay fp ok) (uDs_stay fp oz)
  · have iv2 := W.delI fp s1.inv
    have l3 : W.L (del p H1) (upd H1 p (.lst (xs ++ zs))) := by
      have := W.put0 (o := .lst (xs ++ zs)) iv2 (del_same (p := p) (H := H1))
      rwa [show upd (del p H1) p (HO.lst (xs ++ zs)) = upd H1 p (.lst (xs ++ zs)) from by
        funext b
        by_cases c : b = p
        · rw [c, upd_same, upd_same]
        · rw [upd_ne c, upd_ne c, del_ne c]] at this
    exact W.step l3 iv2
  · exact uEnv_stay fp s1.env
  · rw [del_updS]
    exact l2
/-- for x in a list of things, while a list grows -/
theorem ng_forD {ws : List UD} (off : ∀ w ∈ ws, OffU w) (E : Nat → ι → List (Nat × UD)) (R : Nat → ι → List UD) (P : Nat → ι → Prop) (x0 : ι) (hl : ∀ W', Wle W W' → EV (uEnv N ue W') tl (dLD (uDs ws W'))) (p0 : P 0 x0) (r0 : R 0 x0 = us) (e0 : ∀ W' σ H, EnvL (uEnv N ue W') σ H → EnvL (uEnv N (E 0 x0) W') σ H)
    (hb : ∀ k w, ws[k]? = some w → ∀ x, P k x → NVG W i N ((j, w) :: E k x) (R k x) ts (E (k + 1)) (R (k + 1)) (P (k + 1))) (ne : j ≠ i := by decide) :
    NVG W i N ue us (tFor (iList K tl) (gName j) ts) (E ws.length) (R ws.length) (P ws.length) := fun D σ H p fp s q => by
  refine hl _ (away_le fp) σ H _ s.ainv s.env fun v H1 l1 ⟨a, xs, e1, ga, ha, ox⟩ => ?_
  subst e1
  obtain ⟨s1, l2⟩ := s.go l1
  have lx := ox.length
  unfold uDs at lx
  rw [List.length_map] at lx
  have keepA : ∀ {H'}, W.L (del p H1) (del p H') → H' a = some (.lst xs) := fun {H'} l => by
    have h1 : del p H1 a = some (.lst xs) := (del_ne ga.2).trans ha
    have h2 := W.keep ga.1 l h1
    exact (del_some h2).2
  refine ⟨a, rfl, ⟨xs, SqL.of ha⟩, ?_⟩
  refine for_list (K := K) (a := a) (xs := xs) (fun k σ' H' => OkL (uDs ws (awayW W p fp)) xs H' ∧ W.L (del p H1) (del p H') ∧ ∃ x, P k x ∧ LG W i N (E k x) (R k x) p fp σ' H') ⟨ox, W.refl _, x0, p0, s1.slot, r0 ▸ s1.ct, s1.inv, e0 _ _ _ s1.env⟩ (fun k σ' H' _ hP => SqL.of (keepA hP.2.1)) (fun k x σ' H' hx hP => ?_) fun σ' H' hP => ?_
  · obtain ⟨oP, lP, z, pz, sz⟩ := hP
    have lk : k < ws.length := by
      rw [← lx]
      exact (List.getElem?_eq_some_iff.mp hx).1
    have hw : ws[k]? = some ws[k] := List.getElem?_eq_getElem lk
    obtain ⟨x', hx', okx⟩ := oP.get (k := k) (d := ws[k].f (awayW W p fp)) (by unfold uDs; rw [List.getElem?_map, hw]; rfl)
    rw [hx] at hx'
    cases hx'
    refine hb k ws[k] hw z pz _ _ _ p fp ⟨by rw [List.getElem?_set_ne ne]; exact sz.slot, sz.ct, sz.inv, EnvL.set (W := awayW W p fp) (d := ws[k].f (awayW W p fp)) okx sz.env⟩ fun y σ2 H2 py s2 l5 => ?_
    obtain ⟨_, e2, _⟩ := s2.ct
    exact ⟨OkL_away fp l5 e2 off oP, W.trans lP l5, y, py, s2⟩
  · obtain ⟨oP, lP, z, pz, sz⟩ := hP
    rw [lx] at pz sz
    exact q z σ' H' pz sz (W.trans l2 lP)
end
end Vf
set_option Elab.async false
set_option linter.all false
set_option maxRecDepth 100000
set_option maxHeartbeats 4000000
set_option pp.maxSteps 300
namespace Vf
open PySem PySem.Spec PyProof.Rows L2
variable {W : Wd}
/-! lists one by one (k86) -/
/-! the word of the odd places -/
theorem m2 (x : Int) : ((x % 2).toNat : Int) = x % 2 := Int.toNat_of_nonneg (Int.emod_nonneg _ (by decide))
/-! the numbers due -/
end Vf
set_option Elab.async false
set_option linter.all false
set_option maxRecDepth 100000
set_option maxHeartbeats 4000000
set_option pp.maxSteps 300
namespace Vf
open PySem PySem.Spec PyProof.Rows L2
variable {W : Wd}
section
variable {Ds Es : EnvT W} {ta tb tc tl te : TE} {tt : TT} {t : TA} {tu : TS} {d d1 : Dn W} {xs : List V} {i j m N : Nat} {K : PySem.W.Frag}
/-- a list of things by a comprehension with a test over a list of things -/
theorem ev_lcUF {ι : Type} (ue : List (Nat × UD)) (us : List ι) (fu gu : ι → UD) (p : ι → Bool) (hl : EV Ds tl (dLD (uDs (us.map fu) W))) (he : ∀ σ H, EnvL Ds σ H → EnvL (uEnv N ue W) σ H) (hz : us.length ≤ 100000)
    (ht : ∀ (W' : Wd), ∀ u ∈ us, TV ((uEnv N ue W').set i (some ((fu u).f W'))) tt (p u))
    (hb : ∀ (W' : Wd), ∀ u ∈ us, p u = true → EV ((uEnv N ue W').set i (some ((fu u).f W'))) te ((gu u).f W')) : EV Ds (tLc (iList K tl) (gName i) tt te [i]) (dLD (uDs ((us.filter p).map gu) W)) := fun σ H Q iv en q =>
  hl σ H _ iv en fun v H1 l1 ⟨a, xs, e, ga, h, oxs⟩ => by
    subst e
    have iv1 := W.step l1 iv
    have len := oxs.length
    unfold uDs at len
    rw [List.length_map, List.length_map] at len
    refine ⟨a, rfl, ⟨xs, .inl (.inl h)⟩, fun D nD => ?_⟩
    have fD : W.F D := W.fresh iv1 nD
    have en1 := uEnv_lift fD nD (he _ _ (en.st l1))
    have ox1 := uDs_lift fD nD oxs
    refine lc_list (K := K) (a := a) (xs := xs) (fun k H' => W.L H1 H' ∧ (∃ ys, H' D = some (.lst ys) ∧ OkL (uDs (((us.take k).filter p).map gu) (awayW W D fD)) ys H') ∧ EnvL (uEnv N ue (awayW W D fD)) σ H' ∧ OkL (uDs (us.map fu) (awayW W D fD)) xs H')
      ⟨W.put0 iv1 nD, ⟨[], upd_same, trivial⟩, uEnv_stay fD en1, uDs_stay fD ox1⟩ (fun k H' _ hP => .inl (.inl (W.keep ga hP.1 h))) (fun k x H' hx hP => ?_) fun H' hP => ?_
    · obtain ⟨lP, ⟨ys, eD, oy⟩, eP, oP⟩ := hP
      have lk : k < us.length := by
        rw [← len]
        exact (List.getElem?_eq_some_iff.mp hx).1
      have hd : us[k]? = some us[k] := List.getElem?_eq_getElem lk
      obtain ⟨x', hx', ox⟩ := oP.get (k := k) (d := (fu us[k]).f (awayW W D fD)) (by unfold uDs; rw [List.getElem?_map, List.getElem?_map, hd]; rfl)
      rw [hx] at hx'
      cases hx'
      have iv' : (awayW W D fD).inv H' := ⟨W.step lP iv1, ys, eD⟩
      have en' : EnvL ((uEnv N ue (awayW W D fD)).set i (some ((fu us[k]).f (awayW W D fD)))) ((wipe σ [i]).set i (some x)) H' := env_lc ox eP
      have tk : (us.take (k + 1)).filter p = (us.take k).filter p ++ [us[k]].filter p := by
        rw [List.take_add_one, hd, List.filter_append]
        rfl
      refine ⟨wipe_lc, ht (awayW W D fD) us[k] (List.getElem_mem lk) _ H' _ iv' en' fun H2 l2 => ?_⟩
      cases hp : p us[k] with
      | true =>
        refine (if_pos rfl).mpr (hb (awayW W D fD) us[k] (List.getElem_mem lk) hp _ H2 _ ((awayW W D fD).step l2 iv') (en'.st l2) fun y H3 l3 o3 => ?_)
        have l23 : (awayW W D fD).L H' H3 := (awayW W D fD).trans l2 l3
        have eD3 : H3 D = some (.lst ys) := W.keep fD l23 eD
        have ly := oy.length
        unfold uDs at ly
        rw [List.length_map, List.length_map] at ly
        have lf := List.length_filter_le p (us.take k)
        rw [List.length_take] at lf
        refine ⟨ys, eD3, sl_lt (by omega), W.put iv1 (W.trans lP l23) nD, ⟨ys ++ [y], upd_same, ?_⟩, uEnv_stay fD (eP.st l23), uDs_stay fD (oP.st l23)⟩
        rw [tk, List.filter_cons_of_pos hp]
        have e2 : uDs (((us.take k).filter p ++ us[k] :: [].filter p).map gu) (awayW W D fD) = uDs (((us.take k).filter p).map gu) (awayW W D fD) ++ [(gu us[k]).f (awayW W D fD)] := by
          unfold uDs
          rw [List.map_append, List.map_append]
          rfl
        rw [e2]
        exact OkL.app (uDs_stay fD (oy.st l23)) ⟨(gu us[k]).stay fD o3, trivial⟩
      | false =>
        refine (if_neg (by decide)).mpr ⟨W.trans lP l2, ⟨ys, W.keep fD l2 eD, ?_⟩, eP.st l2, oP.st l2⟩
        rw [tk, List.filter_cons_of_neg (by rw [hp]; decide), List.filter_nil, List.append_nil]
        exact oy.st l2
    · obtain ⟨lP, ⟨ys, eD, oy⟩, eP, oP⟩ := hP
      refine q _ H' (W.trans l1 lP) ⟨D, ys, rfl, fD, eD, ?_⟩
      have e3 : us.take xs.length = us := List.take_of_length_le (by omega)
      rw [e3] at oy
      exact uDs_drop fD oy
end
section
variable {n m : Nat} {R : List Nat} {l L : List Int} {ls : List (List Int)} {p C : Addr}
end
end Vf
set_option Elab.async false
set_option linter.all false
set_option maxRecDepth 100000
set_option maxHeartbeats 4000000
set_option pp.maxSteps 300
namespace Vf
open PySem PySem.Spec PyProof.Rows L2
variable {W : Wd}
section
variable {Ds Es : EnvT W} {ta tb tc tl te : TE} {tt : TT} {t : TA} {ts tu : TS} {d d1 : Dn W} {xs : List V} {l : List Int} {ls : List (List Int)} {cs : List (Nat × List V)} {i j m N : Nat} {K : PySem.W.Frag} {ue : List (Nat × UD)}
end
end Vf
set_option Elab.async false
set_option linter.all false
set_option maxRecDepth 100000
set_option maxHeartbeats 4000000
set_option pp.maxSteps 300
/-! sorted by a key that gives a new list each time: told of the heap alone -/
namespace KeyL
open PySem PySem.Calls PyProof.Rows PySem.W
section
variable {prog : Program} {w : World} {A : Around} {E : Value → Shared → Prop} {s : Shared} {a kS : Addr} {b : Bool} {vs : List Value} {e1 : Nat} {P : PySem.Fin → Shared → Prop} {kz : List PyData} {Gd : Shared → Prop}
/-- a call that keeps all that was there and gives the key k, its lists new -/
def KeyNew (Gd : Shared → Prop) (k : PyData) (s1 : Shared) (v : Value) (s2 : Shared) : Prop := ∃ as, Gd s2 ∧ (∀ b o, s1.heap.get? b = some o → s2.heap.get? b = some o) ∧ Reads s2.heap v k as ∧ ∀ x ∈ as, s1.heap.get? x = none
/-- a key that is told at h, apart from two objects -/
def Told (a kS : Addr) (h : Heap) (v : Value) (k : PyData) : Prop := ∃ as, Reads h v k as ∧ a ∉ as ∧ kS ∉ as ∧ alike k k = true
theorem Told.keeps {h g : Heap} (hg : ∀ b o, h.get? b = some o → g.get? b = some o) {v : Value} {k : PyData} (t : Told a kS h v k) : Told a kS g v k := by
  obtain ⟨as, r, q⟩ := t
  exact ⟨as, PyProof.Rows.Reads.keeps hg r, q⟩
theorem Told.but {h g : Heap} (hg : ∀ b o, b ≠ kS → h.get? b = some o → g.get? b = some o) (hl : ∀ o, h.get? kS = some o → o.cls = .type "list") {v : Value} {k : PyData} (t : Told a kS h v k) : Told a kS g v k := by
  obtain ⟨as, r, q1, q2, q3⟩ := t
  exact ⟨as, Reads.keepBut (a := kS) hg hl k v as q3 r q2, q1, q2, q3⟩
theorem rest {f : Value} {h1 : Heap} (kp : KeepsBut a h1 s.heap) (hkS : h1.get? kS = none) (nk : s.heap.get? kS = some (seqObj "list" #[] 0)) (na : s.heap.get? a = some (seqObj "list" #[] e1)) (hka : kS ≠ a)
    (hlen : kz.length = vs.length) (hZ : vs.length ≤ sizeLine) (hal : AllAlike kz) (hsk : Sortable kz) (hu : ∀ d, d ∈ kz → A.units + d.depth < cLine)
    (turn : ∀ (i : Nat) (v : Value) (k : PyData), vs[i]? = some v → kz[i]? = some k → ∀ s1 : Shared, Gd s1 → KeepsBut a h1 s1.heap → wpAny (model prog w) A (call f [v]) (KeyNew Gd k s1) (fun _ _ => False) s1)
    (gs : Gd s) (hG : ∀ s1 h t, Gd s1 → Gd { s1 with heap := h, toks := t })
    (h : ∀ s1 out c, Gd s1 → KeepsBut a h1 s1.heap → s1.heap.get? a = some (seqObj "list" (List.toArray out) c) → KeyedOut b kz vs out → P (.done (.ret .none)) s1) :
    wpAny (model prog w) A (ksk_rest a f b vs.toArray e1 (.ref kS)) P E s := by
  unfold ksk_rest
  refine wpAny_bind (wpAny_rule ?_)
  first
    | rw [List.forIn_toArray]
    | (rw [← Array.forIn_toList]; simp only [List.toList_toArray])
    | rw [← Array.forIn_toList]
  refine wpAny_bind (ksk_fold (fun i s' => ∃ kA e, Gd s' ∧ KeepsBut a h1 s'.heap ∧ s'.heap.get? kS = some (seqObj "list" kA e) ∧ s'.heap.get? a = some (seqObj "list" #[] e1) ∧ EachIs (Told a kS s'.heap) kA.toList (kz.take i)) vs 0 s
    ⟨#[], 0, gs, kp, nk, na, by rw [List.take_zero]; exact EachIs.nil⟩ ?step ?done)
  case step =>
    rintro j x s' hx ⟨kA, e, gs', kp', nk', na', hk⟩
    simp only [Nat.zero_add] at hk ⊢
    have hj : j < vs.length := (List.getElem?_eq_some_iff.mp hx).1
    obtain ⟨k, hkj⟩ : ∃ k, kz[j]? = some k := ⟨_, List.getElem?_eq_getElem (by omega)⟩
    have hkk : alike k k = true := hal k (List.mem_of_getElem? hkj) k (List.mem_of_getElem? hkj)
    have hz : kA.size ≤ vs.length := by
      have q1 := hk.length
      rw [Array.length_toList, List.length_take] at q1
      omega
    refine wpAny_bind (wpAny_attempt (wpAny_mono (turn j x k hx hkj s' gs' kp') (fun v s'' he => ?_) fun _ _ hF => hF.elim))
    obtain ⟨as, gs2, hg, hr, hn⟩ := he
    generalize eg : s''.heap = g at hg hr
    have nk2 : g.get? kS = some (seqObj "list" kA e) := hg _ _ nk'
    have na2 : g.get? a = some (seqObj "list" #[] e1) := hg _ _ na'
    have s1 := Heap.SameBut.update g kS (Obj.mapSeq (·.push v))
    obtain ⟨c2, hc2⟩ : ∃ c2, (g.update kS (Obj.mapSeq (·.push v))).get? kS = some (seqObj "list" (kA.push v) c2) := ⟨_, get?_update_seq nk2 (·.push v)⟩
    have ek : kz.take (j + 1) = kz.take j ++ [k] := by rw [List.take_add_one, hkj]; simp
    have ea : (kA.push v).toList = kA.toList ++ [v] := by simp
    have gone : ∀ b o, s'.heap.get? b = some o → b ∉ as := fun b o hb z => by
      have q := hn _ z
      rw [hb] at q
      cases q
    have tv : Told a kS g v k := ⟨as, hr, gone _ _ na', gone _ _ nk', hkk⟩
    have up : ∀ (u : Value) (d : PyData), Told a kS g u d → Told a kS (g.update kS (Obj.mapSeq (·.push v))) u d := fun u d q =>
      q.but (fun b o hb e => (s1.2 b hb).trans e) (fun o e => by rw [nk2] at e; rw [← Option.some.inj e])
    refine wpAny_bind (listUpdate_at (by rw [eg]; exact nk2) rfl ?_ (Nat.le_trans hz hZ) (Nat.le_trans (Nat.le_of_eq (Array.size_push ..)) (Nat.succ_le_succ (Nat.le_trans hz hZ))))
    rw [eg]
    refine wpAny_pure ⟨rfl, kA.push v, c2, hG s'' _ _ gs2, (kp'.trans_all hg).same s1 (.inr hkS), hc2, (s1.2 a hka.symm).trans na2, ?_⟩
    rw [ea, ek]
    exact each_snoc (R := Told a kS (g.update kS (Obj.mapSeq (·.push v)))) (up v k tv) (hk.mono fun u d q => up u d (q.keeps hg))
  case done =>
    rintro s' ⟨kA, e, gs', kp', nk', na', hk⟩
    have hk' : EachIs (fun v k => ∃ as, Reads s'.heap v k as) kA.toList kz := by
      have e3 : kz.take (0 + vs.length) = kz := List.take_of_length_le (by omega)
      rw [e3] at hk
      exact hk.mono fun v k ⟨as, q, _⟩ => ⟨as, q⟩
    have hsz : kA.size = vs.length := by
      have q1 := hk'.length
      rw [Array.length_toList] at q1
      omega
    try dsimp only
    refine wpAny_bind (listItems_at nk' rfl ?_)
    exact keyH_end (κ := dataKind s'.heap kz) (h₁ := h1) kp' hkS nk' na' hka (SortsAt.data (s := s') hk' hal hsk hu) hsz hZ fun h3 tk3 c k3 n3 => h _ _ c (hG s' _ _ gs') k3 n3 ⟨s'.heap, kA.toList, hal, rfl, hk'⟩
end
section
variable {prog : Program} {w : World} {A : Around} {E : Value → Shared → Prop} {s : Shared} {β : Type} {vs : List Value} {bs : List β} {R : Value → β → Prop} {Gd : Shared → Prop}
theorem turns {a : Addr} {f : Value} {k : β → PyData} {h1 : Heap} (e : EachIs R vs bs)
    (turn : ∀ (v : Value) (x : β), R v x → x ∈ bs → ∀ s1 : Shared, Gd s1 → KeepsBut a h1 s1.heap → wpAny (model prog w) A (call f [v]) (KeyNew Gd (k x) s1) (fun _ _ => False) s1) :
    ∀ (i : Nat) (v : Value) (d : PyData), vs[i]? = some v → (bs.map k)[i]? = some d → ∀ s1 : Shared, Gd s1 → KeepsBut a h1 s1.heap →
      wpAny (model prog w) A (call f [v]) (KeyNew Gd d s1) (fun _ _ => False) s1 := by
  intro i v d hv hd s1 g1 kp
  rw [List.getElem?_map] at hd
  cases q : bs[i]? with
  | none => rw [q] at hd; simp at hd
  | some x =>
    rw [q] at hd
    have hd' : some (k x) = some d := hd
    rw [← Option.some.inj hd']
    have hz : (v, x) ∈ vs.zip bs := List.mem_of_getElem? (i := i) (by rw [List.getElem?_zip_eq_some]; exact ⟨hv, q⟩)
    exact turn v x (e.zip _ hz) (List.mem_of_getElem? q) s1 g1 kp
end
/-! the same, what holds while the keys are made told by J (kS: the list of keys; ks: the keys so far) -/
section
variable {prog : Program} {w : World} {A : Around} {E : Value → Shared → Prop} {s : Shared} {a kS : Addr} {b : Bool} {vs : List Value} {e1 : Nat} {P : PySem.Fin → Shared → Prop} {kz : List PyData} {J : Addr → List Value → Shared → Prop}
end
section
variable {prog : Program} {w : World} {A : Around} {E : Value → Shared → Prop} {s : Shared} {β : Type} {vs : List Value} {bs : List β} {R : Value → β → Prop} {J : Addr → List Value → Shared → Prop}
end
end KeyL
set_option Elab.async false
set_option linter.all false
set_option maxRecDepth 100000
set_option maxHeartbeats 4000000
set_option pp.maxSteps 300
namespace LamK
open PySem PySem.Spec PyProof.Rows L2 LamX
end LamK
set_option Elab.async false
set_option linter.all false
set_option maxRecDepth 100000
set_option maxHeartbeats 1000000
set_option pp.maxSteps 300
namespace LamK
open PySem PySem.Spec PyProof.Rows L2 LamX PySem.W
theorem each_vals : ∀ {xs : List V} {vs : List Value}, Vals xs vs → EachIs (fun v x => RelV x v) vs xs
  | _, _, .nil => .nil
  | _, _, .cons r t => .cons r (each_vals t)
theorem vals_each : ∀ {xs : List V} {vs : List Value}, EachIs (fun v x => RelV x v) vs xs → Vals xs vs
  | _, _, .nil => .nil
  | _, _, .cons r t => .cons r (vals_each t)
theorem vals_reads {h : Heap} : ∀ {l : List Int} {vs : List Value}, Vals (l.map V.int) vs → ReadsAll h vs (l.map PyData.int) []
  | [], [], _ => .nil
  | x :: l, v :: vs, .cons r t => by
    obtain ⟨tk, e⟩ : ∃ tk, v = .int x tk := r
    rw [e]
    exact ReadsAll.cons (as := []) (bs := []) (Reads.int _ _) (vals_reads t)
section
variable {X : Cx} {pins : List (Addr × Obj)} {σ : L2.St} {H : Hp} {s : Shared}
end
section
variable {X : Cx} {pins : List (Addr × Obj)} {σ : L2.St} {H : Hp} {s : Shared} {l f : Addr} {xs : List V} {keys : V → List Int} {q : Str} {params : Arguments} {body : Expr} {scope : Scope} {pm ctv : Value} {c' : Addr} {N ps : List Str} {k : Nat} {te : TE} {Q : VK}
end
end LamK
set_option Elab.async false
set_option linter.all false
set_option maxRecDepth 100000
set_option maxHeartbeats 1000000
set_option pp.maxSteps 300
namespace LamK
open PySem PySem.Spec PyProof.Rows L2 LamX PySem.W
/-- all but the object at P stays -/
def ExtT (P : Addr) (H H' : Hp) : Prop := ∀ b u, b ≠ P → H b = some u → H' b = some u
theorem ExtT.refl {P : Addr} {H : Hp} : ExtT P H H := fun _ _ _ e => e
section
variable {X : Cx} {pins : List (Addr × Obj)} {σ : L2.St} {H : Hp} {s : Shared}
end
end LamK
set_option Elab.async false
set_option linter.all false
set_option maxRecDepth 100000
set_option maxHeartbeats 1000000
set_option pp.maxSteps 300
namespace Vf
open PySem PySem.Spec PyProof.Rows L2 LamX LamK
theorem TabS.at {H : Hp} {P : Addr} {q : Str} (t : TabS H P q) : ∃ ps, H P = some (.tbl ps) := t.elim fun ps h => ⟨ps, h.1⟩
end Vf
set_option Elab.async false
set_option linter.all false
set_option maxRecDepth 100000
set_option maxHeartbeats 1000000
set_option pp.maxSteps 300
namespace Vf
open PySem PySem.Spec PyProof.Rows L2 LamX LamK
/-! ### rooms sorted by their plain bases -/
def iL (l : List Nat) : List Int := l.map fun n : Nat => (n : Int)
def leB (x y : List Nat) : Bool := decide (iL x ≤ iL y)
def sortB (Bs : List (List Nat)) : List (List Nat) := Bs.mergeSort leB
theorem vs_iL (l : List Nat) : (iL l).map V.int = vs l := by
  unfold iL vs
  rw [List.map_map]
  rfl
theorem vs_inj : ∀ {a b : List Nat}, vs a = vs b → a = b
  | [], [], _ => rfl
  | x :: a, y :: b, h => by
    unfold vs at h
    rw [List.map_cons, List.map_cons, List.cons.injEq] at h
    have e := h.1
    injection e with e
    rw [Int.ofNat.inj e, vs_inj h.2]
  | [], y :: b, h => by simp [vs] at h
  | x :: a, [], h => by simp [vs] at h
variable {W : Wd}
/-! ### comprehensions with two for -/
section
variable {Ds : EnvT W} {te tl tl1 : TE} {tt : TT} {i j N : Nat} {K : PySem.W.Frag}
end
end Vf
set_option Elab.async false
set_option linter.all false
set_option maxRecDepth 100000
set_option maxHeartbeats 1000000
set_option pp.maxSteps 300
namespace Vf
open PySem PySem.Spec PyProof.Rows L2 LamX LamK
/-! ### a def whose code object is told -/
section
variable {P : Program} {w : World} {K : PySem.W.Frag} {mg : Str → Option Value} {base : Heap} {x qual : Str} {st : Stmt} {f ct : Addr} {fd : FuncData} {N ps : List Str} {k : Nat}
  {ι : Type} {Pr : Wd → ι → Prop} {ds : (W : Wd) → ι → List (Dn W)} {us : ι → List UD}
end
/-! ### the end of a law with one table of code objects -/
/-! ### promises of a law with a table -/
end Vf
set_option Elab.async false
set_option linter.all false
set_option maxRecDepth 100000
set_option maxHeartbeats 1000000
set_option pp.maxSteps 300
namespace Vf
/-! ### bases of words that are even to one another, each once -/
/-! ### the rests over a room -/
theorem rest_same {B : List Nat} (h : Piv B) {v : Nat} (k : ∀ b ∈ B, v.testBit b.log2 = false) : restOf v B = v := by
  rw [rest_eq _ h, comb_off k, Nat.xor_zero]
/-! ### a basis and rests -/
theorem gen_even {X : List Nat} (h : ∀ a ∈ X, ∀ b ∈ X, par a b = false) : ∀ a, span X a → ∀ b, span X b → par a b = false := fun a ha => by
  refine par_span.mp fun b hb => ?_
  rw [par_comm]
  exact par_span.mp (fun c hc => h b hb c hc) a ha
/-! ### the fill-ups of a room that has all places -/
section
variable {n : Nat} {A B : List Nat} {q : Nat → Bool}
/-! ### how many -/
theorem swapG {α : Type} (R : Nat → α → Bool) (M : List α) : ∀ L : List Nat, (L.map fun v => (M.filter (R v)).length).sum = (M.map fun i => (L.filter fun v => R v i).length).sum
  | [] => by
    rw [List.map_nil, List.sum_nil]
    exact (sum_nought.mpr fun x hx => by obtain ⟨_, _, rfl⟩ := List.mem_map.mp hx; rfl).symm
  | v :: L => by
    rw [List.map_cons, List.sum_cons, swapG R M L]
    induction M with
    | nil => rfl
    | cons i M ih =>
      rw [List.map_cons, List.sum_cons, List.map_cons, List.sum_cons, ← Nat.add_left_comm, ← ih, List.filter_cons, List.filter_cons]
      cases R v i
      · rw [if_neg (by simp), if_neg (by simp)]
      · rw [if_pos rfl, if_pos rfl, List.length_cons, List.length_cons]
        omega
end
end Vf
set_option Elab.async false
set_option linter.all false
set_option maxRecDepth 100000
set_option maxHeartbeats 1000000
set_option pp.maxSteps 300
namespace Vf
open PySem PySem.Spec PyProof.Rows L2
variable {W : Wd}
section
variable {Ds Es : EnvT W} {es : List (Dn W)} {ts tu : TS} {tt : TT} {i : Nat} {te : TE} {d : Dn W}
end
section
variable {C Pt : Addr} {n m w : Nat} {A B D P ws : List Nat}
theorem sortB_perm (l : List (List Nat)) : (sortB l).Perm l := List.mergeSort_perm _ _
theorem sortB_mem {l : List (List Nat)} {A : List Nat} : A ∈ sortB l ↔ A ∈ l := (sortB_perm l).mem_iff
end
end Vf
set_option Elab.async false
set_option linter.all false
set_option maxRecDepth 100000
set_option maxHeartbeats 1000000
set_option pp.maxSteps 300
namespace Vf
open PySem PySem.Spec PyProof.Rows L2
variable {W : Wd}
section
variable {C Pt : Addr} {n m w : Nat} {A B D P ws : List Nat}
theorem StillL.room (h : StillL n m ws) (n1 : 1 ≤ n) (n24 : n ≤ 24) : RoomF n (bas ws) ∧ stillB (bas ws) = true := ⟨⟨bas_plain _, n1, n24, bas_lt h.lt⟩, still_bas h.ev⟩
end
end Vf
set_option Elab.async false
set_option linter.all false
set_option maxRecDepth 100000
set_option maxHeartbeats 1000000
set_option pp.maxSteps 300
namespace LamK
open PySem PySem.Spec PyProof.Rows L2 LamX PySem.W
theorem each_reads {X : Cx} {pins : List (Addr × Obj)} {σ : L2.St} {H : Hp} {s : Shared} {f : V → List Int} (I : Inv X pins σ H s) : ∀ {xs : List V} {its : List Value}, Vals xs its → (∀ x ∈ xs, ∃ p, x = .ref p ∧ H p = some (.lst ((f x).map V.int))) →
    EachIs (fun v x => ∃ as, Reads s.heap v (PyData.list ((f x).map PyData.int)) as) its xs
  | _, _, .nil, _ => .nil
  | x :: xs, v :: its, .cons r t, h => by
    refine .cons ?_ (each_reads I t fun y hy => h y (List.mem_cons_of_mem _ hy))
    obtain ⟨p, e1, e2⟩ := h x List.mem_cons_self
    obtain ⟨_, it, n, rr, ho⟩ := I.hok p _ e2
    rw [e1] at r ⊢
    obtain rfl : v = Value.ref p := r
    rw [← e1]
    exact ⟨_, Reads.list ho rfl rfl (vals_reads rr)⟩
/-- sorted(lists of whole numbers) -/
def rSortedLL (K : PySem.W.Frag) : List V → Hp → VK → Prop := fun vs H Q => ∃ (a : Addr) (xs : List V) (f : V → List Int), vs = [.ref a] ∧ SqL K H a xs ∧ (∀ x ∈ xs, ∃ p, x = .ref p ∧ H p = some (.lst ((f x).map V.int))) ∧
  ∀ p, H p = none → Q (.ref p) (upd H p (.lst (xs.mergeSort fun x y => decide (f x ≤ f y))))
theorem cr_sortedLL {X : Cx} (hu : X.A.units + 64 < cLine) : CallR X (.builtin "sorted") (rSortedLL X.K) := by
  intro pins s σ H vs us Q I r h
  obtain ⟨a, xs, f, rfl, hs, hx, q⟩ := h
  obtain ⟨its, rv, hl, hz⟩ := I.list hs
  rw [Vals.ref1 r]
  refine sorted_data (β := V) (enc := fun x => PyData.list ((f x).map PyData.int)) hl.isList (each_vals rv) (each_reads I rv hx) (AllAlike.of fun b b' => alike_ints _ _) (Sortable.others fun b => ⟨(fun z => by cases z), (fun xs z => by cases z)⟩) hz (fun x _ => ?_) fun out hl2 e => ?_
  · have d := depth_ints (f x)
    have e : (PyData.list ((f x).map PyData.int)).depth = PyData.depthAll ((f x).map PyData.int) + 1 := by rw [PyData.depth]
    rw [e, d]
    omega
  · rw [dataLe_rows] at e
    obtain ⟨ep, he'⟩ := PyProof.Rows.sortedAll_at s.heap its out.toArray
    refine ⟨.ref _, upd H (s.heap.objs.size + 1) (.lst (xs.mergeSort fun x y => decide (f x ≤ f y))), I.laid (t' := s.toks) (fun _ _ => PyProof.Rows.sortedAll_old) (Nat.le_succ _) ⟨?_, out, ep, vals_each e, he'⟩, rfl, q _ (I.hok.fresh (Nat.le_succ _))⟩
    rw [List.length_mergeSort]
    exact hz
end LamK
namespace Vf
open PySem PySem.Spec PyProof.Rows L2 LamX LamK
variable {W : Wd}
theorem ll_uniq {A B : List Nat} {v : V} {H : Hp} (h : (dVs A : Dn W).ok v H) (h' : (dVs B : Dn W).ok v H) : A = B := by
  obtain ⟨a, e, _, h1⟩ := h
  obtain ⟨a', e', _, h1'⟩ := h'
  subst e
  injection e' with e'
  subst e'
  rw [h1] at h1'
  injection h1' with q
  injection q with q
  exact vs_inj q
open Classical in
noncomputable def keyL (W : Wd) (H : Hp) (v : V) : List Nat := if h : ∃ B, (dVs B : Dn W).ok v H then h.choose else []
theorem keyL_is {B : List Nat} {v : V} {H : Hp} (h : (dVs B : Dn W).ok v H) : keyL W H v = B := by
  have e : ∃ B, (dVs B : Dn W).ok v H := ⟨B, h⟩
  unfold keyL
  rw [dif_pos e]
  exact ll_uniq e.choose_spec h
abbrev lD (W : Wd) (l : List (List Nat)) : List (Dn W) := uDs (l.map uVs) W
theorem okLL_all {H : Hp} : ∀ {Bs : List (List Nat)} {xs : List V}, OkL (lD W Bs) xs H → (∀ x ∈ xs, (dVs (keyL W H x) : Dn W).ok x H) ∧ xs.map (keyL W H) = Bs
  | [], [], _ => ⟨fun x hx => (List.not_mem_nil hx).elim, rfl⟩
  | B :: Bs, x :: xs, ⟨o, r⟩ => by
    obtain ⟨h1, h2⟩ := okLL_all (Bs := Bs) r
    have k := keyL_is o
    refine ⟨fun y hy => ?_, by rw [List.map_cons, k, h2]⟩
    rcases List.mem_cons.mp hy with rfl | hy
    · rw [k]
      exact o
    · exact h1 y hy
  | [], _ :: _, h => h.elim
  | _ :: _, [], h => h.elim
theorem okLL_of {H : Hp} {f : V → List Nat} : ∀ {xs : List V}, (∀ x ∈ xs, (dVs (f x) : Dn W).ok x H) → OkL (lD W (xs.map f)) xs H
  | [], _ => trivial
  | x :: xs, h => ⟨h x List.mem_cons_self, okLL_of (xs := xs) fun y hy => h y (List.mem_cons_of_mem _ hy)⟩
theorem cd_sortedLL {K : PySem.W.Frag} {Bs : List (List Nat)} : CrD (W := W) (rSortedLL K) [dLD (lD W Bs)] (dLD (lD W (sortB Bs))) := fun vs H Q iv o q => by
  match vs, o with
  | [v], ⟨⟨a, xs, e, ga, h, o⟩, _⟩ =>
    subst e
    obtain ⟨ok, mp⟩ := okLL_all o
    refine ⟨a, xs, fun v => iL (keyL W H v), rfl, .inl (.inl h), fun x hx => ?_, fun p np => ?_⟩
    · obtain ⟨b, e, _, hb⟩ := ok x hx
      refine ⟨b, e, ?_⟩
      rw [vs_iL]
      exact hb
    · have l := W.put0 iv np (o := .lst (xs.mergeSort fun x y => decide (iL (keyL W H x) ≤ iL (keyL W H y))))
      refine q _ _ l ⟨p, _, rfl, W.fresh iv np, upd_same, ?_⟩
      have e2 : sortB Bs = (xs.mergeSort fun x y => decide (iL (keyL W H x) ≤ iL (keyL W H y))).map (keyL W H) := by
        rw [← mp]
        exact (List.map_mergeSort (f := keyL W H) (r := fun x y => decide (iL (keyL W H x) ≤ iL (keyL W H y))) (s := leB) (l := xs) fun a _ b _ => rfl).symm
      rw [e2]
      exact okLL_of fun y hy => (dVs _ : Dn W).st l (ok y (List.mem_mergeSort.mp hy))
end Vf
set_option Elab.async false
set_option linter.all false
set_option maxRecDepth 100000
set_option maxHeartbeats 1000000
set_option pp.maxSteps 300
namespace Vf
open PySem PySem.Spec PyProof.Rows L2
variable {W : Wd}
/-! ### lists of lists of numbers, told and compared -/
section
variable {K : PySem.W.Frag}
end
/-! ### exchanged rooms -/
section
variable {n w : Nat} {s A B : List Nat}
/-! papers go along -/
end
end Vf
set_option Elab.async false
set_option linter.all false
set_option maxRecDepth 100000
set_option maxHeartbeats 1000000
set_option pp.maxSteps 300
namespace Vf
open PySem PySem.Spec PyProof.Rows L2
variable {W : Wd}
section
variable {Ds : EnvT W} {te : TE} {t : TA} {x : V}
theorem okV_L {H : Hp} : ∀ l : List V, OkL (l.map fun v => (dV v : Dn W)) l H
  | [] => trivial
  | v :: l => ⟨rfl, okV_L l⟩
end
section
variable {Pt : Addr} {n : Nat} {s ws A B : List Nat}
end
end Vf
set_option Elab.async false
set_option linter.all false
set_option maxRecDepth 100000
set_option maxHeartbeats 1000000
set_option pp.maxSteps 300
namespace Vf
/-! ### by fours: words whose weight is a multiple of 4 -/
/-- all words of the room are by fours -/
def Fo (B : List Nat) : Prop := ∀ v, span B v → uneven v = false
theorem fo_gen {X : List Nat} (h : ∀ a ∈ X, uneven a = false) (k : ∀ a ∈ X, ∀ b ∈ X, par a b = false) : Fo X := fun v hv => by
  have ge := gen_even k
  have := hv (fun v => uneven v = false ∧ span X v) ⟨⟨uneven_zero, span_zero _⟩, fun a b ha hb => ⟨by
    show uneven (a ^^^ b) = false
    rw [uneven_xor (ge a ha.2 a ha.2) (ge b hb.2 b hb.2) (ge a ha.2 b hb.2), ha.1, hb.1]
    rfl, span_xor ha.2 hb.2⟩⟩ fun a ha => ⟨h a ha, span_mem ha⟩
  exact this.1
section
variable {n w v : Nat} {A B R S : List Nat}
/-! ### how many by fours -/
end
end Vf
set_option Elab.async false
set_option linter.all false
set_option maxRecDepth 100000
set_option maxHeartbeats 1000000
set_option pp.maxSteps 300
namespace Vf
section
variable {n w v : Nat} {A B R S : List Nat}
end
end Vf
set_option Elab.async false
set_option linter.all false
set_option maxRecDepth 100000
set_option maxHeartbeats 1000000
set_option pp.maxSteps 300
namespace Vf
open PySem PySem.Spec PyProof.Rows L2
variable {W : Wd}
section
variable {C Pt : Addr} {n m : Nat} {A B ws : List Nat}
end
end Vf
set_option Elab.async false
set_option linter.all false
set_option maxRecDepth 100000
set_option maxHeartbeats 1000000
set_option pp.maxSteps 300
namespace Vf
open PySem PySem.Spec PyProof.Rows L2
variable {W : Wd}
section
variable {C Pt : Addr} {n m : Nat} {A B ws L : List Nat}
/-- words of a room by fours -/
structure WdF (n : Nat) (ws : List Nat) : Prop where
  n1 : 1 ≤ n
  n24 : n ≤ 24
  len : ws.length ≤ 8
  lt : ∀ v ∈ ws, v < 2 ^ n
  st : ∀ a ∈ ws, ∀ b ∈ ws, par a b = false
  un : ∀ a ∈ ws, uneven a = false
theorem WdF.room (h : WdF n ws) : RoomF n (bas ws) ∧ stillB (bas ws) = true ∧ (whyF (bas ws)).isNone = true ∧ Fo (bas ws) := by
  have st := still_bas h.st
  have fo : Fo (bas ws) := fun v hv => fo_gen h.un h.st v ((bas_span _ _).mp hv)
  exact ⟨⟨bas_plain _, h.n1, h.n24, bas_lt h.lt⟩, st, (whyF_none st).mpr fo, fo⟩
theorem WdF.sub {us : List Nat} (h : WdF n ws) (len : us.length ≤ 8) (m : ∀ v ∈ us, v ∈ ws) : WdF n us := ⟨h.n1, h.n24, len, fun v hv => h.lt v (m v hv), fun a ha b hb => h.st a (m a ha) b (m b hb), fun a ha => h.un a (m a ha)⟩
theorem WdF.up (h : WdF n ws) (le : n ≤ m) (m24 : m ≤ 24) : WdF m ws := ⟨Nat.le_trans h.n1 le, m24, h.len, fun v hv => Nat.lt_of_lt_of_le (h.lt v hv) (pw_le le), h.st, h.un⟩
end
end Vf
set_option Elab.async false
set_option linter.all false
set_option maxRecDepth 100000
set_option maxHeartbeats 1000000
set_option pp.maxSteps 300
namespace Vf
open PySem PySem.Spec PyProof.Rows L2
variable {W : Wd}
/-! ### dict of a list of pairs: its length -/
theorem ev_LD {Ds : EnvT W} {te : TE} {l : List Nat} (h : EV Ds te (dVs l)) : EV Ds te (dLD (uDs (l.map fun w : Nat => uV (V.int w)) W)) := ev_wk h fun v H ⟨a, e, g, h⟩ => ⟨a, vs l, e, g, h, by
  have := okV_L (W := W) (H := H) (vs l)
  unfold uDs
  rw [List.map_map]
  unfold vs at this ⊢
  rw [List.map_map] at this
  exact this⟩
end Vf
set_option Elab.async false
set_option linter.all false
set_option maxRecDepth 100000
set_option maxHeartbeats 1000000
set_option pp.maxSteps 300
namespace Vf
open PySem PySem.Spec PyProof.Rows L2
variable {W : Wd}
section
variable {C Pt : Addr} {n m a b : Nat} {A B ws L : List Nat}
/-! ### how many of a length -/
/-! ### what the law's own helpers answer -/
end
end Vf
set_option Elab.async false
set_option linter.all false
set_option maxRecDepth 100000
set_option maxHeartbeats 1000000
set_option pp.maxSteps 300
namespace Vf
open PySem PySem.Spec PyProof.Rows L2
variable {W : Wd}
/-! ### a comprehension over a range that may end below nothing -/
end Vf
set_option Elab.async false
set_option linter.all false
set_option maxRecDepth 100000
set_option maxHeartbeats 1000000
set_option pp.maxSteps 300
namespace GQ
open PySem PySem.SeqAt
open AutoSeq1 (wpAny_loadPart')
open MeetsSeq MeetsSeq2 MeetsSeq3 SeqRoads2
section
variable {prog : Program} {w : World} {A : Around} {R : Result → Shared → Prop}
end
section
variable {prog : Program} {w : World} {A : Around} {E : Value → Shared → Prop} {s : Shared}
end
end GQ
namespace L2
open PySem PySem.Spec PyProof.Rows
section
variable {X : Cx} {n : Nat} {D : Eqv}
end
end L2
namespace Vf
open PySem PySem.Spec PyProof.Rows L2
variable {W : Wd}
section
variable {X : Cx} {C : Addr} {k : Nat}
end
/-! ### a cell made anew, a number taken out and dropped -/
section
variable {Ds Es : EnvT W} {cs cs1 : List (Nat × List V)} {ts tu : TS} {te : TE} {i j : Nat} {xs : List V} {P : List (Nat × List V) → Prop}
end
end Vf
set_option Elab.async false
set_option linter.all false
set_option maxRecDepth 100000
set_option maxHeartbeats 1000000
set_option pp.maxSteps 300
namespace VQ
open PySem PySem.SeqAt
open AutoSeq1 (wpAny_loadPart')
open MeetsSeq MeetsSeq2 MeetsSeq3 SeqRoads2
section
variable {prog : Program} {w : World} {B0 : Around} {E : Value → Shared → Prop} {s : Shared}
end
end VQ
namespace Vf
open PySem PySem.Spec PyProof.Rows L2
section
variable {X : Cx} {C : Addr} {k : Nat}
end
variable {W : Wd}
section
variable {C : Addr} {K : PySem.W.Frag} {n m : Nat} {A B : List Nat} {L : List (List Nat)}
end
/-! ### a new list by a drawn choice, its name; a number taken out and dropped; range loops of cells without a rest -/
section
variable {Ds Es : EnvT W} {d : Dn W} {ds : List (Dn W)} {cs : List (Nat × List V)} {tt : TT} {ts tu : TS} {ta tb te : TE} {i j : Nat} {xs : List V} {P : List (Nat × List V) → Prop} {K : PySem.W.Frag}
end
end Vf
set_option Elab.async false
set_option linter.all false
set_option maxRecDepth 100000
set_option maxHeartbeats 1000000
set_option pp.maxSteps 300
namespace Vf
open PySem PySem.Spec PyProof.Rows L2
variable {W : Wd}
/-! ### [x for x in range(a, b) if ..], which are none -/
section
variable {C Pt : Addr} {n m : Nat} {A B ws us l u r : List Nat} {ks : List Nat}
end
end Vf
set_option Elab.async false
set_option linter.all false
set_option maxRecDepth 100000
set_option maxHeartbeats 1000000
set_option pp.maxSteps 300
namespace Vf
open PySem PySem.Spec PyProof.Rows L2
variable {W : Wd}
section
variable {Ds Es Fs : EnvT W} {cs : List (Nat × List V)} {ts : TS} {ta tk : TA} {i j : Nat} {xs : List V} {K : PySem.W.Frag}
end
section
variable {n : Nat} {B u : List Nat}
end
section
variable {Ds Es : EnvT W} {ta tb tc tl te : TE} {tt : TT} {t : TA} {tu : TS} {d d1 : Dn W} {xs : List V} {i j m N : Nat} {K : PySem.W.Frag}
end
end Vf
set_option Elab.async false
set_option linter.all false
set_option maxRecDepth 100000
set_option maxHeartbeats 1000000
set_option pp.maxSteps 300
namespace Vf
open PySem PySem.Spec PyProof.Rows L2
variable {W : Wd}
/-! ### the two own rooms by fours over the half of an own room -/
section
variable {n x v : Nat} {A B X Y L : List Nat}
end
/-! ### the promise of beside_two -/
section
variable {C Pt : Addr} {n : Nat} {B : List Nat}
end
end Vf
set_option Elab.async false
set_option linter.all false
set_option maxRecDepth 100000
set_option maxHeartbeats 4000000
set_option pp.maxSteps 300
namespace Vf
open PySem PySem.Spec PyProof.Rows L2
variable {W : Wd}
/-! ### kinds of rooms that are not by fours -/
section
variable {p : Addr} {ks l : List Nat}
end
end Vf
set_option Elab.async false
set_option linter.all false
set_option maxRecDepth 100000
set_option maxHeartbeats 1000000
set_option pp.maxSteps 300
namespace Vf
open PySem PySem.Spec PyProof.Rows L2
variable {W : Wd}
section
variable {C : Addr} {n : Nat} {A : List Nat}
end
end Vf
set_option Elab.async false
set_option linter.all false
set_option maxRecDepth 100000
set_option maxHeartbeats 1000000
set_option pp.maxSteps 300
namespace LamK
open PySem PySem.Spec PyProof.Rows L2 LamX PySem.W
end LamK
namespace Vf
open PySem PySem.Spec PyProof.Rows L2 LamX LamK
variable {W : Wd}
end Vf
set_option Elab.async false
set_option linter.all false
set_option maxRecDepth 100000
set_option maxHeartbeats 1000000
set_option pp.maxSteps 300
namespace Vf
open PySem PySem.Spec PyProof.Rows L2
variable {W : Wd}
section
variable {Ds : EnvT W} {te tx : TE} {K : PySem.W.Frag} {l : List Bool}
/-! ### lists of truths: !=, index -/
end
end Vf
set_option Elab.async false
set_option linter.all false
set_option maxRecDepth 100000
set_option maxHeartbeats 1000000
set_option pp.maxSteps 300
namespace Vf
open PySem PySem.Spec PyProof.Rows L2
variable {W : Wd}
section
variable {C : Addr} {n x : Nat} {B X Y L : List Nat} {Ds : EnvT W} {te : TE} {l : List Bool}
end
end Vf
set_option Elab.async false
set_option linter.all false
set_option maxRecDepth 100000
set_option maxHeartbeats 1000000
set_option pp.maxSteps 300
namespace Vf
open PySem PySem.Spec PyProof.Rows L2
variable {W : Wd}
section
variable {Ds Es : EnvT W} {cs : List (Nat × List V)} {d d1 : Dn W} {te ta ti : TE} {tt : TT} {ts tu : TS} {i j k : Nat} {xs : List V} {y : V}
end
end Vf
set_option Elab.async false
set_option linter.all false
set_option maxRecDepth 100000
set_option maxHeartbeats 1000000
set_option pp.maxSteps 300
namespace Vf
open PySem PySem.Spec PyProof.Rows L2
variable {W : Wd}
section
variable {Ds Es : EnvT W} {d : Dn W} {te : TE} {t1 t2 t3 tu : TS} {p : Addr} {i : Nat}
end
end Vf
set_option Elab.async false
set_option linter.all false
set_option maxRecDepth 100000
set_option maxHeartbeats 2000000
set_option pp.maxSteps 300
namespace Vf
open PySem PySem.Spec PyProof.Rows L2
variable {W : Wd}
/-! ### shadow numbers of a product of sums -/
def tC (n m k : Nat) : List Int := (polyQ (n + m) k).map (· * (sgnZ k * ((2 ^ ((n + m) / 2 + moreZ n (n / 8 + 1) + moreZ m (m / 8 + 1) - 6 * k) : Nat) : Int)))
section
variable {n m : Nat} {a b c : List Int}
end
/-! ### rows of the two beside -/
section
variable {n j : Nat} {B X Y : List Nat}
end
/-! ### what the law's own helpers promise -/
section
variable {C Pt p : Addr} {n : Nat} {B : List Nat} {l : List Int} {c : Nat} {ks : List Nat}
end
/-! bounds -/
end Vf
set_option Elab.async false
set_option linter.all false
set_option maxRecDepth 100000
set_option maxHeartbeats 1000000
set_option pp.maxSteps 300
namespace Vf
open PySem PySem.Spec PyProof.Rows L2
variable {W : Wd}
/-! ### rows of fill-ups, added -/
section
variable {n j N w : Nat} {A B B0 L ws : List Nat} {f : Nat → Nat}
end
/-! what is needed of slices and of pairs of numbers -/
/-! ### what the law's own helpers promise -/
section
variable {C Pt : Addr} {n : Nat} {A ws : List Nat}
end
end Vf
set_option Elab.async false
set_option linter.all false
set_option maxRecDepth 100000
set_option maxHeartbeats 4000000
set_option pp.maxSteps 300
namespace Vf
open PySem PySem.Spec PyProof.Rows L2
variable {W : Wd}
/-! ### kinds of own rooms (k06) -/
section
variable {p : Addr} {ks l : List Nat}
end
/-! ### rows of drawn numbers -/
section
variable {n : Nat} {l : List Int}
end
end Vf
set_option Elab.async false
set_option linter.all false
set_option maxRecDepth 100000
set_option maxHeartbeats 4000000
set_option pp.maxSteps 300
namespace Vf
open PySem PySem.Spec PyProof.Rows L2
variable {W : Wd}
section
variable {Ds : EnvT W} {ta tb : TE} {tu : TS} {d : Dn W} {xs : List V} {i j : Nat} {K : PySem.W.Frag}
end
/-! ### k06: the spoilt row -/
end Vf
set_option Elab.async false
set_option linter.all false
set_option maxRecDepth 100000
set_option maxHeartbeats 4000000
set_option pp.maxSteps 300
namespace Vf
open PySem PySem.Spec PyProof.Rows L2
variable {W : Wd}
/-! ### k06: rooms by fours of eight and sixteen places -/
section
variable {n : Nat} {X B : List Nat}
end
end Vf
set_option Elab.async false
set_option linter.all false
set_option maxRecDepth 100000
set_option maxHeartbeats 400000
set_option pp.maxSteps 300
namespace Vf
open PySem PySem.Spec PyProof.Rows L2
variable {W : Wd}
/-! ### own lists: pairs, e8, d12 beside one another -/
section
variable {n : Nat} {p : Addr}
end
/-! ### shadows of still rooms, word by word -/
section
variable {n j v : Nat} {B ws L : List Nat}
end
/-! the words of a list, as they are found -/
/-! weights, bit by bit -/
/-! ### k34's own promises -/
section
variable {n : Nat} {ws l l2 : List Nat} {C Pt p : Addr} {B S : List Nat}
end
end Vf
set_option Elab.async false
set_option linter.all false
set_option maxRecDepth 100000
set_option maxHeartbeats 400000
set_option pp.maxSteps 300
namespace Vf
open PySem PySem.Spec PyProof.Rows L2
variable {W : Wd}
/-! ### two families of own rooms by fours -/
section
variable {n u w : Nat} {A B D F H : List Nat}
end
end Vf
set_option Elab.async false
set_option linter.all false
set_option maxRecDepth 100000
set_option maxHeartbeats 400000
set_option pp.maxSteps 300
namespace Vf
open PySem PySem.Spec PyProof.Rows L2
variable {W : Wd}
section
variable {Ds : EnvT W} {ds : List (Dn W)} {ta : TA} {ts : TS} {i j : Nat} {K : PySem.W.Frag}
end
/-! ### half rooms and their fill-ups -/
section
variable {n w t : Nat} {A B D E H : List Nat}
end
/-! ### e8 -/
/-! ### halves of e8 -/
section
variable {E : List Nat} {w : Nat}
end
/-! ### k05's own promises -/
section
variable {C Pt p : Addr} {n : Nat} {A B : List Nat} {l : List (List Nat)}
end
end Vf
set_option Elab.async false
set_option linter.all false
set_option maxRecDepth 100000
set_option maxHeartbeats 400000
set_option pp.maxSteps 300
namespace Vf
open PySem PySem.Spec PyProof.Rows L2
variable {W : Wd}
/-! ### all neighbours of an own room -/
section
variable {n v w r x : Nat} {A B D : List Nat} {C Pt : Addr}
end
end Vf
set_option Elab.async false
set_option linter.all false
set_option maxRecDepth 100000
set_option maxHeartbeats 400000
set_option pp.maxSteps 300
namespace Vf
open PySem PySem.Spec PyProof.Rows L2
variable {W : Wd}
/-! ### words by fours that a room by fours lacks -/
section
variable {n v w o : Nat} {A B D N T H : List Nat}
def LackF (n : Nat) (B : List Nat) (v : Nat) : Prop := v < 2 ^ n ∧ ¬ span B v ∧ uneven v = false
/-! all neighbours by fours of a room of eight places -/
end
/-! ### k42's own promises -/
section
variable {C Pt p : Addr} {n w : Nat} {B ws : List Nat} {l : List (List Nat)}
structure NspL (i : List Nat) : Prop where
  ln : i.length ≤ 12
def sp_nspanL : Sp := spW (ι := List Nat) (fun _ i => NspL i) (fun _ i => [dVs i]) fun _ i => dVs (wordsOf (bas i))
theorem sd_nspanL (h : ws.length ≤ 12) : SpD sp_nspanL [] [(dVs ws : Dn W)] (dVs (wordsOf (bas ws))) := spW_sd (i := ws) ⟨h⟩
end
end Vf
set_option Elab.async false
set_option linter.all false
set_option maxRecDepth 100000
set_option maxHeartbeats 400000
set_option pp.maxSteps 300
namespace Vf
open PySem PySem.Spec PyProof.Rows L2
variable {W : Wd}
/-! ### binomial numbers -/
/-! ### the rows of all neighbours together -/
section
variable {n v w j : Nat} {A B : List Nat}
end
/-! ### k04's own promises -/
section
variable {C Pt p : Addr} {n : Nat} {A B L ws : List Nat}
end
end Vf
set_option Elab.async false
set_option linter.all false
set_option maxRecDepth 100000
set_option maxHeartbeats 400000
set_option pp.maxSteps 300
namespace L2
open PySem PySem.Spec PyProof.Rows
section
variable {X : Cx}
end
end L2
namespace Vf
open PySem PySem.Spec PyProof.Rows L2
variable {W : Wd}
end Vf
set_option Elab.async false
set_option linter.all false
set_option maxRecDepth 100000
set_option maxHeartbeats 400000
set_option pp.maxSteps 300
namespace Vf
open PySem PySem.Spec PyProof.Rows L2
variable {W : Wd}
/-! ### k04: a pick of numbers or rooms -/
section
variable {C p : Addr} {n : Nat} {l : List Nat} {ls : List (List Nat)}
end
/-! ### k04: lists at their last, sums of rows -/
section
variable {n j k w : Nat} {A B L : List Nat} {F : List (List Nat)} {K : PySem.W.Frag}
end
end Vf
namespace Vf
open PySem PySem.Spec PyProof.Rows L2
end Vf
namespace L2
open PySem PySem.Spec PyProof.Rows Vf
end L2
namespace Vf
open PySem PySem.Spec PyProof.Rows L2
end Vf
set_option Elab.async false
set_option linter.all false
set_option maxRecDepth 100000
set_option maxHeartbeats 400000
set_option pp.maxSteps 300
namespace L2
open PySem PySem.Spec PyProof.Rows
section
variable {X : Cx} {C : Addr} {bmB : List Value} {B newId initId : String}
end
end L2
namespace Vf
open PySem PySem.Spec PyProof.Rows L2
section
variable {P : Program} {w : World} {K : PySem.W.Frag} {mg : Str → Option Value} {base : Heap} {x qual : Str} {st : Stmt} {f CE : Addr} {fd : FuncData} {N ps : List Str} {k : Nat}
  {ι : Type} {Pr : Wd → ι → Prop} {ds : (W : Wd) → ι → List (Dn W)} {ok : ι → Bool} {d : (W : Wd) → ι → Dn W}
end
/-! ### k46's promises -/
section
variable {W : Wd} {C CE p : Addr} {n r w : Nat} {A B : List Nat}
/-- a word that a room lacks, its weight leaves r by 4 -/
def LackR (n : Nat) (B : List Nat) (r v : Nat) : Prop := v < 2 ^ n ∧ ¬ span B v ∧ pc v % 4 = r
theorem LackR.f (h : LackR n B 0 w) : LackF n B w := ⟨h.1, h.2.1, (uneven_no w).mpr h.2.2⟩
end
end Vf
set_option Elab.async false
set_option linter.all false
set_option maxRecDepth 100000
set_option maxHeartbeats 400000
set_option pp.maxSteps 300
namespace Vf
open PySem PySem.Spec PyProof.Rows L2
/-! ### words as sets of places -/
section
variable {a b s t w n k : Nat} {B l l2 : List Nat}
/-- all places of a are on in s -/
def InB (a s : Nat) : Prop := ∀ k, a.testBit k = true → s.testBit k = true
/-- none is -/
def OfB (a s : Nat) : Prop := ∀ k, a.testBit k = true → s.testBit k = false
theorem OfB.symm (h : OfB a b) : OfB b a := fun k hk => by
  cases e : a.testBit k with
  | false => rfl
  | true => rw [h k e] at hk; cases hk
theorem and_inB : a &&& s = a ↔ InB a s := by
  constructor
  · intro h k hk
    rw [← h, Nat.testBit_and, Bool.and_eq_true] at hk
    exact hk.2
  · intro h
    refine Nat.eq_of_testBit_eq fun k => ?_
    rw [Nat.testBit_and]
    cases e : a.testBit k with
    | false => rfl
    | true => rw [h k e]; rfl
theorem and_ofB : a &&& s = 0 ↔ OfB a s := by
  constructor
  · intro h k hk
    have := congrArg (fun x => x.testBit k) h
    simp only [Nat.testBit_and, Nat.zero_testBit, hk, Bool.true_and] at this
    exact this
  · intro h
    refine Nat.eq_of_testBit_eq fun k => ?_
    rw [Nat.testBit_and, Nat.zero_testBit]
    cases e : a.testBit k with
    | false => rfl
    | true => rw [h k e]; rfl
theorem bit_ex (h : a ≠ 0) : ∃ k, a.testBit k = true := Classical.byContradiction fun c => h (Nat.eq_of_testBit_eq fun k => by
  rw [Nat.zero_testBit]
  cases e : a.testBit k with
  | false => rfl
  | true => exact (c ⟨k, e⟩).elim)
theorem bit_ltN (h : a < 2 ^ n) (hk : a.testBit k = true) : k < n := Decidable.byContradiction fun c => by
  rw [Nat.testBit_lt_two_pow (Nat.lt_of_lt_of_le h (Nat.pow_le_pow_right (by decide) (show n ≤ k by omega)))] at hk
  cases hk
theorem add_or : ∀ (n a b : Nat), a < 2 ^ n → OfB a b → a + b = a ||| b
  | 0, a, b, h, d => by
    have : a = 0 := by simpa using h
    rw [this, Nat.zero_add, Nat.zero_or]
  | n + 1, a, b, h, d => by
    have d0 := d 0
    rw [Nat.testBit_zero, Nat.testBit_zero] at d0
    have hm : a % 2 + b % 2 ≤ 1 := by
      by_cases e : a % 2 = 1
      · have := of_decide_eq_false (d0 (decide_eq_true e))
        omega
      · omega
    have hd : (a + b) / 2 = a / 2 + b / 2 := by omega
    have ih := add_or n (a / 2) (b / 2) (by rw [Nat.pow_succ] at h; omega) fun k hk => by
      rw [← Nat.testBit_succ] at hk ⊢
      exact d (k + 1) hk
    refine Nat.eq_of_testBit_eq fun k => ?_
    cases k with
    | zero =>
      rw [Nat.testBit_or, Nat.testBit_zero, Nat.testBit_zero, Nat.testBit_zero]
      by_cases e : a % 2 = 1
      · rw [decide_eq_true e, decide_eq_true (show (a + b) % 2 = 1 by omega)]
        rfl
      · rw [decide_eq_false e, Bool.false_or]
        exact decide_eq_decide.mpr (by omega)
    | succ k => rw [Nat.testBit_or, Nat.testBit_succ, Nat.testBit_succ, Nat.testBit_succ, hd, ih, Nat.testBit_or]
theorem sum_bit {n : Nat} : ∀ {l : List Nat}, l.Pairwise OfB → (∀ s ∈ l, s < 2 ^ n) → ∀ k, l.sum.testBit k = true ↔ ∃ s ∈ l, s.testBit k = true
  | [], _, _, k => by simp
  | a :: r, h, lt, k => by
    have hp := List.pairwise_cons.mp h
    have ih := sum_bit hp.2 fun s hs => lt s (List.mem_cons_of_mem _ hs)
    have of : OfB a r.sum := fun j hj => by
      cases e : r.sum.testBit j with
      | false => rfl
      | true =>
        obtain ⟨s, hs, b⟩ := (ih j).mp e
        rw [hp.1 s hs j hj] at b
        cases b
    rw [List.sum_cons, add_or n a _ (lt a (List.mem_cons_self ..)) of, Nat.testBit_or, Bool.or_eq_true, ih k]
    constructor
    · rintro (h | ⟨s, hs, b⟩)
      · exact ⟨a, List.mem_cons_self .., h⟩
      · exact ⟨s, List.mem_cons_of_mem _ hs, b⟩
    · rintro ⟨s, hs, b⟩
      rcases List.mem_cons.mp hs with rfl | hs
      · exact .inl b
      · exact .inr ⟨s, hs, b⟩
theorem sum_ltB {l : List Nat} (h : l.Pairwise OfB) (lt : ∀ s ∈ l, s < 2 ^ n) : l.sum < 2 ^ n := Nat.lt_pow_two_of_testBit _ fun k hk => by
  cases e : l.sum.testBit k with
  | false => rfl
  | true =>
    obtain ⟨s, hs, b⟩ := (sum_bit h lt k).mp e
    have := bit_ltN (lt s hs) b
    omega
/-! ### words that part a room -/
def ClB (a s : Nat) : Prop := OfB a s ∨ InB a s
/-- the room is what lies in s beside what lies off s -/
def SepB (B : List Nat) (s : Nat) : Prop := ∀ v, span B v → span B (v &&& s)
theorem xor_andR (a b s : Nat) : (a ^^^ b) &&& s = (a &&& s) ^^^ (b &&& s) := Nat.eq_of_testBit_eq fun k => by
  simp only [Nat.testBit_and, Nat.testBit_xor]
  cases a.testBit k <;> cases b.testBit k <;> cases s.testBit k <;> rfl
theorem sepB_gen (h : ∀ b ∈ B, span B (b &&& s)) : SepB B s := fun v hv => hv (fun v => span B (v &&& s)) ⟨by show span B (0 &&& s); rw [Nat.zero_and]; exact span_zero B, fun a b ha hb => by
  show span B ((a ^^^ b) &&& s)
  rw [xor_andR]
  exact span_xor ha hb⟩ h
theorem sepB_iff (pl : Piv B) : SepB B s ↔ ∀ b ∈ B, ClB b s := by
  constructor
  · intro h b hb
    have su := h b (span_mem hb)
    have tb : b.testBit b.log2 = true := top_bit (pl.2 b hb)
    have off : ∀ c ∈ B, c ≠ b → (b &&& s).testBit c.log2 = false := fun c hc ne => by
      rw [Nat.testBit_and, piv_off pl hc hb ne]
      rfl
    have zero : ∀ u, span B u → (∀ c ∈ B, u.testBit c.log2 = false) → u = 0 := fun u hu ho => by
      have a := rest_same pl ho
      rw [(rest_zero pl u).mpr hu] at a
      exact a.symm
    cases e : (b &&& s).testBit b.log2 with
    | false =>
      refine .inl (and_ofB.mp (zero _ su fun c hc => ?_))
      by_cases k : c = b
      · rw [k]; exact e
      · exact off c hc k
    | true =>
      refine .inr (and_inB.mp ?_)
      have := zero ((b &&& s) ^^^ b) (span_xor su (span_mem hb)) fun c hc => by
        rw [Nat.testBit_xor]
        by_cases k : c = b
        · rw [k, e, tb]; rfl
        · rw [off c hc k, piv_off pl hc hb k]; rfl
      have h2 := congrArg (fun x => x ^^^ b) this
      simp only [Nat.xor_assoc, Nat.xor_self, Nat.xor_zero, Nat.zero_xor] at h2
      exact h2
  · intro h
    refine sepB_gen fun b hb => ?_
    rcases h b hb with k | k
    · rw [and_ofB.mpr k]; exact span_zero B
    · rw [and_inB.mpr k]; exact span_mem hb
/-- the places shared out -/
structure Lots (n : Nat) (l : List Nat) : Prop where
  nz : ∀ s ∈ l, s ≠ 0
  dj : l.Pairwise OfB
  cov : ∀ k < n, ∃ s ∈ l, s.testBit k = true
  lt : ∀ s ∈ l, s < 2 ^ n
def putT (l : List Nat) (w : Nat) : List Nat := (l.filter fun t => decide (t &&& w = 0)) ++ [(l.filter fun t => !decide (t &&& w = 0)).sum]
theorem Lots.met (h : Lots n l) (w : Nat) : (l.filter fun t => !decide (t &&& w = 0)).Pairwise OfB ∧ ∀ s ∈ l.filter (fun t => !decide (t &&& w = 0)), s < 2 ^ n := ⟨h.dj.sublist List.filter_sublist, fun s hs => h.lt s (List.mem_filter.mp hs).1⟩
theorem met_bit (h : Lots n l) : ((l.filter fun t => !decide (t &&& w = 0)).sum).testBit k = true ↔ ∃ t ∈ l, t &&& w ≠ 0 ∧ t.testBit k = true := by
  rw [sum_bit (h.met w).1 (h.met w).2 k]
  constructor
  · rintro ⟨t, ht, b⟩
    obtain ⟨m, d⟩ := List.mem_filter.mp ht
    exact ⟨t, m, by simpa using d, b⟩
  · rintro ⟨t, m, d, b⟩
    exact ⟨t, List.mem_filter.mpr ⟨m, by simpa using d⟩, b⟩
theorem pair_or {l : List Nat} {a b : Nat} (h : l.Pairwise OfB) (ha : a ∈ l) (hb : b ∈ l) : a = b ∨ OfB a b ∨ OfB b a := by
  induction l with
  | nil => cases ha
  | cons x r ih =>
    have hp := List.pairwise_cons.mp h
    rcases List.mem_cons.mp ha with rfl | ha
    · rcases List.mem_cons.mp hb with e | hb
      · exact .inl e.symm
      · exact .inr (.inl (hp.1 b hb))
    · rcases List.mem_cons.mp hb with e | hb
      · exact .inr (.inr (e ▸ hp.1 a ha))
      · exact ih hp.2 ha hb
theorem put_lots (h : Lots n l) (w0 : w ≠ 0) (wn : w < 2 ^ n) : Lots n (putT l w) := by
  obtain ⟨k, hk⟩ := bit_ex w0
  obtain ⟨t, ht, bt⟩ := h.cov k (bit_ltN wn hk)
  have tw : t &&& w ≠ 0 := fun z => by rw [and_ofB.mp z k bt] at hk; cases hk
  have mk := (met_bit h (w := w) (k := k)).mpr ⟨t, ht, tw, bt⟩
  refine ⟨fun s hs => ?_, ?_, fun j hj => ?_, fun s hs => ?_⟩
  · rcases List.mem_append.mp hs with m | m
    · exact h.nz s (List.mem_filter.mp m).1
    · rw [List.mem_singleton.mp m]
      intro z
      rw [z, Nat.zero_testBit] at mk
      cases mk
  · refine List.pairwise_append.mpr ⟨h.dj.sublist List.filter_sublist, List.pairwise_singleton .., fun a ha b hb => ?_⟩
    rw [List.mem_singleton.mp hb]
    obtain ⟨ma, da⟩ := List.mem_filter.mp ha
    intro j hj
    cases e : ((l.filter fun t => !decide (t &&& w = 0)).sum).testBit j with
    | false => rfl
    | true =>
      obtain ⟨t, m, d, b⟩ := (met_bit h).mp e
      have ne : a ≠ t := fun z => by subst z; exact d (of_decide_eq_true da)
      have o : OfB a t := by
        rcases pair_or h.dj ma m with z | z | z
        · exact (ne z).elim
        · exact z
        · exact z.symm
      rw [o j hj] at b
      cases b
  · obtain ⟨t, ht, bt⟩ := h.cov j hj
    by_cases d : t &&& w = 0
    · exact ⟨t, List.mem_append_left _ (List.mem_filter.mpr ⟨ht, decide_eq_true d⟩), bt⟩
    · exact ⟨_, List.mem_append_right _ (List.mem_singleton.mpr rfl), (met_bit h).mpr ⟨t, ht, d, bt⟩⟩
  · rcases List.mem_append.mp hs with m | m
    · exact h.lt s (List.mem_filter.mp m).1
    · rw [List.mem_singleton.mp m]
      exact sum_ltB (h.met w).1 (h.met w).2
/-- what is a union of lots -/
def UnB (l : List Nat) (s : Nat) : Prop := ∀ t ∈ l, ClB t s
theorem put_un (h : Lots n l) (w0 : w ≠ 0) (wn : w < 2 ^ n) : UnB (putT l w) s ↔ UnB l s ∧ ClB w s := by
  have wm : InB w (l.filter fun t => !decide (t &&& w = 0)).sum := fun k hk => by
    obtain ⟨t, ht, bt⟩ := h.cov k (bit_ltN wn hk)
    exact (met_bit h).mpr ⟨t, ht, (fun z => by rw [and_ofB.mp z k bt] at hk; cases hk), bt⟩
  have tm : ∀ t ∈ l, t &&& w ≠ 0 → InB t (l.filter fun t => !decide (t &&& w = 0)).sum := fun t ht d k hk => (met_bit h).mpr ⟨t, ht, d, hk⟩
  constructor
  · intro u
    have um := u _ (List.mem_append_right _ (List.mem_singleton.mpr rfl))
    refine ⟨fun t ht => ?_, ?_⟩
    · by_cases d : t &&& w = 0
      · exact u t (List.mem_append_left _ (List.mem_filter.mpr ⟨ht, decide_eq_true d⟩))
      · rcases um with o | i
        · exact .inl fun k hk => o k (tm t ht d k hk)
        · exact .inr fun k hk => i k (tm t ht d k hk)
    · rcases um with o | i
      · exact .inl fun k hk => o k (wm k hk)
      · exact .inr fun k hk => i k (wm k hk)
  · rintro ⟨u, c⟩ t ht
    rcases List.mem_append.mp ht with m | m
    · exact u t (List.mem_filter.mp m).1
    · rw [List.mem_singleton.mp m]
      have meet : ∀ t ∈ l, t &&& w ≠ 0 → ∃ k, t.testBit k = true ∧ w.testBit k = true := fun t _ d => by
        obtain ⟨k, hk⟩ := bit_ex d
        rw [Nat.testBit_and, Bool.and_eq_true] at hk
        exact ⟨k, hk.1, hk.2⟩
      rcases c with o | i
      · refine .inl fun k hk => ?_
        obtain ⟨t, ht, d, bt⟩ := (met_bit h).mp hk
        rcases u t ht with z | z
        · exact z k bt
        · obtain ⟨j, a, b⟩ := meet t ht d
          have := z j a
          rw [o j b] at this
          cases this
      · refine .inr fun k hk => ?_
        obtain ⟨t, ht, d, bt⟩ := (met_bit h).mp hk
        rcases u t ht with z | z
        · obtain ⟨j, a, b⟩ := meet t ht d
          have := z j a
          rw [i j b] at this
          cases this
        · exact z k bt
def lots0 (n : Nat) : List Nat := (List.range n).map fun p => 2 ^ p
theorem lots0_ok : Lots n (lots0 n) := by
  have bit : ∀ p k, (2 ^ p).testBit k = true ↔ p = k := fun p k => by rw [Nat.testBit_two_pow]; exact decide_eq_true_iff
  refine ⟨fun s hs => ?_, ?_, fun k hk => ⟨2 ^ k, List.mem_map_of_mem (List.mem_range.mpr hk), (bit k k).mpr rfl⟩, fun s hs => ?_⟩
  · obtain ⟨p, _, rfl⟩ := List.mem_map.mp hs
    exact Nat.pos_iff_ne_zero.mp (Nat.two_pow_pos p)
  · refine List.pairwise_map.mpr (List.Pairwise.imp (fun {a b} (ne : a ≠ b) => fun k hk => ?_) List.nodup_range)
    have e := (bit a k).mp hk
    cases c : (2 ^ b).testBit k with
    | false => rfl
    | true => exact (ne (e.trans ((bit b k).mp c).symm)).elim
  · obtain ⟨p, hp, rfl⟩ := List.mem_map.mp hs
    exact Nat.pow_lt_pow_right (by decide) (List.mem_range.mp hp)
theorem lots0_un : UnB (lots0 n) s := fun t ht => by
  obtain ⟨p, _, rfl⟩ := List.mem_map.mp ht
  have bit : ∀ k, (2 ^ p).testBit k = true → p = k := fun k hk => by rw [Nat.testBit_two_pow] at hk; exact of_decide_eq_true hk
  cases c : s.testBit p with
  | true => exact .inr fun k hk => bit k hk ▸ c
  | false => exact .inl fun k hk => bit k hk ▸ c
def partL (n : Nat) (B : List Nat) : List Nat := B.foldl putT (lots0 n)
theorem fold_lots (n : Nat) : ∀ (B l : List Nat), Lots n l → (∀ b ∈ B, b ≠ 0 ∧ b < 2 ^ n) → Lots n (B.foldl putT l) ∧ ∀ s, UnB (B.foldl putT l) s ↔ UnB l s ∧ ∀ b ∈ B, ClB b s
  | [], l, h, _ => ⟨h, fun s => ⟨fun u => ⟨u, by simp⟩, fun u => u.1⟩⟩
  | b :: B, l, h, hb => by
    obtain ⟨b0, bn⟩ := hb b (List.mem_cons_self ..)
    have h1 := put_lots h b0 bn
    obtain ⟨h2, u2⟩ := fold_lots n B (putT l b) h1 fun c hc => hb c (List.mem_cons_of_mem _ hc)
    refine ⟨h2, fun s => ?_⟩
    rw [List.foldl_cons, u2 s, put_un h b0 bn]
    constructor
    · rintro ⟨⟨u, c⟩, r⟩
      exact ⟨u, fun x hx => (List.mem_cons.mp hx).elim (fun e => e ▸ c) (r x)⟩
    · rintro ⟨u, r⟩
      exact ⟨⟨u, r b (List.mem_cons_self ..)⟩, fun x hx => r x (List.mem_cons_of_mem _ hx)⟩
theorem part_ok (f : RoomF n B) : Lots n (partL n B) ∧ ∀ s, UnB (partL n B) s ↔ SepB B s := by
  obtain ⟨h, u⟩ := fold_lots n B (lots0 n) lots0_ok fun b hb => ⟨f.pl.1.2 b hb, f.lt b hb⟩
  exact ⟨h, fun s => by rw [sepB_iff f.pl.1]; exact (u s).trans ⟨fun h => h.2, fun h => ⟨lots0_un, h⟩⟩⟩
theorem Lots.nd (h : Lots n l) : l.Nodup := h.dj.imp_of_mem fun {a b} ha hb o e => by
  subst e
  obtain ⟨k, hk⟩ := bit_ex (h.nz a ha)
  rw [o k hk] at hk
  cases hk
theorem Lots.self (h : Lots n l) (ht : t ∈ l) : UnB l t := fun a ha => by
  rcases pair_or h.dj ha ht with z | z | z
  · exact .inr (z ▸ fun _ k => k)
  · exact .inl z
  · exact .inl z.symm
noncomputable def partsL (n : Nat) (B : List Nat) : List (List Nat) := sortB ((partL n B).map spots)
end
/-! ### promises -/
section
variable {W : Wd} {C : Addr} {n w : Nat} {l B : List Nat}
structure PutP (i : List Nat × Nat) : Prop where
  ln : i.1.length ≤ 1000
def sp_put : Sp := spW (ι := List Nat × Nat) (fun _ i => PutP i) (fun _ i => [dVs i.1, dN i.2]) fun _ i => dVs (putT i.1 i.2)
theorem sd_put (h : l.length ≤ 1000) : SpD sp_put [] [(dVs l : Dn W), dN w] (dVs (putT l w)) := spW_sd (i := (l, w)) ⟨h⟩
noncomputable def sp_parts (C : Addr) : Sp := spW (ι := Nat × List Nat) (fun _ _ => True) (fun _ i => [dRoom C i.1 i.2]) fun W i => dLD (lD W (partsL i.1 i.2))
theorem sd_parts : SpD (sp_parts C) [] [(dRoom C n B : Dn W)] (dLD (lD W (partsL n B))) := spW_sd (i := (n, B)) trivial
theorem putT_len (l : List Nat) (w : Nat) : (putT l w).length ≤ l.length + 1 := by
  unfold putT
  rw [List.length_append]
  exact Nat.add_le_add_right (List.length_filter_le _ _) 1
theorem foldT_len : ∀ (B l : List Nat), (B.foldl putT l).length ≤ l.length + B.length
  | [], l => Nat.le_refl _
  | b :: B, l => by
    have a := foldT_len B (putT l b)
    have c := putT_len l b
    rw [List.foldl_cons, List.length_cons]
    omega
end
end Vf
set_option Elab.async false
set_option linter.all false
set_option maxRecDepth 100000
set_option maxHeartbeats 400000
set_option pp.maxSteps 300
namespace Vf
open PySem PySem.Spec PyProof.Rows L2
/-! ### tuples and lists of things, in each world -/
def uTD (us : List UD) : UD := ⟨fun W => dTD (uDs us W), fun hD _ _ z ⟨a, xs, e, g, h, o⟩ => ⟨a, xs, e, ⟨g, ne_of_none h z⟩, h, uDs_lift hD z o⟩,
  fun hD _ _ _ ⟨a, xs, e, g, h, o⟩ => ⟨a, xs, e, g, by rw [upd_ne g.2]; exact h, uDs_stay hD o⟩, fun hD _ _ ⟨a, xs, e, g, h, o⟩ => ⟨a, xs, e, g.1, h, uDs_drop hD o⟩⟩
def setAllU : List (Nat × UD) → List Nat → List UD → List (Nat × UD)
  | ue, i :: is, u :: us => setAllU ((i, u) :: ue) is us
  | ue, _, _ => ue
theorem setAll_u {N : Nat} {W : Wd} : ∀ (is : List Nat) (us : List UD) (ue : List (Nat × UD)), setAll (uEnv N ue W) is (uDs us W) = uEnv N (setAllU ue is us) W
  | [], _, _ => by cases ‹List UD› <;> rfl
  | i :: is, [], _ => rfl
  | i :: is, u :: us, ue => setAll_u is us ((i, u) :: ue)
variable {W : Wd}
theorem unp_goS {H : Hp} {Q : L2.St → Hp → Prop} {j : Nat} : ∀ {is : List Nat} {ds : List (Dn W)} {xs : List V} {Ds : EnvT W} {σ : L2.St}, is.length = ds.length → (∀ i ∈ is, i ≠ j) → OkL ds xs H → EnvL Ds σ H → (∀ σ', EnvL (setAll Ds is ds) σ' H → σ'[j]? = σ[j]? → Q σ' H) → gNames is xs σ H Q
  | [], [], [], _, σ, _, _, _, en, q => ⟨rfl, q σ en rfl⟩
  | i :: is, d :: ds, x :: xs, Ds, σ, hl, hj, ⟨o, os⟩, en, q => ⟨x, xs, rfl, unp_goS (is := is) (ds := ds) (by simpa using hl) (fun k hk => hj k (List.mem_cons_of_mem _ hk)) os (en.set o) fun σ' e s => q σ' e (by rw [s, List.getElem?_set_ne (hj i (List.mem_cons_self ..))])⟩
  | [], d :: ds, _, _, _, hl, _, _, _, _ => by simp at hl
  | i :: is, [], _, _, _, hl, _, _, _, _ => by simp at hl
  | [], [], _ :: _, _, _, _, _, o, _, _ => o.elim
  | _ :: _, _ :: _, [], _, _, _, _, o, _, _ => o.elim
section
variable {ι : Type} {i N n : Nat} {Ds : EnvT W} {ue : List (Nat × UD)} {us : List UD} {te : TE} {t : TA} {tu : TS} {K : PySem.W.Frag} {d : Dn W} {P : ι → Prop}
/-- a, b, .. = a tuple told in part, while a list grows -/
theorem ng_unpx {is : List Nat} {dr : ι → List UD} (h : ∀ W', Wle W W' → EV (uEnv N ue W') te (dEx P fun x => dTD (uDs (dr x) W'))) (h1 : ∀ x, (dr x).length = n) (h2 : is.length = n) (ne : ∀ k ∈ is, k ≠ i := by decide) :
    NVG W i N ue us (tAsg te (gTup K n (gNames is))) (fun x => setAllU ue is (dr x)) (fun _ => us) P := fun D σ H p fp s q =>
  h _ (away_le fp) σ H _ s.ainv s.env fun v H1 l1 ⟨x, px, a, xs, e, g, h3, o1⟩ => by
    subst e
    obtain ⟨s1, l2⟩ := s.go l1
    have ld : (uDs (dr x) (awayW W p fp)).length = n := by unfold uDs; rw [List.length_map]; exact h1 x
    exact ⟨a, xs, rfl, .inl (.inl h3), o1.length.trans ld, unp_goS (j := i) (h2.trans ld.symm) ne o1 s1.env fun σ' e' es => q x σ' H1 px ⟨es.trans s1.slot, s1.ct, s1.inv, by rw [← setAll_u]; exact e'⟩ l2⟩
/-- a new list of things, given one by one, that grows -/
theorem sv_newGL (ha : AV Ds t (uDs us W)) (hz : us.length ≤ 100000) (he : ∀ σ H, EnvL (Ds.set i none) σ H → EnvL (uEnv N ue W) σ H) (r : SVG i N ue us tu d) (hi : Nat.ble (i + 1) Ds.n = true := by rfl) : SV Ds (tSeq (tAsg (tLst t) (gName i)) tu) d := fun D σ H iv en q =>
  ha σ H _ iv en fun vs H1 l1 o1 => by
    have iv1 := W.step l1 iv
    refine ⟨?_, fun p np => ?_⟩
    · rw [o1.length]
      unfold uDs
      rw [List.length_map]
      exact Nat.le_of_lt (sl_lt hz)
    · have fp := W.fresh iv1 np
      have l : W.L H1 (upd H1 p (.lst vs)) := W.put0 iv1 np
      refine r D _ _ p fp ⟨?_, ⟨vs, upd_same, uDs_stay fp (uDs_lift fp np o1)⟩, W.step l iv1, uEnv_stay fp (uEnv_lift fp np (he _ _ (env_new (v := .ref p) (en.st l1))))⟩ fun v H2 l2 o2 => ?_
      · exact List.getElem?_set_self (by rw [en.1]; exact Nat.le_of_ble_eq_true hi)
      · rw [del_upd np] at l2
        exact q v H2 (W.trans l1 l2) o2
end
/-! ### told pieces: (name, places, words, own exchanges) -/
structure Pc where
  nm : Str
  n : Nat
  ws : List Nat
  x : Nat
deriving DecidableEq
def uPc (p : Pc) : UD := uTD [uV (.str p.nm), uN p.n, uVs p.ws, uN p.x]
/-- (name, first place, places, own exchanges) -/
structure Tl where
  nm : Str
  a : Nat
  n : Nat
  x : Nat
def uTl (p : Tl) : UD := uTD [uV (.str p.nm), uN p.a, uN p.n, uN p.x]
def pieces71 : List Pc := [⟨"off", 1, [], 1⟩, ⟨"on", 1, [1], 1⟩, ⟨"2", 2, [3], 2⟩, ⟨"d4", 4, [15], 24⟩, ⟨"d6", 6, [15, 60], 48⟩, ⟨"all5", 5, [31], 120⟩, ⟨"even3", 3, [3, 6], 6⟩, ⟨"e7", 7, [85, 102, 120], 168⟩, ⟨"e8", 8, [15, 60, 240, 170], 1344⟩, ⟨"d8", 8, [15, 60, 240], 384⟩, ⟨"d12", 12, [15, 60, 240, 960, 3840, 2730], 23040⟩]
section
variable {p : Addr} {l : List Pc} {names : List Str} {m : Nat}
def sp_pieces : Sp := spW (ι := Unit) (fun _ _ => True) (fun _ _ => []) fun W _ => dLD (uDs (pieces71.map uPc) W)
theorem sd_pieces : SpD sp_pieces [] [] (dLD (uDs (pieces71.map uPc) W)) := spW_sd (i := ()) trivial
structure Pk71 (W : Wd) (i : Addr × List Pc) : Prop where
  hp : IsPot W i.1
  n0 : 0 < i.2.length
  sm : i.2.length ≤ 1000
def sp_pick71 : Sp := spW (ι := Addr × List Pc) (fun W i => Pk71 W i) (fun W i => [dV (.ref i.1), dLD (uDs (i.2.map uPc) W)]) fun W i => dEx (fun c => c ∈ i.2) fun c => (uPc c).f W
theorem sd_pick71 (hp : IsPot W p) (h : 0 < l.length) (h2 : l.length ≤ 1000) : SpD sp_pick71 [] [dV (.ref p), dLD (uDs (l.map uPc) W)] (dEx (fun c => c ∈ l) fun c => (uPc c).f W) := spW_sd (i := (p, l)) ⟨hp, h, h2⟩
/-- pieces beside one another -/
def besN (cs : List Pc) : Nat := (cs.map fun c => c.n).sum
def besW71 : Nat → List Pc → List Nat
  | _, [] => []
  | a, c :: cs => (c.ws.map fun w => w <<< a) ++ besW71 (a + c.n) cs
def besT : Nat → List Pc → List Tl
  | _, [] => []
  | a, c :: cs => ⟨c.nm, a, c.n, c.x⟩ :: besT (a + c.n) cs
theorem besN_snoc (cs : List Pc) (c : Pc) : besN (cs ++ [c]) = besN cs + c.n := by
  unfold besN
  rw [List.map_append, List.sum_append]
  rfl
theorem besW_snoc (c : Pc) : ∀ (cs : List Pc) (a : Nat), besW71 a (cs ++ [c]) = besW71 a cs ++ c.ws.map fun w => w <<< (a + besN cs)
  | [], a => by simp [besW71, besN]
  | x :: cs, a => by
    rw [List.cons_append]
    show _ ++ besW71 (a + x.n) (cs ++ [c]) = (_ ++ besW71 (a + x.n) cs) ++ _
    rw [besW_snoc c cs, List.append_assoc, show besN (x :: cs) = x.n + besN cs from rfl, Nat.add_assoc]
theorem besT_snoc (c : Pc) : ∀ (cs : List Pc) (a : Nat), besT a (cs ++ [c]) = besT a cs ++ [⟨c.nm, a + besN cs, c.n, c.x⟩]
  | [], a => by simp [besT, besN]
  | x :: cs, a => by
    rw [List.cons_append]
    show _ :: besT (a + x.n) (cs ++ [c]) = (_ :: besT (a + x.n) cs) ++ _
    rw [besT_snoc c cs, show besN (x :: cs) = x.n + besN cs from rfl, Nat.add_assoc]
    rfl
/-- what _law_beside draws -/
structure Bes (names : List Str) (m : Nat) (cs : List Pc) : Prop where
  mem : ∀ c ∈ cs, c ∈ pieces71 ∧ c.nm ∈ names ∧ c.n ≤ m
  le : besN cs ≤ m
  ln : cs.length ≤ 6
def some71 (names : List Str) (m : Nat) : List Pc := pieces71.filter fun c => decide (c.nm ∈ names) && decide (c.n ≤ m)
structure Lb71 (W : Wd) (i : Addr × List Str × Nat) : Prop where
  hp : IsPot W i.1
  m24 : i.2.2 ≤ 24
  ex : 0 < (some71 i.2.1 i.2.2).length
def sp_beside71 : Sp := spW (ι := Addr × List Str × Nat) (fun W i => Lb71 W i) (fun _ i => [dV (.ref i.1), dLst (i.2.1.map V.str), dN i.2.2]) fun W i => dEx (fun cs => Bes i.2.1 i.2.2 cs ∧ cs ≠ []) fun cs => dTD [dN (besN cs), dVs (besW71 0 cs), dLD (uDs ((besT 0 cs).map uTl) W)]
theorem sd_beside71 (hp : IsPot W p) (h : m ≤ 24) (ex : 0 < (some71 names m).length) : SpD sp_beside71 [] [dV (.ref p), dLst (names.map V.str), dN m] (dEx (fun cs => Bes names m cs ∧ cs ≠ []) fun cs => dTD [dN (besN cs), dVs (besW71 0 cs), dLD (uDs ((besT 0 cs).map uTl) W)]) := spW_sd (i := (p, names, m)) ⟨hp, h, ex⟩
end
end Vf
namespace Vf
open PySem PySem.Spec PyProof.Rows L2
variable {W : Wd}
theorem inV_strs (a : Str) (l : List Str) : inV (.str a) (l.map V.str) = decide (a ∈ l) := by
  induction l with
  | nil => rfl
  | cons b l ih =>
    have e : inV (.str a) ((b :: l).map V.str) = (eqV (.str b) (.str a) || inV (.str a) (l.map V.str)) := rfl
    rw [e, ih, show eqV (.str b) (.str a) = decide (b = a) from rfl]
    by_cases k : b = a
    · subst k; simp
    · have k2 : ¬ a = b := fun z => k z.symm
      rw [decide_eq_false k, Bool.false_or]
      exact decide_eq_decide.mpr ⟨fun h => List.mem_cons_of_mem _ h, fun h => (List.mem_cons.mp h).resolve_left k2⟩
theorem flatV_strs (l : List Str) : (l.map V.str).all flatV = true := by
  induction l with
  | nil => rfl
  | cons b l ih => exact ih
theorem od_inStr {K : PySem.W.Frag} {a : Str} {l : List Str} : OpD (W := W) (rIn K false) (dV (.str a)) (dLst (l.map V.str)) (dB (decide (a ∈ l))) := fun u v H Q iv e1 ⟨b, e2, g2, h2⟩ k => by
  subst e2
  rw [show u = V.str a from e1]
  refine ⟨b, _, rfl, .inl (SqL.of h2), rfl, flatV_strs l, ?_⟩
  rw [if_neg (by simp), inV_strs]
  exact k _ H (W.refl H) rfl
end Vf
namespace Vf
open PySem PySem.Spec PyProof.Rows L2
theorem pieces_ok : ∀ c ∈ pieces71, c.ws.length ≤ 6 ∧ (∀ w ∈ c.ws, w ≤ 3840) ∧ 1 ≤ c.n := by decide
theorem some71_mem {names : List Str} {m : Nat} {c : Pc} : c ∈ some71 names m ↔ c ∈ pieces71 ∧ c.nm ∈ names ∧ c.n ≤ m := by
  unfold some71
  rw [List.mem_filter, Bool.and_eq_true, decide_eq_true_iff, decide_eq_true_iff]
theorem some71_len (names : List Str) (m : Nat) : (some71 names m).length ≤ 11 := List.length_filter_le _ pieces71
theorem besT_len : ∀ (cs : List Pc) (a : Nat), (besT a cs).length = cs.length
  | [], _ => rfl
  | c :: cs, a => by
    show (besT (a + c.n) cs).length + 1 = cs.length + 1
    rw [besT_len cs]
theorem besW_len71 : ∀ (cs : List Pc) (a : Nat), (∀ c ∈ cs, c ∈ pieces71) → (besW71 a cs).length ≤ 6 * cs.length
  | [], _, _ => Nat.le_refl _
  | c :: cs, a, h => by
    have i := besW_len71 cs (a + c.n) fun x hx => h x (List.mem_cons_of_mem _ hx)
    have b := (pieces_ok c (h c (List.mem_cons_self ..))).1
    show ((c.ws.map fun w => w <<< a) ++ besW71 (a + c.n) cs).length ≤ 6 * (cs.length + 1)
    rw [List.length_append, List.length_map]
    omega
end Vf
namespace Vf
open PySem PySem.Spec PyProof.Rows L2
section
variable {W : Wd} {l s : List Nat} {w n : Nat}
theorem shr_bit (w k : Nat) : decide (w / 2 ^ k % 2 = 1) = w.testBit k := by
  rw [Nat.testBit_eq_decide_div_mod_eq]
def sp_word71 : Sp := spW (ι := List Nat) (fun _ l => l.length ≤ 1000 ∧ ∀ k ∈ l, k ≤ 24) (fun _ l => [dVs l]) fun _ l => dN (l.map (2 ^ ·)).sum
theorem sd_word71 (h : l.length ≤ 1000) (h2 : ∀ k ∈ l, k ≤ 24) : SpD sp_word71 [] [(dVs l : Dn W)] (dN (l.map (2 ^ ·)).sum) := spW_sd (i := l) ⟨h, h2⟩
end
end Vf
set_option Elab.async false
set_option linter.all false
set_option maxRecDepth 100000
set_option maxHeartbeats 400000
set_option pp.maxSteps 300
namespace Vf
open PySem PySem.Spec PyProof.Rows L2
/-! ### [.. for a, b, c, d in a list of tuples of things] -/
theorem wipe_get (σ : L2.St) : ∀ (vs : List Nat) (j : Nat), (wipe σ vs)[j]? = if j ∈ vs ∧ j < σ.length then some none else σ[j]?
  | [], j => by simp [wipe]
  | v :: vs, j => by
    show ((wipe σ vs).set v none)[j]? = _
    rw [List.getElem?_set, wipe_length, wipe_get σ vs j]
    by_cases e : v = j
    · subst e
      by_cases l : v < σ.length
      · simp [l]
      · simp [l]
    · have e2 : ¬ j = v := fun z => e z.symm
      simp [e, e2]
theorem wipe_eq {σ τ : L2.St} {vs : List Nat} (hl : τ.length = σ.length) (h : ∀ j, j ∉ vs → τ[j]? = σ[j]?) : wipe τ vs = wipe σ vs := List.ext_getElem? fun j => by
  rw [wipe_get, wipe_get, hl]
  by_cases m : j ∈ vs
  · by_cases l : j < σ.length
    · rw [if_pos ⟨m, l⟩, if_pos ⟨m, l⟩]
    · rw [if_neg (fun z => l z.2), if_neg (fun z => l z.2), List.getElem?_eq_none (by omega), List.getElem?_eq_none (by omega)]
  · rw [if_neg (fun z => m z.1), if_neg (fun z => m z.1), h j m]
variable {W : Wd}
theorem unp_goW {H : Hp} {Q : L2.St → Hp → Prop} : ∀ {is : List Nat} {ds : List (Dn W)} {xs : List V} {Ds : EnvT W} {σ : L2.St}, is.length = ds.length → OkL ds xs H → EnvL Ds σ H → (∀ σ', EnvL (setAll Ds is ds) σ' H → σ'.length = σ.length → (∀ j, j ∉ is → σ'[j]? = σ[j]?) → Q σ' H) → gNames is xs σ H Q
  | [], [], [], _, σ, _, _, en, q => ⟨rfl, q σ en rfl fun _ _ => rfl⟩
  | i :: is, d :: ds, x :: xs, Ds, σ, hl, ⟨o, os⟩, en, q => ⟨x, xs, rfl, unp_goW (is := is) (ds := ds) (by simpa using hl) os (en.set o) fun σ' e l s => q σ' e (by rw [l, List.length_set]) fun j hj => by
      rw [List.mem_cons, not_or] at hj
      rw [s j hj.2, List.getElem?_set_ne (fun z => hj.1 z.symm)]⟩
  | [], d :: ds, _, _, _, hl, _, _, _ => by simp at hl
  | i :: is, [], _, _, _, hl, _, _, _ => by simp at hl
  | [], [], _ :: _, _, _, _, o, _, _ => o.elim
  | _ :: _, _ :: _, [], _, _, _, o, _, _ => o.elim
theorem env_wipeU {N : Nat} {ue : List (Nat × UD)} {σ : L2.St} {H : Hp} {is : List Nat} (h : EnvL (uEnv N ue W) σ H) (hn : ∀ p ∈ ue, p.1 ∉ is) : EnvL (uEnv N ue W) (wipe σ is) H := by
  refine ⟨(wipe_length ..).trans h.1, fun i d e lt => ?_⟩
  rw [wipe_length] at lt
  obtain ⟨v, e1, o⟩ := h.2 i d e lt
  refine ⟨v, ?_, o⟩
  have ni : i ∉ is := by
    have : ∃ p ∈ ue, p.1 = i := by
      have e0 : getE (ue.map fun p => (p.1, p.2.f W)) i = some d := e
      clear hn o e1 lt h e
      induction ue with
      | nil => cases e0
      | cons p l ih =>
        have e : (bif Nat.beq p.1 i then some (p.2.f W) else getE (l.map fun p => (p.1, p.2.f W)) i) = some d := e0
        cases c : Nat.beq p.1 i with
        | true => exact ⟨p, List.mem_cons_self .., Nat.eq_of_beq_eq_true c⟩
        | false =>
          rw [c] at e
          obtain ⟨q, hq, z⟩ := ih e
          exact ⟨q, List.mem_cons_of_mem _ hq, z⟩
    obtain ⟨p, hp, rfl⟩ := this
    exact hn p hp
  rw [wipe_get, if_neg (fun z => ni z.1)]
  exact e1
section
variable {ι : Type} {N n : Nat} {Ds : EnvT W} {tl te : TE} {K : PySem.W.Frag} {is : List Nat}
theorem ev_lcTs (ue : List (Nat × UD)) (us : List ι) (fu : ι → List UD) (gu : ι → UD) (hl : EV Ds tl (dLD (uDs (us.map fun u => uTD (fu u)) W))) (he : ∀ σ H, EnvL Ds σ H → EnvL (uEnv N ue W) σ H) (hz : us.length ≤ 100000)
    (hn : ∀ p ∈ ue, p.1 ∉ is) (h1 : ∀ u, (fu u).length = n) (h2 : is.length = n) (hb : ∀ (W' : Wd), ∀ u ∈ us, EV (uEnv N (setAllU ue is (fu u)) W') te ((gu u).f W')) : EV Ds (tLc (iList K tl) (gTup K n (gNames is)) tYes te is) (dLD (uDs (us.map gu) W)) := fun σ H Q iv en q =>
  hl σ H _ iv en fun v H1 l1 ⟨a, xs, e, ga, h, oxs⟩ => by
    subst e
    have iv1 := W.step l1 iv
    have len := oxs.length
    unfold uDs at len
    rw [List.length_map, List.length_map] at len
    refine ⟨a, rfl, ⟨xs, .inl (.inl h)⟩, fun D nD => ?_⟩
    have fD : W.F D := W.fresh iv1 nD
    have en1 := uEnv_lift fD nD (he _ _ (en.st l1))
    have ox1 := uDs_lift fD nD oxs
    refine lc_list (K := K) (a := a) (xs := xs) (fun k H' => W.L H1 H' ∧ (∃ ys, H' D = some (.lst ys) ∧ OkL (uDs ((us.map gu).take k) (awayW W D fD)) ys H') ∧ EnvL (uEnv N ue (awayW W D fD)) σ H' ∧ OkL (uDs (us.map fun u => uTD (fu u)) (awayW W D fD)) xs H')
      ⟨W.put0 iv1 nD, ⟨[], upd_same, trivial⟩, uEnv_stay fD en1, uDs_stay fD ox1⟩ (fun k H' _ hP => .inl (.inl (W.keep ga hP.1 h))) (fun k x H' hx hP => ?_) fun H' hP => ?_
    · obtain ⟨lP, ⟨ys, eD, oy⟩, eP, oP⟩ := hP
      have lk : k < us.length := by
        rw [← len]
        exact (List.getElem?_eq_some_iff.mp hx).1
      have hd : us[k]? = some us[k] := List.getElem?_eq_getElem lk
      obtain ⟨x', hx', ox⟩ := oP.get (k := k) (d := (uTD (fu us[k])).f (awayW W D fD)) (by unfold uDs; rw [List.getElem?_map, List.getElem?_map, hd]; rfl)
      rw [hx] at hx'
      cases hx'
      obtain ⟨t, zs, et, gt, ht, oz⟩ := ox
      have iv' : (awayW W D fD).inv H' := ⟨W.step lP iv1, ys, eD⟩
      have ld : (uDs (fu us[k]) (awayW W D fD)).length = n := by unfold uDs; rw [List.length_map]; exact h1 _
      refine ⟨t, zs, et, .inl (.inl ht), oz.length.trans ld, unp_goW (h2.trans ld.symm) oz (env_wipeU eP hn) fun σ' e' ll ss => ?_⟩
      rw [setAll_u] at e'
      refine ⟨?_, tv_yes (W := awayW W D fD) _ H' _ iv' e' fun H2 l2 => ?_⟩
      · rw [wipe_eq (σ := wipe σ is) ll ss]
        exact wipe_eq (wipe_length ..) fun j hj => by rw [wipe_get, if_neg (fun z => hj z.1)]
      refine (if_pos rfl).mpr (hb (awayW W D fD) us[k] (List.getElem_mem lk) _ H2 _ ((awayW W D fD).step l2 iv') (e'.st l2) fun y H3 l3 o3 => ?_)
      have l23 : (awayW W D fD).L H' H3 := (awayW W D fD).trans l2 l3
      have eD3 : H3 D = some (.lst ys) := W.keep fD l23 eD
      have ly := oy.length
      unfold uDs at ly
      rw [List.length_map, List.length_take, List.length_map] at ly
      refine ⟨ys, eD3, sl_lt (by omega), W.put iv1 (W.trans lP l23) nD, ⟨ys ++ [y], upd_same, ?_⟩, uEnv_stay fD (eP.st l23), uDs_stay fD (oP.st l23)⟩
      rw [List.take_add_one, List.getElem?_map, hd]
      have e2 : uDs ((us.map gu).take k ++ (Option.map gu (some us[k])).toList) (awayW W D fD) = uDs ((us.map gu).take k) (awayW W D fD) ++ [(gu us[k]).f (awayW W D fD)] := by
        unfold uDs
        rw [List.map_append]
        rfl
      rw [e2]
      exact OkL.app (uDs_stay fD (oy.st l23)) ⟨(gu us[k]).stay fD o3, trivial⟩
    · obtain ⟨lP, ⟨ys, eD, oy⟩, eP, oP⟩ := hP
      refine q _ H' (W.trans l1 lP) ⟨D, ys, rfl, fD, eD, ?_⟩
      have e3 : (us.map gu).take xs.length = us.map gu := List.take_of_length_le (by rw [List.length_map]; omega)
      rw [e3] at oy
      exact uDs_drop fD oy
end
end Vf
namespace Vf
open PySem PySem.Spec PyProof.Rows L2
section
variable {W : Wd} {p : Addr} {names : List Str} {m : Nat}
/-- (name, places, own exchanges), led -/
def uLot (s : List Nat) (t : Tl) : UD := uTD [uV (.str t.nm), uVs (sortN ((s.take (t.a + t.n)).drop t.a)), uN t.x]
def sp_room71 : Sp := spW (ι := Addr × List Str × Nat) (fun W i => Lb71 W i) (fun _ i => [dV (.ref i.1), dLst (i.2.1.map V.str), dN i.2.2]) fun W i => dEx (fun x : List Pc × List Nat => (Bes i.2.1 i.2.2 x.1 ∧ x.1 ≠ []) ∧ Seq (besN x.1) x.2) fun x => dTD [dN (besN x.1), dVs ((besW71 0 x.1).map (ledN x.2)), dLD (uDs ((besT 0 x.1).map (uLot x.2)) W), dVs x.2]
theorem sd_room71 (hp : IsPot W p) (h : m ≤ 24) (ex : 0 < (some71 names m).length) : SpD sp_room71 [] [dV (.ref p), dLst (names.map V.str), dN m] (dEx (fun x : List Pc × List Nat => (Bes names m x.1 ∧ x.1 ≠ []) ∧ Seq (besN x.1) x.2) fun x => dTD [dN (besN x.1), dVs ((besW71 0 x.1).map (ledN x.2)), dLD (uDs ((besT 0 x.1).map (uLot x.2)) W), dVs x.2]) := spW_sd (i := (p, names, m)) ⟨hp, h, ex⟩
theorem besT_a : ∀ (cs : List Pc) (a : Nat), ∀ t ∈ besT a cs, a ≤ t.a ∧ t.a + t.n ≤ a + besN cs
  | [], a, t, h => by cases h
  | c :: cs, a, t, h => by
    have e : besN (c :: cs) = c.n + besN cs := rfl
    rcases List.mem_cons.mp h with rfl | h
    · exact ⟨Nat.le_refl _, by show a + c.n ≤ a + besN (c :: cs); rw [e]; omega⟩
    · have := besT_a cs (a + c.n) t h
      rw [e]
      omega
end
end Vf
set_option Elab.async false
set_option linter.all false
set_option maxRecDepth 100000
set_option maxHeartbeats 400000
set_option pp.maxSteps 300
namespace Vf
open PySem PySem.Spec PyProof.Rows L2
variable {W : Wd}
section
variable {Ds Es : EnvT W} {te tb : TE} {tt : TT} {ts tu r : TS} {d : Dn W} {K : PySem.W.Frag} {xs : List V} {y : V} {i : Nat}
/-- what a branch leaves, told together -/
def NJ {ι : Type} (Ds : EnvT W) (ts : TS) (P : ι → Prop) (E : ι → EnvT W) : Prop := ∀ (D : Ends) (σ : L2.St) (H : Hp), W.inv H → EnvL Ds σ H → (∀ x σ' H', P x → W.L H H' → EnvL (E x) σ' H' → D.nx σ' H') → ts D σ H
theorem sv_ifJ {ι : Type} {P : ι → Prop} {E : ι → EnvT W} (h : TX Ds tt) (h1 : NJ Ds ts P E) (h2 : NJ Ds tu P E) (k : ∀ x, P x → SV (E x) r d) : SV Ds (tSeq (tIfS tt ts tu) r) d := fun D σ H iv en q =>
  h σ H _ iv en fun b H1 l1 => by
    cases b with
    | true => exact (if_pos rfl).mpr (h1 _ σ H1 (W.step l1 iv) (en.st l1) fun x σ' H' px l e => k x px D σ' H' (W.step l (W.step l1 iv)) e fun v H2 l2 o => q v H2 (W.trans l1 (W.trans l l2)) o)
    | false => exact (if_neg Bool.false_ne_true).mpr (h2 _ σ H1 (W.step l1 iv) (en.st l1) fun x σ' H' px l e => k x px D σ' H' (W.step l (W.step l1 iv)) e fun v H2 l2 o => q v H2 (W.trans l1 (W.trans l l2)) o)
theorem nj_setx {ι κ : Type} {P : ι → Prop} {E : ι → EnvT W} {R : κ → Prop} {f : κ → Dn W} (h : EV Ds te (dEx R f)) (k : ∀ x, R x → NJ (Ds.set i (some (f x))) tu P E) : NJ Ds (tSeq (tAsg te (gName i)) tu) P E := fun D σ H iv en q =>
  h σ H _ iv en fun v H1 l1 ⟨x, px, o1⟩ => k x px D _ H1 (W.step l1 iv) ((en.st l1).set o1) fun y σ' H' py l e => q y σ' H' py (W.trans l1 l) e
theorem nj_setl {ι κ : Type} {P : ι → Prop} {E : ι → EnvT W} {R : κ → Prop} {f : κ → Dn W} (h : EV Ds te (dEx R f)) (k : ∀ x, R x → ∃ y, P y ∧ ∀ σ H, EnvL (Ds.set i (some (f x))) σ H → EnvL (E y) σ H) : NJ Ds (tAsg te (gName i)) P E := fun D σ H iv en q =>
  h σ H _ iv en fun v H1 l1 ⟨x, px, o1⟩ => by
    obtain ⟨y, py, ey⟩ := k x px
    exact q y _ H1 py l1 (ey _ _ ((en.st l1).set o1))
theorem nj_unpl {ι κ : Type} {P : ι → Prop} {E : ι → EnvT W} {R : κ → Prop} {n : Nat} {is : List Nat} {dr : κ → List (Dn W)} (h : EV Ds te (dEx R fun x => dTD (dr x))) (h1 : ∀ x, (dr x).length = n) (h2 : is.length = n) (k : ∀ x, R x → ∃ y, P y ∧ ∀ σ H, EnvL (setAll Ds is (dr x)) σ H → EnvL (E y) σ H) : NJ Ds (tAsg te (gTup K n (gNames is))) P E := fun D σ H iv en q =>
  h σ H _ iv en fun v H1 l1 ⟨x, px, a, xs, e, g, h3, o1⟩ => by
    subst e
    obtain ⟨y, py, ey⟩ := k x px
    exact ⟨a, xs, rfl, .inl (.inl h3), o1.length.trans (h1 x), unp_go (h2.trans (h1 x).symm) o1 (en.st l1) fun σ' e' => q y σ' H1 py l1 (ey _ _ e')⟩
end
end Vf
namespace Vf
open PySem PySem.Spec PyProof.Rows L2
/-! ### pairs of still rooms -/
section
variable {W : Wd} {C p : Addr} {n m v w : Nat} {B L ws : List Nat} {names : List Str}
end
end Vf
namespace Vf
open PySem PySem.Spec PyProof.Rows L2
section
variable {W : Wd} {C p : Addr} {n m v w : Nat} {B L ws : List Nat} {names : List Str} {cs : List Pc}
theorem pieces_wn : ∀ c ∈ pieces71, c.ws.length ≤ c.n := by decide
theorem besW_lenN : ∀ (cs : List Pc) (a : Nat), (∀ c ∈ cs, c ∈ pieces71) → (besW71 a cs).length ≤ besN cs
  | [], _, _ => Nat.le_refl _
  | c :: cs, a, h => by
    have i := besW_lenN cs (a + c.n) fun x hx => h x (List.mem_cons_of_mem _ hx)
    have b := pieces_wn c (h c (List.mem_cons_self ..))
    show ((c.ws.map fun w => w <<< a) ++ besW71 (a + c.n) cs).length ≤ c.n + besN cs
    rw [List.length_append, List.length_map]
    omega
theorem besN_pos (h : ∀ c ∈ cs, c ∈ pieces71) (ne : cs ≠ []) : 1 ≤ besN cs := by
  cases cs with
  | nil => exact (ne rfl).elim
  | cons c cs =>
    have := (pieces_ok c (h c (List.mem_cons_self ..))).2.2
    show 1 ≤ c.n + besN cs
    omega
end
end Vf
namespace Vf
end Vf
set_option Elab.async false
set_option linter.all false
set_option maxRecDepth 100000
set_option maxHeartbeats 400000
set_option pp.maxSteps 300
namespace Vf
open PySem PySem.Spec PyProof.Rows L2
/-! ### part rooms: words told by some places -/
section
variable {n m v w k : Nat} {B l : List Nat}
theorem pow_bit (p k : Nat) : (2 ^ p).testBit k = true ↔ p = k := by rw [Nat.testBit_two_pow]; exact decide_eq_true_iff
theorem mask_bit (nd : l.Nodup) (lt : ∀ i ∈ l, i < n) (k : Nat) : ((l.map (2 ^ ·)).sum).testBit k = true ↔ k ∈ l := by
  have pw : (l.map (2 ^ ·)).Pairwise OfB := List.pairwise_map.mpr (nd.imp fun {a b} (ne : a ≠ b) => fun j hj => by
    have e := (pow_bit a j).mp hj
    cases c : (2 ^ b).testBit j with
    | false => rfl
    | true => exact (ne (e.trans ((pow_bit b j).mp c).symm)).elim)
  have lt2 : ∀ s ∈ l.map (2 ^ ·), s < 2 ^ n := fun s hs => by
    obtain ⟨i, hi, rfl⟩ := List.mem_map.mp hs
    exact Nat.pow_lt_pow_right (by decide) (lt i hi)
  rw [sum_bit pw lt2]
  constructor
  · rintro ⟨s, hs, b⟩
    obtain ⟨i, hi, rfl⟩ := List.mem_map.mp hs
    exact (pow_bit i k).mp b ▸ hi
  · intro h
    exact ⟨2 ^ k, List.mem_map_of_mem (f := (2 ^ ·)) h, (pow_bit k k).mpr rfl⟩
def toldL (l : List Nat) (v : Nat) : List Nat := (List.range l.length).map fun k => (v / 2 ^ l.getD k 0 % 2) <<< k
def toldW (l : List Nat) (v : Nat) : Nat := (toldL l v).sum
theorem told_at (v i k j : Nat) : ((v / 2 ^ i % 2) <<< k).testBit j = true ↔ j = k ∧ v.testBit i = true := by
  rw [Nat.testBit_shiftLeft, Nat.testBit_eq_decide_div_mod_eq (x := v) (i := i)]
  have m2 := Nat.mod_lt (v / 2 ^ i) (show 0 < 2 by decide)
  rcases (by omega : v / 2 ^ i % 2 = 0 ∨ v / 2 ^ i % 2 = 1) with z | z
  · rw [z, Nat.zero_testBit, Bool.and_false]
    simp
  · rw [z]
    constructor
    · intro h
      rw [Bool.and_eq_true, decide_eq_true_iff] at h
      refine ⟨?_, by simp⟩
      have := bit_ltN (a := 1) (n := 1) (by decide) h.2
      omega
    · rintro ⟨rfl, _⟩
      simp
theorem toldW_bit (l : List Nat) (v j : Nat) : (toldW l v).testBit j = true ↔ j < l.length ∧ v.testBit (l.getD j 0) = true := by
  have pw : (toldL l v).Pairwise OfB := List.pairwise_map.mpr (List.nodup_range.imp fun {a b} (ne : a ≠ b) => fun j hj => by
    have e := ((told_at v _ a j).mp hj).1
    cases c : ((v / 2 ^ l.getD b 0 % 2) <<< b).testBit j with
    | false => rfl
    | true => exact (ne (e.symm.trans ((told_at v _ b j).mp c).1)).elim)
  have lt : ∀ s ∈ toldL l v, s < 2 ^ l.length := fun s hs => by
    obtain ⟨k, hk, rfl⟩ := List.mem_map.mp hs
    have hk := List.mem_range.mp hk
    have m2 := Nat.mod_lt (v / 2 ^ l.getD k 0) (show 0 < 2 by decide)
    rw [Nat.shiftLeft_eq]
    refine Nat.lt_of_le_of_lt (Nat.mul_le_mul_right (2 ^ k) (show v / 2 ^ l.getD k 0 % 2 ≤ 1 by omega)) ?_
    rw [Nat.one_mul]
    exact Nat.pow_lt_pow_right (by decide) hk
  unfold toldW
  rw [sum_bit pw lt]
  constructor
  · rintro ⟨s, hs, b⟩
    obtain ⟨k, hk, rfl⟩ := List.mem_map.mp hs
    obtain ⟨rfl, b⟩ := (told_at v _ k j).mp b
    exact ⟨List.mem_range.mp hk, b⟩
  · rintro ⟨h, b⟩
    exact ⟨_, List.mem_map_of_mem (f := fun k => (v / 2 ^ l.getD k 0 % 2) <<< k) (List.mem_range.mpr h), (told_at v _ j j).mpr ⟨rfl, b⟩⟩
theorem toldW_b (l : List Nat) (v j : Nat) : (toldW l v).testBit j = (decide (j < l.length) && v.testBit (l.getD j 0)) := by
  have := toldW_bit l v j
  cases e : (toldW l v).testBit j with
  | true =>
    obtain ⟨a, b⟩ := this.mp e
    rw [decide_eq_true a, b]
    rfl
  | false =>
    cases h : (decide (j < l.length) && v.testBit (l.getD j 0)) with
    | false => rfl
    | true =>
      rw [Bool.and_eq_true, decide_eq_true_iff] at h
      rw [this.mpr h] at e
      cases e
theorem toldW_lin (l : List Nat) : LinF (toldW l) := fun a b => Nat.eq_of_testBit_eq fun j => by
  rw [Nat.testBit_xor, toldW_b, toldW_b, toldW_b, Nat.testBit_xor]
  cases decide (j < l.length) <;> simp
theorem toldW_lt (l : List Nat) (v : Nat) : toldW l v < 2 ^ l.length := Nat.lt_pow_two_of_testBit _ fun j hj => by
  rw [toldW_b, decide_eq_false (by omega), Bool.false_and]
/-- words within the places are told apart -/
theorem toldW_inj (nd : l.Nodup) (lt : ∀ i ∈ l, i < n) (hv : v &&& (l.map (2 ^ ·)).sum = v) (hw : w &&& (l.map (2 ^ ·)).sum = w) (e : toldW l v = toldW l w) : v = w := Nat.eq_of_testBit_eq fun k => by
  have iv := and_inB.mp hv
  have iw := and_inB.mp hw
  by_cases m : k ∈ l
  · obtain ⟨j, hj, rfl⟩ := List.mem_iff_getElem.mp m
    have g : l.getD j 0 = l[j] := by rw [List.getD_eq_getElem?_getD, List.getElem?_eq_getElem hj]; rfl
    have a := toldW_b l v j
    have b := toldW_b l w j
    rw [decide_eq_true hj, Bool.true_and, g] at a b
    rw [← a, ← b, e]
  · have z : ∀ x, InB x (l.map (2 ^ ·)).sum → x.testBit k = false := fun x i => by
      cases c : x.testBit k with
      | false => rfl
      | true => exact (m ((mask_bit nd lt k).mp (i k c))).elim
    rw [z v iv, z w iw]
/-- the part room of some places -/
noncomputable def partR (n : Nat) (B l : List Nat) : List Nat := bas ((lowB n (shoB n B (l.map (2 ^ ·)).sum)).map (toldW l))
theorem partR_span (f : RoomF n B) (u : Nat) : span (partR n B l) u ↔ ∃ v, span B v ∧ v &&& (l.map (2 ^ ·)).sum = v ∧ u = toldW l v := by
  unfold partR
  rw [bas_span, span_map (toldW_lin l)]
  constructor
  · rintro ⟨v, hv, e⟩
    obtain ⟨a, b⟩ := (shoB_span f.lt v).mp hv
    exact ⟨v, a, b, e⟩
  · rintro ⟨v, a, b, e⟩
    exact ⟨v, (shoB_span f.lt v).mpr ⟨a, b⟩, e⟩
end
end Vf
namespace Vf
open PySem PySem.Spec PyProof.Rows L2
section
variable {W : Wd} {C : Addr} {n v : Nat} {B l s : List Nat}
theorem toldW_iz (l : List Nat) (v : Nat) : ((List.range l.length).map fun k => (((v / 2 ^ l.getD k 0 &&& 1) <<< k : Nat) : Int)).sum = ((toldW l v : Nat) : Int) := by
  have e : ((List.range l.length).map fun k => (((v / 2 ^ l.getD k 0 &&& 1) <<< k : Nat) : Int)) = iz (toldL l v) := by
    unfold toldL iz
    rw [List.map_map]
    refine List.map_congr_left fun k _ => ?_
    rw [Nat.and_one_is_mod]
    rfl
  rw [e, iz_sum]
  rfl
structure Tby (i : Nat × List Nat) : Prop where
  v24 : i.1 < 2 ^ 24
  ln : i.2.length ≤ 24
  lt : ∀ k ∈ i.2, k < 24
def sp_told_by : Sp := spW (ι := Nat × List Nat) (fun _ i => Tby i) (fun _ i => [dN i.1, dLT i.2]) fun _ i => dN (toldW i.2 i.1)
theorem sd_told_by (v24 : v < 2 ^ 24) (ln : l.length ≤ 24) (lt : ∀ k ∈ l, k < 24) : SpD sp_told_by [] [(dN v : Dn W), dLT l] (dN (toldW l v)) := spW_sd (i := (v, l)) ⟨v24, ln, lt⟩
structure Prm (i : Nat × List Nat × List Nat) : Prop where
  nd : i.2.2.Nodup
  lt : ∀ k ∈ i.2.2, k < i.1
  pos : 0 < i.2.2.length
noncomputable def sp_part_room (C : Addr) : Sp := spW (ι := Nat × List Nat × List Nat) (fun _ i => Prm i) (fun _ i => [dRoom C i.1 i.2.1, dLT i.2.2]) fun _ i => dRoom C i.2.2.length (partR i.1 i.2.1 i.2.2)
theorem sd_part_room (nd : l.Nodup) (lt : ∀ k ∈ l, k < n) (pos : 0 < l.length) : SpD (sp_part_room C) [] [(dRoom C n B : Dn W), dLT l] (dRoom C l.length (partR n B l)) := spW_sd (i := (n, B, l)) ⟨nd, lt, pos⟩
/-- as many places as all, at most -/
theorem nd_len (nd : l.Nodup) (lt : ∀ k ∈ l, k < n) : l.length ≤ n := by
  have := List.Nodup.length_le_of_subset (l₂ := List.range n) nd fun k hk => List.mem_range.mpr (lt k hk)
  rwa [List.length_range] at this
end
end Vf
set_option Elab.async false
set_option linter.all false
set_option maxRecDepth 100000
set_option maxHeartbeats 400000
set_option pp.maxSteps 300
namespace Vf
open PySem PySem.Spec PyProof.Rows L2
section
variable {n v t u : Nat} {B l : List Nat}
/-- a word within the places, told and led back -/
theorem led_told (nd : l.Nodup) (lt : ∀ i ∈ l, i < n) (hv : v &&& (l.map (2 ^ ·)).sum = v) : ledN l (toldW l v) = v := by
  have iv := and_inB.mp hv
  refine led_ext (s := l) (fun j hj => ?_) fun i hi => ?_
  · rw [ledN_off nd _ hj]
    cases c : v.testBit j with
    | false => rfl
    | true =>
      obtain ⟨i, hi, e⟩ := List.mem_iff_getElem.mp ((mask_bit nd lt j).mp (iv j c))
      exact (hj ⟨i, hi, by rw [List.getD_eq_getElem?_getD, List.getElem?_eq_getElem hi]; exact e⟩).elim
  · rw [ledN_at nd _ hi, toldW_b, decide_eq_true hi, Bool.true_and]
/-- the words of a room within a word that parts it -/
theorem within_span (sp : SepB B t) (pl : Piv B) (v : Nat) : span (B.filter fun b => decide (b &&& t = b)) v ↔ span B v ∧ v &&& t = v := by
  constructor
  · intro h
    refine h (fun v => span B v ∧ v &&& t = v) ⟨⟨span_zero B, Nat.zero_and t⟩, fun a b ha hb => ⟨span_xor ha.1 hb.1, by rw [xor_andR, ha.2, hb.2]⟩⟩ fun b hb => ?_
    obtain ⟨m, e⟩ := List.mem_filter.mp hb
    exact ⟨span_mem m, of_decide_eq_true e⟩
  · rintro ⟨h, e⟩
    have key : span (B.filter fun b => decide (b &&& t = b)) (v &&& t) := h (fun v => span (B.filter fun b => decide (b &&& t = b)) (v &&& t)) ⟨by show span _ (0 &&& t); rw [Nat.zero_and]; exact span_zero _, fun a b ha hb => by
      show span _ ((a ^^^ b) &&& t)
      rw [xor_andR]
      exact span_xor ha hb⟩ fun b hb => by
        show span _ (b &&& t)
        rcases (sepB_iff pl).mp sp b hb with k | k
        · rw [and_ofB.mpr k]; exact span_zero _
        · have k := and_inB.mpr k
          rw [k]
          exact span_mem (List.mem_filter.mpr ⟨hb, decide_eq_true k⟩)
    rwa [e] at key
theorem part_len (f : RoomF n B) (sp : SepB B t) (tn : t < 2 ^ n) : (partR n B (spots t)).length = (B.filter fun b => decide (b &&& t = b)).length := by
  have t24 : t < 2 ^ 24 := Nat.lt_of_lt_of_le tn (pw_le f.n24)
  have nd := spots_nd t
  have es := spots_sum t24
  have lt : ∀ i ∈ spots t, i < 24 := fun i hi => ((spots_mem t i).mp hi).1
  have pI : Plain (B.filter fun b => decide (b &&& t = b)) := plain_sub List.filter_sublist f.pl
  obtain ⟨mI, ndI, lI⟩ := words_ok pI
  have pR : Plain (partR n B (spots t)) := bas_plain _
  obtain ⟨mR, ndR, lR⟩ := words_ok pR
  have pm : ((wordsOf (B.filter fun b => decide (b &&& t = b))).map (toldW (spots t))).Perm (wordsOf (partR n B (spots t))) := (List.perm_ext_iff_of_nodup (by
    unfold List.Nodup
    rw [List.pairwise_map]
    refine ndI.imp_of_mem fun {a b} ha hb ne e => ne ?_
    have wa := ((within_span sp f.pl.1 a).mp ((mI a).mp ha)).2
    have wb := ((within_span sp f.pl.1 b).mp ((mI b).mp hb)).2
    exact toldW_inj nd lt (by rw [es]; exact wa) (by rw [es]; exact wb) e) ndR).mpr fun u => by
      rw [mR, partR_span f, List.mem_map, es]
      constructor
      · rintro ⟨v, hv, rfl⟩
        obtain ⟨a, b⟩ := (within_span sp f.pl.1 v).mp ((mI v).mp hv)
        exact ⟨v, a, b, rfl⟩
      · rintro ⟨v, a, b, rfl⟩
        exact ⟨v, (mI v).mpr ((within_span sp f.pl.1 v).mpr ⟨a, b⟩), rfl⟩
  have e := pm.length_eq
  rw [List.length_map, lI, lR] at e
  exact ((Nat.pow_right_inj (by decide)).mp e).symm
/-- each word that is on somewhere, and within or off each lot, is within just one -/
theorem one_lot {l : List Nat} (h : Lots n l) (b0 : u ≠ 0) (bn : u < 2 ^ n) (c : UnB l u ∨ ∀ t ∈ l, ClB u t) (c2 : ∀ t ∈ l, ClB u t) : (l.filter fun t => decide (u &&& t = u)).length = 1 := by
  obtain ⟨k, hk⟩ := bit_ex b0
  obtain ⟨t, ht, bt⟩ := h.cov k (bit_ltN bn hk)
  have e : (l.filter fun t => decide (u &&& t = u)).Perm [t] := (List.perm_ext_iff_of_nodup (h.nd.filter _) (List.pairwise_singleton ..)).mpr fun s => by
    rw [List.mem_filter, decide_eq_true_iff, List.mem_singleton, and_inB]
    constructor
    · rintro ⟨m, i⟩
      rcases pair_or h.dj m ht with z | z | z
      · exact z
      · have := z k (i k hk); rw [bt] at this; cases this
      · have := z k bt; rw [i k hk] at this; cases this
    · rintro rfl
      refine ⟨ht, ?_⟩
      rcases c2 s ht with z | z
      · have := z k hk; rw [bt] at this; cases this
      · exact z
  rw [e.length_eq]
  rfl
theorem sum_ones : ∀ l : List Nat, (l.map fun _ => 1).sum = l.length
  | [] => rfl
  | a :: l => by rw [List.map_cons, List.sum_cons, sum_ones l, List.length_cons, Nat.add_comm]
theorem parts_dim (f : RoomF n B) : ((partsL n B).map fun l => (partR n B l).length).sum = B.length := by
  obtain ⟨L, un⟩ := part_ok f
  have sp : ∀ t ∈ partL n B, SepB B t := fun t ht => (un t).mp (L.self ht)
  have pm : ((partsL n B).map fun l => (partR n B l).length).Perm ((partL n B).map fun t => (partR n B (spots t)).length) := by
    have := (sortB_perm ((partL n B).map spots)).map fun l => (partR n B l).length
    rwa [List.map_map] at this
  rw [pm.sum_nat, List.map_congr_left fun t ht => part_len f (sp t ht) (L.lt t ht)]
  rw [swapG (fun t b => decide (b &&& t = b)) B (partL n B)]
  have one : (B.map fun b => ((partL n B).filter fun t => decide (b &&& t = b)).length) = B.map fun _ => 1 := List.map_congr_left fun b hb => one_lot L (f.pl.1.2 b hb) (f.lt b hb) (.inr fun t ht => (sepB_iff f.pl.1).mp (sp t ht) b hb) fun t ht => (sepB_iff f.pl.1).mp (sp t ht) b hb
  rw [one]
  exact sum_ones B
noncomputable def backL (n : Nat) (B : List Nat) : List Nat := (partsL n B).flatMap fun l => (partR n B l).map (ledN l)
theorem parts_back (f : RoomF n B) (v : Nat) : span (backL n B) v ↔ span B v := by
  obtain ⟨L, un⟩ := part_ok f
  have sp : ∀ t ∈ partL n B, SepB B t := fun t ht => (un t).mp (L.self ht)
  have t24 : ∀ t ∈ partL n B, t < 2 ^ 24 := fun t ht => Nat.lt_of_lt_of_le (L.lt t ht) (pw_le f.n24)
  have sl : ∀ t, ∀ i ∈ spots t, i < 24 := fun t i hi => ((spots_mem t i).mp hi).1
  constructor
  · refine fun h => span_sub (fun x hx => ?_) h
    obtain ⟨l, hl, hx⟩ := List.mem_flatMap.mp hx
    obtain ⟨u, hu, rfl⟩ := List.mem_map.mp hx
    obtain ⟨t, ht, rfl⟩ := List.mem_map.mp (sortB_mem.mp hl)
    obtain ⟨w, a, b, rfl⟩ := (partR_span f u).mp (span_mem hu)
    rw [led_told (spots_nd t) (sl t) b]
    exact a
  · refine fun h => span_sub (fun b hb => ?_) h
    obtain ⟨k, hk⟩ := bit_ex (f.pl.1.2 b hb)
    obtain ⟨t, ht, bt⟩ := L.cov k (bit_ltN (f.lt b hb) hk)
    have i : InB b t := by
      rcases (sepB_iff f.pl.1).mp (sp t ht) b hb with z | z
      · have := z k hk; rw [bt] at this; cases this
      · exact z
    have bm : b &&& ((spots t).map (2 ^ ·)).sum = b := by rw [spots_sum (t24 t ht)]; exact and_inB.mpr i
    have su : span (partR n B (spots t)) (toldW (spots t) b) := (partR_span f _).mpr ⟨b, span_mem hb, bm, rfl⟩
    have s2 : span ((partR n B (spots t)).map (ledN (spots t))) b := (span_map (ledN_lin (spots_nd t))).mpr ⟨_, su, (led_told (spots_nd t) (sl t) bm).symm⟩
    exact span_sub (fun x hx => span_mem (List.mem_flatMap.mpr ⟨spots t, sortB_mem.mpr (List.mem_map_of_mem ht), hx⟩)) s2
/-- the part room of all places is the room -/
theorem told_all (lt : v < 2 ^ n) : toldW (List.range n) v = v := Nat.eq_of_testBit_eq fun j => by
  rw [toldW_b, List.length_range]
  by_cases h : j < n
  · rw [decide_eq_true h, Bool.true_and, List.getD_eq_getElem?_getD, List.getElem?_range h]
    rfl
  · rw [decide_eq_false h, Bool.false_and, Nat.testBit_lt_two_pow (Nat.lt_of_lt_of_le lt (Nat.pow_le_pow_right (by decide) (by omega)))]
theorem part_all (f : RoomF n B) : partR n B (List.range n) = B := plain_unique (bas_plain _) f.pl fun v => by
  have all : ∀ w, w < 2 ^ n → w &&& ((List.range n).map (2 ^ ·)).sum = w := fun w lw => and_inB.mpr fun k hk => (mask_bit List.nodup_range (fun i hi => List.mem_range.mp hi) k).mpr (List.mem_range.mpr (bit_ltN lw hk))
  refine (partR_span f v).trans ⟨fun ⟨w, a, _, e⟩ => ?_, fun h => ⟨v, h, all v (span_lt f.lt h), (told_all (span_lt f.lt h)).symm⟩⟩
  rw [e, told_all (span_lt f.lt a)]
  exact a
end
end Vf
set_option Elab.async false
set_option linter.all false
set_option maxRecDepth 100000
set_option maxHeartbeats 400000
set_option pp.maxSteps 300
namespace Vf
open PySem PySem.Spec PyProof.Rows L2
section
variable {W : Wd} {i j N : Nat} {Ds : EnvT W} {ue : List (Nat × UD)} {tu : TS} {te tb : TE} {d d2 : Dn W} {K : PySem.W.Frag}
theorem ev_slXX {ι κ : Type} {P : ι → Prop} {g : ι → List Nat} {R : κ → Prop} {k : κ → Nat} (h : EV Ds te (dEx P fun x => dVs (g x))) (h2 : EV Ds tb (dEx R fun y => dN (k y))) : EV Ds (tSl (rSlL K) te tNoPart (tPart tb)) (dEx (fun z : ι × κ => P z.1 ∧ R z.2) fun z => dVs ((g z.1).take (k z.2))) := fun σ H Q iv en q =>
  h σ H _ iv en fun v H1 l1 ⟨x, px, o1⟩ => h2 σ H1 _ (W.step l1 iv) (en.st l1) fun u H2 l2 ⟨y, ry, o2⟩ => by
    have iv2 := W.step l2 (W.step l1 iv)
    obtain ⟨a, e, _, ha⟩ := (dVs (g x)).st l2 o1
    subst e
    refine ⟨k y, o2, a, _, rfl, SqL.of ha, fun p np => q _ _ (W.trans (W.trans l1 l2) (W.put0 iv2 np)) ⟨(x, y), ⟨px, ry⟩, p, rfl, W.fresh iv2 np, ?_⟩⟩
    rw [upd_same, cutTo', vs_take']
end
section
variable {W : Wd} {C p : Addr} {n v w m : Nat} {B l s ws : List Nat} {cs : List Pc}
theorem or_in {w m : Nat} : w ||| m = m ↔ w &&& m = w := by
  rw [and_inB]
  constructor
  · intro h k hk
    rw [← h, Nat.testBit_or, hk]
    rfl
  · intro h
    refine Nat.eq_of_testBit_eq fun k => ?_
    rw [Nat.testBit_or]
    cases c : w.testBit k with
    | false => rfl
    | true => rw [h k c]; rfl
theorem toldW_sum (l : List Nat) (v : Nat) : (((List.range l.length).filter fun k => v.testBit (l.getD k 0)).map (2 ^ ·)).sum = toldW l v := Nat.eq_of_testBit_eq fun j => by
  rw [toldW_b, Bool.eq_iff_iff, mask_bit (n := l.length) (List.nodup_range.filter _) (fun i hi => List.mem_range.mp (List.mem_filter.mp hi).1), List.mem_filter, List.mem_range, Bool.and_eq_true, decide_eq_true_iff]
structure Lldg (i : Nat × List Nat) : Prop where
  ln : i.2.length ≤ 24
  lt : ∀ k ∈ i.2, k ≤ 24
def sp_lledG : Sp := spW (ι := Nat × List Nat) (fun _ i => Lldg i) (fun _ i => [dN i.1, dVs i.2]) fun _ i => dN (ledN i.2 i.1)
theorem sd_lledG (ln : s.length ≤ 24) (lt : ∀ k ∈ s, k ≤ 24) : SpD sp_lledG [] [(dN w : Dn W), dVs s] (dN (ledN s w)) := spW_sd (i := (w, s)) ⟨ln, lt⟩
structure Lpw (i : Nat × List Nat × List Nat) : Prop where
  f : RoomF i.1 i.2.1
  l12 : i.2.1.length ≤ 12
  nd : i.2.2.Nodup
  lt : ∀ k ∈ i.2.2, k < i.1
noncomputable def sp_lpw72 : Sp := spW (ι := Nat × List Nat × List Nat) (fun _ i => Lpw i) (fun _ i => [dVs (wordsOf i.2.1), dVs i.2.2]) fun _ i => dVs (wordsOf (partR i.1 i.2.1 i.2.2))
theorem sd_lpw72 (f : RoomF n B) (l12 : B.length ≤ 12) (nd : l.Nodup) (lt : ∀ k ∈ l, k < n) : SpD sp_lpw72 [] [(dVs (wordsOf B) : Dn W), dVs l] (dVs (wordsOf (partR n B l))) := spW_sd (i := (n, B, l)) ⟨f, l12, nd, lt⟩
noncomputable def pwF (B l : List Nat) (L : List Nat) : List Nat := (L.filter fun w => decide (w ||| (l.map (2 ^ ·)).sum = (l.map (2 ^ ·)).sum)).map (toldW l)
theorem pwF_snoc (B l L : List Nat) (w : Nat) : pwF B l (L ++ [w]) = pwF B l L ++ (if w ||| (l.map (2 ^ ·)).sum = (l.map (2 ^ ·)).sum then [toldW l w] else []) := by
  unfold pwF
  rw [List.filter_append, List.map_append]
  by_cases h : w ||| (l.map (2 ^ ·)).sum = (l.map (2 ^ ·)).sum
  · rw [if_pos h, List.filter_cons_of_pos (p := fun w => decide (w ||| (l.map (2 ^ ·)).sum = (l.map (2 ^ ·)).sum)) (decide_eq_true h)]
    rfl
  · rw [if_neg h, List.filter_cons_of_neg (p := fun w => decide (w ||| (l.map (2 ^ ·)).sum = (l.map (2 ^ ·)).sum)) (by simpa using h)]
    rfl
theorem pwF_sort (f : RoomF n B) (nd : l.Nodup) (lt : ∀ k ∈ l, k < n) : sortN (pwF B l (wordsOf B)) = wordsOf (partR n B l) := by
  obtain ⟨mB, ndB, _⟩ := words_ok f.pl
  refine words_sort (bas_plain _) ?_ fun u => ?_
  · unfold pwF List.Nodup
    rw [List.pairwise_map]
    refine (ndB.filter _).imp_of_mem fun {a b} ha hb ne e => ne ?_
    exact toldW_inj nd lt (or_in.mp (of_decide_eq_true (List.mem_filter.mp ha).2)) (or_in.mp (of_decide_eq_true (List.mem_filter.mp hb).2)) e
  · rw [partR_span f]
    unfold pwF
    rw [List.mem_map]
    constructor
    · rintro ⟨v, hv, rfl⟩
      obtain ⟨a, b⟩ := List.mem_filter.mp hv
      exact ⟨v, (mB v).mp a, or_in.mp (of_decide_eq_true b), rfl⟩
    · rintro ⟨v, a, b, rfl⟩
      exact ⟨v, List.mem_filter.mpr ⟨(mB v).mpr a, decide_eq_true (or_in.mpr b)⟩, rfl⟩
/-- words of n places -/
structure Rm72 (x : Nat × List Nat) : Prop where
  n1 : 1 ≤ x.1
  n12 : x.1 ≤ 12
  ln : x.2.length ≤ 12
  lt : ∀ v ∈ x.2, v < 2 ^ x.1
def names72 : List Str := ["off", "on", "2", "d4", "d6", "even3", "e7"]
theorem rm72_room (b : Bes names72 12 cs) (ne : cs ≠ []) (hs : Seq (besN cs) s) : Rm72 (besN cs, (besW71 0 cs).map (ledN s)) := by
  have le := b.le
  have lw := besW_lenN cs 0 fun c hc => (b.mem c hc).1
  refine ⟨besN_pos (fun c hc => (b.mem c hc).1) ne, le, by show ((besW71 0 cs).map (ledN s)).length ≤ 12; rw [List.length_map]; omega, fun v hv => ?_⟩
  obtain ⟨u, _, rfl⟩ := List.mem_map.mp hv
  exact ledN_lt hs u
theorem offu_Vs (L : List (List Nat)) : ∀ w ∈ L.map uVs, OffU w := fun w hw => by
  obtain ⟨l, _, rfl⟩ := List.mem_map.mp hw
  exact offu_Lst _
/-- what the loop over the parts has brought -/
noncomputable def bkL (n : Nat) (B : List Nat) (F : List (List Nat)) : List Nat := F.flatMap fun l => (partR n B l).map (ledN l)
noncomputable def bkN (n : Nat) (B : List Nat) (F : List (List Nat)) : Nat := (F.map fun l => (partR n B l).length).sum
theorem part_mem (f : RoomF n B) (hl : l ∈ partsL n B) : l.Nodup ∧ (∀ k ∈ l, k < n) ∧ 0 < l.length := by
  obtain ⟨t, ht, rfl⟩ := List.mem_map.mp (sortB_mem.mp hl)
  have L := (part_ok f).1
  have tn := L.lt t ht
  refine ⟨spots_nd t, fun k hk => bit_ltN tn ((spots_mem t k).mp hk).2, ?_⟩
  obtain ⟨k, hk⟩ := bit_ex (L.nz t ht)
  exact List.length_pos_of_mem ((spots_mem t k).mpr ⟨Nat.lt_of_lt_of_le (bit_ltN tn hk) f.n24, hk⟩)
theorem bk_take (f : RoomF n B) (k : Nat) : bkN n B ((partsL n B).take k) ≤ B.length := by
  have h := parts_dim f
  rw [← h]
  unfold bkN
  conv => rhs; rw [← List.take_append_drop k (partsL n B), List.map_append, List.sum_append]
  exact Nat.le_add_right ..
theorem bk_len (n : Nat) (B : List Nat) : ∀ F : List (List Nat), (bkL n B F).length = bkN n B F
  | [] => rfl
  | l :: F => by
    show ((partR n B l).map (ledN l) ++ bkL n B F).length = (partR n B l).length + bkN n B F
    rw [List.length_append, List.length_map, bk_len n B F]
theorem bk_bas (f : RoomF n B) : bas (bkL n B (partsL n B)) = B := plain_unique (bas_plain _) f.pl fun v => by
  rw [bas_span]
  exact parts_back f v
theorem bk_lt (f : RoomF n B) : ∀ v ∈ bkL n B (partsL n B), v < 2 ^ n := fun v hv => span_lt f.lt ((parts_back f v).mp (span_mem hv))
end
end Vf
namespace Vf
open PySem PySem.Spec PyProof.Rows L2
section
variable {W : Wd} {i j N : Nat} {Ds : EnvT W} {ue : List (Nat × UD)} {tu : TS} {tb : TE} {d : Dn W} {y : V}
/-- a, b = [], a constant: the list grows -/
theorem sv_parG2 (hb : ∀ (σ : L2.St) (H : Hp) (Q : VK), Q y H → tb σ H Q) (he : ∀ σ H, EnvL ((Ds.set j (some (dV y))).set i none) σ H → EnvL (uEnv N ue W) σ H) (r : SVG i N ue [] tu d) (hi : Nat.ble (i + 1) Ds.n = true := by rfl) (ne : i ≠ j := by decide) :
    SV Ds (tSeq (tPar i j (tCons (tLst tNil) (tCons tb tNil))) tu) d := fun D σ H iv en q => by
  refine ⟨Nat.zero_le _, fun p np => hb _ _ _ ⟨_, _, rfl, ?_⟩⟩
  have fp := W.fresh iv np
  have l : W.L H (upd H p (.lst [])) := W.put0 iv np
  have e1 : EnvL ((Ds.set j (some (dV y))).set i none) ((σ.set i (some (V.ref p))).set j (some y)) H := by
    rw [List.set_comm _ _ ne]
    exact env_new (v := .ref p) (en.set (i := j) (d := dV y) rfl)
  refine r D _ _ p fp ⟨?_, ⟨[], upd_same, trivial⟩, W.step l iv, uEnv_stay fp (uEnv_lift fp np (he _ _ e1))⟩ fun v H2 l2 o2 => ?_
  · rw [List.getElem?_set_ne (fun z => ne z.symm)]
    exact List.getElem?_set_self (by rw [en.1]; exact Nat.le_of_ble_eq_true hi)
  · rw [del_upd np] at l2
    exact q v H2 l2 o2
end
end Vf
set_option Elab.async false
set_option linter.all false
set_option maxRecDepth 100000
set_option maxHeartbeats 1000000
set_option pp.maxSteps 300
namespace K72
open PySem PySem.Spec PyProof.Rows L2 Vf
abbrev topS (i : Nat) : Stmt := PySem.Challenge.pw_owncontraries_k72_whole_part_rooms.main.body.getD i (.Pass ⟨0, 0, 0, 0⟩)
section
variable {P : Program} {w : World} {K : PySem.W.Frag} {mg : Str → Option Value} {base : Heap} {C : Addr}
abbrev s_is_integer : Stmt := topS 10
abbrev N_is_integer : List Str := ["value"]
theorem sc_is_integer : FnScope N_is_integer ["value"] (defScope s_is_integer) := ⟨rfl, rfl, rfl, by decide +kernel, rfl, by decide +kernel, by decide +kernel⟩
theorem ok_is_integer {f : Addr} {fd : FuncData} (F : Fun K "is_integer" "is_integer" s_is_integer f fd) (m_isinstance : mg "isinstance" = none) (m_int : mg "int" = none) (m_bool : mg "bool" = none) :
    FnOk P w K mg base CX0 1 f fd ["value"] sp_is_integer := by
  refine F.ok sc_is_integer (fun vs H Q E h => ?_) (fun cdv A outer s H vs Q E hr h => ?_)
  · obtain ⟨i, rfl, _⟩ := h
    rfl
  · obtain ⟨i, rfl, q⟩ := h
    refine ⟨_, (pss_one (ps_ret (pe_and (pe_callB call_isi (by rfl) m_isinstance (by decide +kernel) (pa_cons (pv 0) (pa_cons (pe_bltn (v := .ty "int") (by rfl) m_int (by decide +kernel) rfl) pa_nil))) (pe_one (pe_not (pe_callB call_isi (by rfl) m_isinstance (by decide +kernel) (pa_cons (pv 0) (pa_cons (pe_bltn (v := .ty "bool") (by rfl) m_bool (by decide +kernel) rfl) pa_nil)))))))), ?_⟩
    refine ⟨.int i, rfl, .int i, .ty "int", .type "int", .type "int", true, rfl, .ty _, .base (.int i), kit_ty (by decide +kernel), true, rfl, iteT ?_⟩
    exact ⟨.int i, rfl, .int i, .ty "bool", .type "int", .type "bool", false, rfl, .ty _, .base (.int i), kit_ty (by decide +kernel), false, rfl, q⟩
abbrev s_is_count : Stmt := topS 11
abbrev N_is_count : List Str := ["value"]
theorem sc_is_count : FnScope N_is_count ["value"] (defScope s_is_count) := ⟨rfl, rfl, rfl, by decide +kernel, rfl, by decide +kernel, by decide +kernel⟩
theorem ok_is_count {f : Addr} {fd : FuncData} (F : Fun K "is_count" "is_count" s_is_count f fd) (C_is_integer : Cal P w K mg base "is_integer" 1 ["value"] [] sp_is_integer) :
    FnOk P w K mg base CX0 2 f fd ["value"] sp_is_count := by
  refine F.ok sc_is_count (fun vs H Q E h => ?_) (fun cdv A outer s H vs Q E hr h => ?_)
  · obtain ⟨i, rfl, _⟩ := h
    rfl
  · obtain ⟨i, rfl, q⟩ := h
    refine ⟨_, (pss_one (ps_ret (pe_and (pe_cal C_is_integer (hr.mono (by decide)) (by rfl) (pa_cons (pv 0) pa_nil)) (pe_one (pe_cmpR op_ge (pv 0) pe_int (nomark _)))))), ?_⟩
    refine ⟨.int i, rfl, i, rfl, true, rfl, iteT ?_⟩
    exact ⟨.int i, rfl, i, 0, rfl, rfl, q⟩
abbrev s_is_list : Stmt := topS 12
abbrev N_is_list : List Str := ["value"]
theorem sc_is_list : FnScope N_is_list ["value"] (defScope s_is_list) := ⟨rfl, rfl, rfl, by decide +kernel, rfl, by decide +kernel, by decide +kernel⟩
theorem ok_is_list {f : Addr} {fd : FuncData} (F : Fun K "is_list" "is_list" s_is_list f fd) (m_isinstance : mg "isinstance" = none) (m_list : mg "list" = none) (m_tuple : mg "tuple" = none) :
    FnOk P w K mg base CX0 1 f fd ["value"] sp_is_list := by
  refine F.ok sc_is_list (fun vs H Q E h => ?_) (fun cdv A outer s H vs Q E hr h => ?_)
  · obtain ⟨a, xs, rfl, _⟩ := h
    rfl
  · obtain ⟨a, xs, rfl, hS, q⟩ := h
    refine ⟨_, (pss_one (ps_ret (pe_callB call_isiT (by rfl) m_isinstance (by decide +kernel) (pa_cons (pv 0) (pa_cons (pe_tup (pa_cons (pe_bltn (v := .ty "list") (by rfl) m_list (by decide +kernel) rfl) (pa_cons (pe_bltn (v := .ty "tuple") (by rfl) m_tuple (by decide +kernel) rfl) pa_nil))) pa_nil))))), ?_⟩
    refine ⟨.ref a, rfl, by show 2 ≤ sizeLine; decide, fun t ht => ?_⟩
    have s1 : Same H (upd H t (.tup [.ty "list", .ty "tuple"])) := same_new ht
    rcases hS.same s1 with h1 | h1
    · exact ⟨.ref a, t, [.ty "list", .ty "tuple"], .type "list", [.type "list", .type "tuple"], true, rfl, upd_same, .cons (.ty _) (.cons (.ty _) .nil), .base (.lst h1),
        kitAny_cons (b := true) (kit_ty (by decide +kernel)) (fun z => by cases z) (fun _ => rfl), q _ s1⟩
    · exact ⟨.ref a, t, [.ty "list", .ty "tuple"], .type "tuple", [.type "list", .type "tuple"], true, rfl, upd_same, .cons (.ty _) (.cons (.ty _) .nil), .base (.tup h1),
        kitAny_cons (b := false) (kit_ty (by decide +kernel)) (fun _ => kitAny_cons (b := true) (kit_ty (by decide +kernel)) (fun z => by cases z) (fun _ => rfl)) (fun z => by cases z), q _ s1⟩
abbrev s_is_places : Stmt := topS 15
abbrev N_is_places : List Str := ["value"]
theorem sc_is_places : FnScope N_is_places ["value"] (defScope s_is_places) := ⟨rfl, rfl, rfl, by decide +kernel, rfl, by decide +kernel, by decide +kernel⟩
theorem ok_is_places {f : Addr} {fd : FuncData} (F : Fun K "is_places" "is_places" s_is_places f fd) (C_is_integer : Cal P w K mg base "is_integer" 1 ["value"] [] sp_is_integer)
    {t : Tok} (g_MOST_PLACES : mg "MOST_PLACES" = some (.int 24 t)) : FnOk P w K mg base CX0 2 f fd ["value"] sp_is_places := by
  refine F.ok sc_is_places (fun vs H Q E h => ?_) (fun cdv A outer s H vs Q E hr h => ?_)
  · obtain ⟨i, rfl, _⟩ := h
    rfl
  · obtain ⟨n, rfl, h1, h2, q⟩ := h
    refine ⟨_, (pss_one (ps_ret (pe_and (pe_cal C_is_integer (hr.mono (by decide)) (by rfl) (pa_cons (pv 0) pa_nil)) (pe_one (pe_chain op_le op_le pe_int (pv 0) (pe_glob (v := .int 24) rfl g_MOST_PLACES ⟨_, rfl⟩)))))), ?_⟩
    refine ⟨.int n, rfl, n, rfl, true, rfl, iteT ?_⟩
    refine ⟨.int n, rfl, 1, n, rfl, rfl, true, bl_t (show (1 : Int) ≤ (n : Int) by omega), iteT ?_⟩
    refine ⟨n, 24, rfl, rfl, ?_⟩
    show Q (V.bl (decide ((n : Int) ≤ 24))) H
    rw [show decide ((n : Int) ≤ 24) = true from decide_eq_true (by omega)]
    exact q
abbrev s_check_places : Stmt := topS 16
abbrev N_check_places : List Str := ["places"]
theorem sc_check_places : FnScope N_check_places ["places"] (defScope s_check_places) := ⟨rfl, rfl, rfl, by decide +kernel, rfl, by decide +kernel, by decide +kernel⟩
theorem ok_check_places {f : Addr} {fd : FuncData} (F : Fun K "check_places" "check_places" s_check_places f fd) (C_is_places : Cal P w K mg base "is_places" 2 ["value"] [] sp_is_places) :
    FnOk P w K mg base CX0 3 f fd ["places"] sp_check_places := by
  refine F.ok sc_check_places (fun vs H Q E h => ?_) (fun cdv A outer s H vs Q E hr h => ?_)
  · obtain ⟨i, rfl, _⟩ := h
    rfl
  · obtain ⟨n, rfl, h1, h2, q⟩ := h
    refine ⟨_, (pss_one (ps_if (pt_not (pt_val (pe_cal C_is_places (hr.mono (by decide)) (by rfl) (pa_cons (pv 0) pa_nil)))) (pss_one ps_never) pss_nil)), ?_⟩
    exact ⟨.int n, rfl, n, rfl, h1, h2, true, rfl, iteF q⟩
abbrev s_is_word : Stmt := topS 17
abbrev N_is_word : List Str := ["places", "value"]
theorem sc_is_word : FnScope N_is_word ["places", "value"] (defScope s_is_word) := ⟨rfl, rfl, rfl, by decide +kernel, rfl, by decide +kernel, by decide +kernel⟩
theorem ok_is_word {f : Addr} {fd : FuncData} (F : Fun K "is_word" "is_word" s_is_word f fd) (C_check_places : Cal P w K mg base "check_places" 3 ["places"] [] sp_check_places) (C_is_count : Cal P w K mg base "is_count" 2 ["value"] [] sp_is_count) :
    FnOk P w K mg base CX0 4 f fd ["places", "value"] sp_is_word := by
  refine F.ok sc_is_word (fun vs H Q E h => ?_) (fun cdv A outer s H vs Q E hr h => ?_)
  · obtain ⟨i, j, rfl, _⟩ := h
    rfl
  · obtain ⟨n, m, rfl, h1, h2, q⟩ := h
    refine ⟨_, (pss_cons (ps_expr (pe_cal C_check_places (hr.mono (by decide)) (by rfl) (pa_cons (pv 0) pa_nil)))
    (pss_one (ps_ret (pe_and (pe_cal C_is_count (hr.mono (by decide)) (by rfl) (pa_cons (pv 1) pa_nil)) (pe_one (pe_cmpR op_lt (pv 1) (pe_op op_oneShl pe_int (pv 0)) (nomark _))))))), ?_⟩
    refine ⟨.int n, rfl, n, rfl, h1, h2, .int m, rfl, m, rfl, true, bl_t (show (0 : Int) ≤ (m : Int) by omega), iteT ?_⟩
    · refine ⟨.int m, rfl, .int n, rfl, n, rfl, rfl, by omega, m, 2 ^ n, rfl, rfl, ?_⟩
      have e : decide ((m : Int) < 2 ^ n) = decide (m < 2 ^ n) := by
        apply decide_eq_decide.mpr
        have e2 : (2 : Int) ^ n = ((2 ^ n : Nat) : Int) := by
          rw [Int.natCast_pow]
          rfl
        rw [e2]
        exact Int.ofNat_lt
      show Q (V.bl (decide ((m : Int) < 2 ^ n))) H
      rw [e]
      exact q
abbrev s_check_word : Stmt := topS 18
abbrev N_check_word : List Str := ["word", "places"]
theorem sc_check_word : FnScope N_check_word ["word", "places"] (defScope s_check_word) := ⟨rfl, rfl, rfl, by decide +kernel, rfl, by decide +kernel, by decide +kernel⟩
theorem ok_check_word {f : Addr} {fd : FuncData} {kws : List (Str × V)} (F : FunD K "check_word" "check_word" (defArgs s_check_word) (defBody s_check_word) (defScope s_check_word) [.int 24] kws f fd) (C_is_word : Cal P w K mg base "is_word" 4 ["places", "value"] [] sp_is_word) :
    FnOk P w K mg base CX0 5 f fd ["word", "places"] sp_check_word := by
  refine F.ok sc_check_word (fun vs H Q E h => ?_) (fun cdv A outer s H vs Q E hr h => ?_)
  · obtain ⟨i, j, rfl, _⟩ := h
    rfl
  · obtain ⟨m, n, rfl, n1, n2, h1, q⟩ := h
    refine ⟨_, (pss_one (ps_if (pt_not (pt_val (pe_cal C_is_word (hr.mono (by decide)) (by rfl) (pa_cons (pv 1) (pa_cons (pv 0) pa_nil))))) (pss_one ps_never) pss_nil)), ?_⟩
    exact ⟨.int n, rfl, .int m, rfl, n, m, rfl, n1, n2, true, bl_t h1, iteF q⟩
abbrev s_places_of : Stmt := topS 19
abbrev N_places_of : List Str := ["word", "place"]
theorem sc_places_of : FnScope N_places_of ["word"] (defScope s_places_of) := ⟨rfl, rfl, rfl, by decide +kernel, rfl, by decide +kernel, by decide +kernel⟩
theorem ok_places_of {f : Addr} {fd : FuncData} (F : Fun K "places_of" "places_of" s_places_of f fd) (C1_check_word : Cal P w K mg base "check_word" 5 ["word", "places"] [.int 24] sp_check_word)
    {t : Tok} (g_MOST_PLACES : mg "MOST_PLACES" = some (.int 24 t)) (m_range : mg "range" = none) : FnOk P w K mg base CX0 6 f fd ["word"] sp_places_of := by
  refine F.ok sc_places_of (fun vs H Q E h => ?_) (fun cdv A outer s H vs Q E hr h => ?_)
  · obtain ⟨a, rfl, _⟩ := h
    rfl
  · obtain ⟨m, rfl, h1, q⟩ := h
    refine ⟨_, (pss_cons (ps_expr (pe_cal C1_check_word (hr.mono (by decide)) (by rfl) (pa_cons (pv 0) pa_nil)))
    (pss_one (ps_ret (pe_lc (own := [("place", 1)]) (g := gName 1) (by rfl) sc_places_of.nd (pi_range1 (by rfl) m_range (pa_cons (pe_glob (v := .int 24) rfl g_MOST_PLACES ⟨_, rfl⟩) pa_nil)) (blkOk_by (own := [("place", 1)]) (N := N_places_of) (sc := defScope s_places_of) (by decide +kernel)) (fun _ _ _ _ _ => pg_name (i := 1) sc_places_of.nd rfl (Or.inl rfl)) (fun _ _ _ _ _ => (pts_one (pt_int (pe_op op_andN (pe_op op_shrNN (pv 0) (pv 1)) pe_int) (by intro _; rfl)))) (fun _ _ _ _ _ => (pv 1)))))), ?_⟩
    refine ⟨.int m, rfl, m, 24, rfl, by decide, by decide, h1, 24, rfl, by decide, by decide, fun D hD => ?_⟩
    refine lc_range (lo := 0) (n := 24) (fun i H' => Same H H' ∧ H' D = some (.lst (Vf.vs ((List.range i).filter fun j => m.testBit j)))) ⟨same_new hD, upd_same⟩
      (fun i H' hi hP => ?_) fun H' hP => q H' D hP.1 hD hP.2
    obtain ⟨sm, eD⟩ := hP
    refine ⟨rfl, .int m, rfl, .int (0 + (i : Int)), rfl, m, i, rfl, int_zero_add i, m / 2 ^ i, 1, rfl, rfl, (m / 2 ^ i) &&& 1, rfl, ?_⟩
    rw [odd_bit]
    have key : Vf.vs ((List.range (i + 1)).filter fun j => m.testBit j) = Vf.vs ((List.range i).filter fun j => m.testBit j) ++ (if m.testBit i = true then [V.int (i : Nat)] else []) := by
      unfold Vf.vs
      rw [List.range_succ, List.filter_append, List.map_append]
      congr 1
      by_cases hb : m.testBit i = true <;> simp [hb]
    refine ite2 (fun hb => ?_) (fun hb => ?_)
    · refine ⟨.int (0 + (i : Int)), rfl, _, eD, ?_, fun b o e => ?_, ?_⟩
      · unfold Vf.vs
        rw [List.length_map]
        exact sl_lt (Nat.le_trans (List.length_filter_le _ _) (by rw [List.length_range]; omega))
      · rw [upd_ne (ne_of_none e hD)]
        exact sm b o e
      · rw [upd_same, key, if_pos hb, int_zero_add]
    · refine ⟨sm, ?_⟩
      rw [key, if_neg hb, List.append_nil]
      exact eD
abbrev s_are_spots : Stmt := topS 20
abbrev N_are_spots : List Str := ["places", "value", "spot"]
theorem sc_are_spots : FnScope N_are_spots ["places", "value"] (defScope s_are_spots) := ⟨rfl, rfl, rfl, by decide +kernel, rfl, by decide +kernel, by decide +kernel⟩
theorem ok_are_spots {f : Addr} {fd : FuncData} (F : Fun K "are_spots" "are_spots" s_are_spots f fd) (C_is_list : Cal P w K mg base "is_list" 1 ["value"] [] sp_is_list) (C_is_count : Cal P w K mg base "is_count" 2 ["value"] [] sp_is_count)
    (m_all : mg "all" = none) (m_len : mg "len" = none) (m_set : mg "set" = none) : FnOk P w K mg base CX0 3 f fd ["places", "value"] sp_are_spots := by
  refine F.ok sc_are_spots (fun vs H Q E h => ?_) (fun cdv A outer s H vs Q E hr h => ?_)
  · obtain ⟨a, l, N, rfl, _⟩ := h
    rfl
  · obtain ⟨a, l, N, rfl, hS, nd, h24, hl, q⟩ := h
    -- the turns of the comprehension
    have turn : ∀ {H1 : Hp} {D : Addr}, H1 D = none → ∀ (i : Nat) (x : V) (H' : Hp), (Vf.vs l)[i]? = some x → (Same H1 H' ∧ H' D = some (.lst ((List.replicate i true).map V.bl))) →
        ∃ n : Nat, x = .int (n : Nat) ∧ n < N ∧ ((List.replicate i true).map V.bl).length < sizeLine ∧
          (Same H1 (upd H' D (.lst (((List.replicate i true).map V.bl) ++ [V.bl true]))) ∧ upd H' D (.lst (((List.replicate i true).map V.bl) ++ [V.bl true])) D = some (.lst ((List.replicate (i + 1) true).map V.bl))) := by
      intro H1 D hD i x H' hx ⟨sm, eD⟩
      obtain ⟨n, en, rfl⟩ := get_vs hx
      have il : i < l.length := (List.getElem?_eq_some_iff.mp en).1
      refine ⟨n, rfl, h24 n (List.mem_of_getElem? en), ?_, fun b o e => ?_, ?_⟩
      · rw [List.length_map, List.length_replicate]
        exact sl_lt (by omega)
      · rw [upd_ne (ne_of_none e hD)]
        exact sm b o e
      · rw [upd_same, List.replicate_succ', List.map_append]
        rfl
    rcases hS with hS | hS
    · refine ⟨_, (pss_cons (ps_if (PW.pt (pw_or (pt_not (pt_val (pe_cal C_is_list (hr.mono (by decide)) (by rfl) (pa_cons (pv 1) pa_nil)))) (pw_or1 (pt_not (pt_val (pe_callB (cr_all rfl) (by rfl) m_all (by decide +kernel) (pa_cons (pe_lc (own := [("spot", 2)]) (g := gName 2) (by rfl) sc_are_spots.nd (pi_list (pv 1)) (blkOk_by (own := [("spot", 2)]) (N := N_are_spots) (sc := defScope s_are_spots) (by decide +kernel)) (fun _ _ _ _ _ => pg_name (i := 2) sc_are_spots.nd rfl (Or.inl rfl)) (fun _ _ _ _ _ => pts_nil) (fun _ _ _ _ _ => (pe_and (pe_cal C_is_count (hr.mono (by decide)) (by rfl) (pa_cons (pv 2) pa_nil)) (pe_one (pe_cmpR op_ltN (pv 2) (pv 0) (nomark _)))))) pa_nil))))))) (pss_one (ps_ret pe_bl)) pss_nil)
    (pss_one (ps_ret (pe_cmpR op_eq (RZ.pe_lenSetI (by rfl) m_len (by rfl) m_set (pv 1)) (pe_callB call_len_seq (by rfl) m_len (by decide +kernel) (pa_cons (pv 1) pa_nil)) (nomark _))))), ?_⟩
      refine ⟨.ref a, rfl, a, _, rfl, .inl hS, fun H1 s1 => ⟨true, rfl, iteF ?_⟩⟩
      have hL : SqL K H1 a (Vf.vs l) := .inl (.inl (s1 _ _ hS))
      refine ⟨.ref a, rfl, a, rfl, ⟨_, hL⟩, fun D hD => ?_⟩
      refine lc_list (K := K) (a := a) (xs := Vf.vs l) (fun i H' => Same H1 H' ∧ H' D = some (.lst ((List.replicate i true).map V.bl))) ⟨same_new hD, upd_same⟩
        (fun i H' _ hP => hP.1.seq hL) (fun i x H' hx hP => ?_) fun H' hP => ?_
      · obtain ⟨n, rfl, hn, hz, hN⟩ := turn hD i x H' hx hP
        refine ⟨rfl, yes_ ?_⟩
        refine iteT ?_
        refine ⟨.int n, rfl, n, rfl, true, bl_t (show (0 : Int) ≤ (n : Int) by omega), iteT ?_⟩
        refine ⟨.int n, rfl, .int N, rfl, n, N, rfl, rfl, _, hP.2, hz, ?_⟩
        rw [decide_eq_true hn]
        exact hN
      · obtain ⟨sm, eD⟩ := hP
        have sT := s1.trans sm
        have hL2 : SqL K H' a (Vf.vs l) := sm.seq hL
        refine ⟨D, _, rfl, .inl (.inl eD), true, ?_, iteF ?_⟩
        · rw [all_true]
        · refine ⟨.ref a, rfl, a, l.map (fun i : Nat => (i : Int)), rfl, ?_, nd_int nd, ?_, .ref a, rfl, a, Vf.vs l, rfl, .inl hL2, rfl, ?_⟩
          · rw [← vs_int]
            exact hL2
          · rw [List.length_map]
            omega
          · have e : decide (V.int ((l.map (fun i : Nat => (i : Int))).length : Nat) = V.int ((Vf.vs l).length : Nat)) = true := by
              rw [List.length_map, len_vs]
              exact decide_eq_true rfl
            rw [e]
            exact q _ sT
    · refine ⟨_, (pss_cons (ps_if (PW.pt (pw_or (pt_not (pt_val (pe_cal C_is_list (hr.mono (by decide)) (by rfl) (pa_cons (pv 1) pa_nil)))) (pw_or1 (pt_not (pt_val (pe_callB (cr_all rfl) (by rfl) m_all (by decide +kernel) (pa_cons (pe_lc (own := [("spot", 2)]) (g := gName 2) (by rfl) sc_are_spots.nd (pi_tup (pv 1)) (blkOk_by (own := [("spot", 2)]) (N := N_are_spots) (sc := defScope s_are_spots) (by decide +kernel)) (fun _ _ _ _ _ => pg_name (i := 2) sc_are_spots.nd rfl (Or.inl rfl)) (fun _ _ _ _ _ => pts_nil) (fun _ _ _ _ _ => (pe_and (pe_cal C_is_count (hr.mono (by decide)) (by rfl) (pa_cons (pv 2) pa_nil)) (pe_one (pe_cmpR op_ltN (pv 2) (pv 0) (nomark _)))))) pa_nil))))))) (pss_one (ps_ret pe_bl)) pss_nil)
    (pss_one (ps_ret (pe_cmpR op_eq (pe_lenSetT (by rfl) m_len (by rfl) m_set (pv 1)) (pe_callB call_len_seq (by rfl) m_len (by decide +kernel) (pa_cons (pv 1) pa_nil)) (nomark _))))), ?_⟩
      refine ⟨.ref a, rfl, a, _, rfl, .inr hS, fun H1 s1 => ⟨true, rfl, iteF ?_⟩⟩
      have hL : SqT K H1 a (Vf.vs l) := .inl (.inl (s1 _ _ hS))
      refine ⟨.ref a, rfl, a, rfl, ⟨_, hL⟩, fun D hD => ?_⟩
      have keep : ∀ H', Same H1 H' → SqT K H' a (Vf.vs l) := fun H' sm => .inl (.inl (sm _ _ (s1 _ _ hS)))
      refine lc_tup (K := K) (a := a) (xs := Vf.vs l) (fun i H' => Same H1 H' ∧ H' D = some (.lst ((List.replicate i true).map V.bl))) ⟨same_new hD, upd_same⟩
        (fun i H' _ hP => keep H' hP.1) (fun i x H' hx hP => ?_) fun H' hP => ?_
      · obtain ⟨n, rfl, hn, hz, hN⟩ := turn hD i x H' hx hP
        refine ⟨rfl, yes_ ?_⟩
        refine iteT ?_
        refine ⟨.int n, rfl, n, rfl, true, bl_t (show (0 : Int) ≤ (n : Int) by omega), iteT ?_⟩
        refine ⟨.int n, rfl, .int N, rfl, n, N, rfl, rfl, _, hP.2, hz, ?_⟩
        rw [decide_eq_true hn]
        exact hN
      · obtain ⟨sm, eD⟩ := hP
        have sT := s1.trans sm
        have hL2 : SqT K H' a (Vf.vs l) := keep H' sm
        refine ⟨D, _, rfl, .inl (.inl eD), true, ?_, iteF ?_⟩
        · rw [all_true]
        · refine ⟨.ref a, rfl, a, l.map (fun i : Nat => (i : Int)), rfl, ?_, nd_int nd, ?_, .ref a, rfl, a, Vf.vs l, rfl, .inr hL2, rfl, ?_⟩
          · rw [← vs_int]
            exact hL2
          · rw [List.length_map]
            omega
          · have e : decide (V.int ((l.map (fun i : Nat => (i : Int))).length : Nat) = V.int ((Vf.vs l).length : Nat)) = true := by
              rw [List.length_map, len_vs]
              exact decide_eq_true rfl
            rw [e]
            exact q _ sT
abbrev s_word_of : Stmt := topS 21
abbrev N_word_of : List Str := ["spots", "spot"]
theorem sc_word_of : FnScope N_word_of ["spots"] (defScope s_word_of) := ⟨rfl, rfl, rfl, by decide +kernel, rfl, by decide +kernel, by decide +kernel⟩
theorem ok_word_of {f : Addr} {fd : FuncData} (F : Fun K "word_of" "word_of" s_word_of f fd) (C_are_spots : Cal P w K mg base "are_spots" 3 ["places", "value"] [] sp_are_spots)
    {t : Tok} (g_MOST_PLACES : mg "MOST_PLACES" = some (.int 24 t)) (m_sum : mg "sum" = none) : FnOk P w K mg base CX0 4 f fd ["spots"] sp_word_of := by
  refine F.ok sc_word_of (fun vs H Q E h => ?_) (fun cdv A outer s H vs Q E hr h => ?_)
  · obtain ⟨a, l, rfl, _⟩ := h
    rfl
  · obtain ⟨a, l, rfl, hS, nd, h24, hl, q⟩ := h
    have turn : ∀ {H1 : Hp} {D : Addr}, H1 D = none → ∀ (i : Nat) (x : V) (H' : Hp), (Vf.vs l)[i]? = some x → (Same H1 H' ∧ H' D = some (.lst (((l.take i).map fun i : Nat => ((2 ^ i : Nat) : Int)).map V.int))) →
        ∃ n : Nat, x = .int (n : Nat) ∧ n < 24 ∧ (((l.take i).map fun i : Nat => ((2 ^ i : Nat) : Int)).map V.int).length < sizeLine ∧
          (Same H1 (upd H' D (.lst ((((l.take i).map fun i : Nat => ((2 ^ i : Nat) : Int)).map V.int) ++ [V.int ((2 ^ n : Nat) : Int)]))) ∧
            upd H' D (.lst ((((l.take i).map fun i : Nat => ((2 ^ i : Nat) : Int)).map V.int) ++ [V.int ((2 ^ n : Nat) : Int)])) D = some (.lst (((l.take (i + 1)).map fun i : Nat => ((2 ^ i : Nat) : Int)).map V.int))) := by
      intro H1 D hD i x H' hx ⟨sm, eD⟩
      obtain ⟨n, en, rfl⟩ := get_vs hx
      refine ⟨n, rfl, h24 n (List.mem_of_getElem? en), ?_, fun b o e => ?_, ?_⟩
      · rw [List.length_map, List.length_map, List.length_take]
        exact sl_lt (by omega)
      · rw [upd_ne (ne_of_none e hD)]
        exact sm b o e
      · rw [upd_same, List.take_add_one, en, List.map_append, List.map_append]
        rfl
    have fin : ((l.take (Vf.vs l).length).map fun i : Nat => ((2 ^ i : Nat) : Int)) = l.map fun i : Nat => ((2 ^ i : Nat) : Int) := by
      rw [len_vs, List.take_length]
    rcases hS with hS | hS
    · refine ⟨_, (pss_cons (ps_if (pt_not (pt_val (pe_cal C_are_spots (hr.mono (by decide)) (by rfl) (pa_cons (pe_glob (v := .int 24) rfl g_MOST_PLACES ⟨_, rfl⟩) (pa_cons (pv 0) pa_nil))))) (pss_one ps_never) pss_nil)
    (pss_one (ps_ret (pe_callB (cr_sum rfl) (by rfl) m_sum (by decide +kernel) (pa_cons (pe_lc (own := [("spot", 1)]) (g := gName 1) (by rfl) sc_word_of.nd (pi_list (pv 0)) (blkOk_by (own := [("spot", 1)]) (N := N_word_of) (sc := defScope s_word_of) (by decide +kernel)) (fun _ _ _ _ _ => pg_name (i := 1) sc_word_of.nd rfl (Or.inl rfl)) (fun _ _ _ _ _ => pts_nil) (fun _ _ _ _ _ => (pe_op op_pow2 pe_int (pv 1)))) pa_nil))))), ?_⟩
      refine ⟨.ref a, rfl, a, l, 24, rfl, .inl hS, nd, h24, hl, fun H1 s1 => ⟨true, rfl, iteF ?_⟩⟩
      have hL : SqL K H1 a (Vf.vs l) := .inl (.inl (s1 _ _ hS))
      refine ⟨.ref a, rfl, a, rfl, ⟨_, hL⟩, fun D hD => ?_⟩
      refine lc_list (K := K) (a := a) (xs := Vf.vs l) (fun i H' => Same H1 H' ∧ H' D = some (.lst (((l.take i).map fun i : Nat => ((2 ^ i : Nat) : Int)).map V.int))) ⟨same_new hD, upd_same⟩
        (fun i H' _ hP => hP.1.seq hL) (fun i x H' hx hP => ?_) fun H' hP => ?_
      · obtain ⟨n, rfl, hn, hz, hN⟩ := turn hD i x H' hx hP
        refine ⟨rfl, yes_ ?_⟩
        refine iteT ?_
        exact ⟨.int n, rfl, n, rfl, rfl, by omega, _, hP.2, hz, hN⟩
      · obtain ⟨sm, eD⟩ := hP
        rw [fin] at eD
        refine ⟨D, _, rfl, .inl (.inl eD), ?_⟩
        rw [sum_cast]
        exact q _ (s1.trans sm)
    · refine ⟨_, (pss_cons (ps_if (pt_not (pt_val (pe_cal C_are_spots (hr.mono (by decide)) (by rfl) (pa_cons (pe_glob (v := .int 24) rfl g_MOST_PLACES ⟨_, rfl⟩) (pa_cons (pv 0) pa_nil))))) (pss_one ps_never) pss_nil)
    (pss_one (ps_ret (pe_callB (cr_sum rfl) (by rfl) m_sum (by decide +kernel) (pa_cons (pe_lc (own := [("spot", 1)]) (g := gName 1) (by rfl) sc_word_of.nd (pi_tup (pv 0)) (blkOk_by (own := [("spot", 1)]) (N := N_word_of) (sc := defScope s_word_of) (by decide +kernel)) (fun _ _ _ _ _ => pg_name (i := 1) sc_word_of.nd rfl (Or.inl rfl)) (fun _ _ _ _ _ => pts_nil) (fun _ _ _ _ _ => (pe_op op_pow2 pe_int (pv 1)))) pa_nil))))), ?_⟩
      refine ⟨.ref a, rfl, a, l, 24, rfl, .inr hS, nd, h24, hl, fun H1 s1 => ⟨true, rfl, iteF ?_⟩⟩
      have keep : ∀ H', Same H1 H' → SqT K H' a (Vf.vs l) := fun H' sm => .inl (.inl (sm _ _ (s1 _ _ hS)))
      refine ⟨.ref a, rfl, a, rfl, ⟨_, keep H1 (Same.refl _)⟩, fun D hD => ?_⟩
      refine lc_tup (K := K) (a := a) (xs := Vf.vs l) (fun i H' => Same H1 H' ∧ H' D = some (.lst (((l.take i).map fun i : Nat => ((2 ^ i : Nat) : Int)).map V.int))) ⟨same_new hD, upd_same⟩
        (fun i H' _ hP => keep H' hP.1) (fun i x H' hx hP => ?_) fun H' hP => ?_
      · obtain ⟨n, rfl, hn, hz, hN⟩ := turn hD i x H' hx hP
        refine ⟨rfl, yes_ ?_⟩
        refine iteT ?_
        exact ⟨.int n, rfl, n, rfl, rfl, by omega, _, hP.2, hz, hN⟩
      · obtain ⟨sm, eD⟩ := hP
        rw [fin] at eD
        refine ⟨D, _, rfl, .inl (.inl eD), ?_⟩
        rw [sum_cast]
        exact q _ (s1.trans sm)
abbrev s_highest : Stmt := topS 25
abbrev N_highest : List Str := ["word"]
theorem sc_highest : FnScope N_highest ["word"] (defScope s_highest) := ⟨rfl, rfl, rfl, by decide +kernel, rfl, by decide +kernel, by decide +kernel⟩
theorem ok_highest {f : Addr} {fd : FuncData} (F : Fun K "highest" "highest" s_highest f fd) : FnOk P w K mg base CX0 1 f fd ["word"] sp_highest := by
  refine F.ok sc_highest (fun vs H Q E h => ?_) (fun cdv A outer s H vs Q E hr h => ?_)
  · obtain ⟨m, rfl, _⟩ := h
    rfl
  · obtain ⟨m, rfl, h0, h1, q⟩ := h
    have hl : m.log2 < 64 := (Nat.log2_lt h0).mpr h1
    have e : Builtin.Int.intBits (m : Int) = m.log2 + 1 := by
      unfold Builtin.Int.intBits
      rw [if_neg (by simpa using h0)]
      rfl
    refine ⟨_, (pss_one (ps_ret (pe_op op_pow2 pe_int (pe_op op_subN (pe_bits (pv 0)) pe_int)))), ?_⟩
    refine ⟨.int m, rfl, m, rfl, Builtin.Int.intBits (m : Int), 1, rfl, rfl, by omega, Builtin.Int.intBits (m : Int) - 1, rfl, rfl, by omega, ?_⟩
    rw [e, Nat.add_sub_cancel]
    exact q
abbrev s_rest_of : Stmt := topS 26
abbrev N_rest_of : List Str := ["word", "basis", "rest", "base"]
theorem sc_rest_of : FnScope N_rest_of ["word", "basis"] (defScope s_rest_of) := ⟨rfl, rfl, rfl, by decide +kernel, rfl, by decide +kernel, by decide +kernel⟩
theorem ok_rest_of {f : Addr} {fd : FuncData} (F : Fun K "rest_of" "rest_of" s_rest_of f fd) (C_highest : Cal P w K mg base "highest" 1 ["word"] [] sp_highest) : FnOk P w K mg base CX0 2 f fd ["word", "basis"] sp_rest_of := by
  refine F.ok sc_rest_of (fun vs H Q E h => ?_) (fun cdv A outer s H vs Q E hr h => ?_)
  · obtain ⟨v, b, B, rfl, _⟩ := h
    rfl
  · obtain ⟨v, b, B, rfl, eB, hB, q⟩ := h
    refine ⟨_, (pss_cons (ps_set (i := 2) sc_rest_of.nd rfl (Or.inl rfl) (pv 0))
    (pss_cons (ps_for PassesOwn.never rfl (pi_list (pv 1)) (pg_name (i := 3) sc_rest_of.nd rfl (Or.inl rfl))
      (pss_one (ps_if (pt_int (pe_op op_andN (pv 2) (pe_cal C_highest (hr.mono (by decide)) (by rfl) (pa_cons (pv 3) pa_nil))) (by intro _; rfl)) (pss_one (ps_set (i := 2) sc_rest_of.nd rfl (Or.inl rfl) (pe_op op_xorN (pv 2) (pv 3)))) pss_nil)))
    (pss_one (ps_ret (pv 2))))), ?_⟩
    refine ⟨.int v, rfl, .ref b, rfl, b, rfl, ⟨_, SqL.of eB⟩, ?_⟩
    refine for_list (K := K) (a := b) (xs := Vf.vs B) (fun i σ H' => ∃ z : Option V, σ = [some (.int v), some (.ref b), some (.int ((restOf v (B.take i) : Nat) : Int)), z] ∧ H' = H) ⟨none, rfl, rfl⟩
      (fun i σ H' _ hI => ?_) (fun i x σ H' hx hI => ?_) fun σ H' hI => ?_
    · obtain ⟨z, _, rfl⟩ := hI
      exact SqL.of eB
    · obtain ⟨z, rfl, rfl⟩ := hI
      obtain ⟨c, ec, rfl⟩ := get_vs hx
      obtain ⟨c0, c24⟩ := hB c (List.mem_of_getElem? ec)
      have key : restOf v (B.take (i + 1)) = rest1 (restOf v (B.take i)) c := by
        unfold restOf
        rw [List.take_add_one, ec, List.foldl_append]
        rfl
      refine ⟨_, rfl, .int c, rfl, c, rfl, c0, c24, restOf v (B.take i), 2 ^ c.log2, rfl, rfl, restOf v (B.take i) &&& 2 ^ c.log2, rfl, ?_⟩
      rw [and_pow]
      refine ite2 (fun hb => ?_) (fun hb => ?_)
      · refine ⟨_, rfl, .int c, rfl, restOf v (B.take i), c, rfl, rfl, some (.int c), ?_, rfl⟩
        rw [key]
        unfold rest1
        rw [if_pos hb]
        rfl
      · refine ⟨some (.int c), ?_, rfl⟩
        rw [key]
        unfold rest1
        rw [if_neg hb]
        rfl
    · obtain ⟨z, rfl, rfl⟩ := hI
      rw [len_vs, List.take_length]
      exact ⟨_, rfl, q⟩
abbrev s_put_in : Stmt := topS 27
abbrev N_put_in : List Str := ["rest", "basis", "top", "cleared", "base"]
theorem sc_put_in : FnScope N_put_in ["rest", "basis"] (defScope s_put_in) := ⟨rfl, rfl, rfl, by decide +kernel, rfl, by decide +kernel, by decide +kernel⟩
theorem ok_put_in {f : Addr} {fd : FuncData} (F : Fun K "put_in" "put_in" s_put_in f fd) (C_highest : Cal P w K mg base "highest" 1 ["word"] [] sp_highest) (m_sorted : mg "sorted" = none) :
    FnOk P w K mg base CX0 2 f fd ["rest", "basis"] sp_put_in := by
  refine F.ok sc_put_in (fun vs H Q E h => ?_) (fun cdv A outer s H vs Q E hr h => ?_)
  · obtain ⟨v, b, B, rfl, _⟩ := h
    rfl
  · obtain ⟨r, b, B, rfl, eB, r0, r64, lB, q⟩ := h
    refine ⟨_, (pss_cons (ps_set (i := 2) sc_put_in.nd rfl (Or.inr rfl) (pe_cal C_highest (hr.mono (by decide)) (by rfl) (pa_cons (pv 0) pa_nil)))
    (pss_cons (ps_setLc (i := 3) (own := [("base", 4)]) (g := gName 4) (by rfl) sc_put_in.nd rfl rfl (sw_true rfl rfl rfl (by decide +kernel)) (pi_list (pv 1)) (blkOk_by (own := [("base", 4)]) (N := N_put_in) (sc := defScope s_put_in) (by decide +kernel)) (fun _ _ _ _ _ => pg_name (i := 4) sc_put_in.nd rfl (Or.inl rfl)) (fun _ _ _ _ _ => pts_nil) (fun _ _ _ _ _ => (pe_ifExp (pt_int (pe_op op_andN (pv 4) (pv 2)) (by intro _; rfl)) (pe_op op_xorN (pv 4) (pv 0)) (pv 4))))
    (pss_one (ps_ret (pe_callBK (cr_sortedRev (b := true)) (by rfl) m_sorted (by decide +kernel) (pa_cons (pe_op op_cat (pv 3) (pe_lst (pa_cons (pv 0) pa_nil))) pa_nil) (pk_cons pe_bl pk_nil)))))), ?_⟩
    refine ⟨.int r, rfl, r, rfl, r0, r64, .ref b, rfl, b, rfl, ⟨_, SqL.of eB⟩, fun D hD => ?_⟩
    refine lc_list (K := K) (a := b) (xs := Vf.vs B) (fun i H' => Same H H' ∧ H' D = some (.lst (Vf.vs ((B.take i).map (clear1 r))))) ⟨same_new hD, upd_same⟩
      (fun i H' _ hP => hP.1.seq (SqL.of eB)) (fun i x H' hx hP => ?_) fun H' hP => ?_
    · obtain ⟨sm, eD⟩ := hP
      obtain ⟨c, ec, rfl⟩ := get_vs hx
      have key : Vf.vs ((B.take (i + 1)).map (clear1 r)) = Vf.vs ((B.take i).map (clear1 r)) ++ [V.int ((clear1 r c : Nat) : Int)] := by
        rw [List.take_add_one, ec, List.map_append, vs_append]
        rfl
      have lz : (Vf.vs ((B.take i).map (clear1 r))).length < sizeLine := by
        rw [len_vs, List.length_map, List.length_take]
        exact sl_lt (by omega)
      have fin : Same H (upd H' D (.lst (Vf.vs ((B.take i).map (clear1 r)) ++ [V.int ((clear1 r c : Nat) : Int)]))) ∧ (upd H' D (.lst (Vf.vs ((B.take i).map (clear1 r)) ++ [V.int ((clear1 r c : Nat) : Int)]))) D = some (.lst (Vf.vs ((B.take (i + 1)).map (clear1 r)))) := by
        refine ⟨fun a o e => ?_, ?_⟩
        · rw [upd_ne (ne_of_none e hD)]
          exact sm a o e
        · rw [upd_same, key]
      refine ⟨rfl, yes_ ?_⟩
      refine iteT ?_
      refine ⟨.int c, rfl, .int ((2 ^ r.log2 : Nat) : Int), rfl, c, 2 ^ r.log2, rfl, rfl, c &&& 2 ^ r.log2, rfl, ?_⟩
      rw [and_pow]
      refine ite2 (fun hb => ?_) (fun hb => ?_)
      · refine ⟨.int c, rfl, .int r, rfl, c, r, rfl, rfl, _, eD, lz, ?_⟩
        have e1 : clear1 r c = c ^^^ r := by
          unfold clear1
          rw [if_pos hb]
        rw [← e1]
        exact fin
      · refine ⟨.int c, rfl, _, eD, lz, ?_⟩
        have e1 : clear1 r c = c := by
          unfold clear1
          rw [if_neg hb]
        rw [e1] at fin
        exact fin
    · obtain ⟨sm, eD⟩ := hP
      rw [len_vs, List.take_length] at eD
      refine ⟨.ref D, rfl, .int r, rfl, Nat.succ_le_of_lt (sl_lt (by decide)), fun R1 nR1 => ?_⟩
      have s1 := same_new (o := .lst [V.int (r : Int)]) nR1
      refine ⟨D, R1, _, _, rfl, rfl, s1 _ _ eD, upd_same, ?_, fun R2 nR2 => ?_⟩
      · rw [len_vs, List.length_map]
        exact Nat.le_of_lt (sl_lt (by show B.length + 1 ≤ 100000; omega))
      · refine ⟨R2, ((B.map (clear1 r) ++ [r]).map fun i : Nat => (i : Int)), rfl, rfl, SqL.of ?_, fun ns' p pm od np => ?_⟩
        · rw [upd_same, ← vs_int, vs_append]
          rfl
        · obtain ⟨D2, rfl, p2⟩ := back_vs pm
          have s2 := sm.trans ((s1.trans (same_new (o := .lst (Vf.vs (B.map (clear1 r)) ++ [V.int (r : Int)])) nR2)).trans (same_new (o := .lst ((D2.map fun i : Nat => (i : Int)).map V.int)) np))
          refine q _ p D2 s2 ?_ ?_ p2 ?_
          · exact ((sm.trans s1).trans (same_new nR2)).free np
          · rw [upd_same, ← vs_int]
          · have o2 : (D2.map fun i : Nat => (i : Int)).Pairwise (· ≥ ·) := od
            rw [List.pairwise_map] at o2
            exact o2.imp fun h => by omega
abbrev s_plain_basis : Stmt := topS 28
abbrev N_plain_basis : List Str := ["words", "basis", "word", "rest"]
theorem sc_plain_basis : FnScope N_plain_basis ["words"] (defScope s_plain_basis) := ⟨rfl, rfl, rfl, by decide +kernel, rfl, by decide +kernel, by decide +kernel⟩
theorem ok_plain_basis {f : Addr} {fd : FuncData} (F : Fun K "plain_basis" "plain_basis" s_plain_basis f fd) (C_rest_of : Cal P w K mg base "rest_of" 2 ["word", "basis"] [] sp_rest_of) (C_put_in : Cal P w K mg base "put_in" 2 ["rest", "basis"] [] sp_put_in) :
    FnOk P w K mg base CX0 3 f fd ["words"] sp_plain_basis := by
  refine F.ok sc_plain_basis (fun vs H Q E h => ?_) (fun cdv A outer s H vs Q E hr h => ?_)
  · obtain ⟨a, ws, rfl, _⟩ := h
    rfl
  · obtain ⟨a, ws, rfl, hS, h24, lw, q⟩ := h
    have start : ∀ {b0 : Addr}, H b0 = none → PbI H a ws 0 [some (.ref a), some (.ref b0), none, none] (upd H b0 (.lst [])) := fun {b0} h0 =>
      ⟨b0, [], none, none, rfl, same_new h0, h0, upd_same, ⟨⟨List.Pairwise.nil, fun _ k => (List.not_mem_nil k).elim⟩, List.Pairwise.nil⟩, fun v => Iff.rfl, Nat.le_refl _⟩
    -- what a turn needs and gives
    have turn : ∀ {i : Nat} {c : Nat}, ws[i]? = some c → ∀ {σ : L2.St} {H' : Hp}, PbI H a ws i σ H' → ∃ (b : Addr) (B : List Nat) (z z2 : Option V), σ = [some (.ref a), some (.ref b), z, z2] ∧ H' b = some (.lst (Vf.vs B)) ∧ (∀ x ∈ B, x ≠ 0 ∧ x < 2 ^ 64) ∧ c < 2 ^ 64 ∧
        (restOf c B = 0 → PbI H a ws (i + 1) [some (.ref a), some (.ref b), some (.int (c : Int)), some (.int ((restOf c B : Nat) : Int))] H') ∧
        (restOf c B ≠ 0 → restOf c B < 2 ^ 64 ∧ B.length ≤ 1000 ∧ ∀ (H2 : Hp) (p : Addr) (D : List Nat), Same H' H2 → H' p = none → H2 p = some (.lst (Vf.vs D)) → D.Perm (B.map (clear1 (restOf c B)) ++ [restOf c B]) → D.Pairwise (· ≥ ·) →
          PbI H a ws (i + 1) [some (.ref a), some (.ref p), some (.int (c : Int)), some (.int ((restOf c B : Nat) : Int))] H2) := by
      intro i c hc σ H' hI
      obtain ⟨b, B, z, z2, rfl, sm, nb, eB, pl, sp, ln⟩ := hI
      have hc24 := h24 c (List.mem_of_getElem? hc)
      have lt : ∀ {x}, span B x → x < 2 ^ 64 := fun {x} hx => span_lt (ws := ws.take i) (fun v hv => h24 v (List.mem_of_mem_take hv)) ((sp x).mp hx)
      have il : i < ws.length := (List.getElem?_eq_some_iff.mp hc).1
      have rs := take_span hc pl.1 sp
      refine ⟨b, B, z, z2, rfl, eB, fun x hx => ⟨pl.1.2 x hx, lt (span_mem hx)⟩, hc24, fun r0 => ⟨b, B, _, _, rfl, sm, nb, eB, pl, fun v => ?_, by omega⟩, fun r0 => ⟨?_, by omega, fun H2 p D s2 np eD pm ge => ?_⟩⟩
      · rw [← rs v, r0]
        constructor
        · exact fun k => span_sub (fun x hx => span_mem (List.mem_cons_of_mem _ hx)) k
        · exact fun k => span_sub (fun x hx => (List.mem_cons.mp hx).elim (fun e => by rw [e]; exact span_zero B) span_mem) k
      · refine span_lt (ws := ws.take (i + 1)) (fun v hv => h24 v (List.mem_of_mem_take hv)) ((rs _).mp (span_mem List.mem_cons_self))
      · have pD := piv_perm pm.symm (put_piv pl.1 r0 fun x hx => rest_off pl.1 c hx)
        refine ⟨p, D, _, _, rfl, sm.trans s2, sm.free np, eD, ⟨pD, gt_of_ge pD ge⟩, fun v => ?_, ?_⟩
        · rw [span_perm pm v, put_span, rs v]
        · rw [pm.length_eq, List.length_append, List.length_map]
          show B.length + 1 ≤ i + 1
          omega
    rcases hS with hS | hS
    · refine ⟨_, (pss_cons (ps_set (i := 1) sc_plain_basis.nd rfl (Or.inl rfl) (pe_lst pa_nil))
    (pss_cons (ps_for PassesOwn.never rfl (pi_list (pv 0)) (pg_name (i := 2) sc_plain_basis.nd rfl (Or.inl rfl))
      (pss_cons (ps_set (i := 3) sc_plain_basis.nd rfl (Or.inl rfl) (pe_cal C_rest_of (hr.mono (by decide)) (by rfl) (pa_cons (pv 2) (pa_cons (pv 1) pa_nil))))
    (pss_one (ps_if (pt_cmpR op_gtN (pv 3) pe_int (nomark _)) (pss_one (ps_set (i := 1) sc_plain_basis.nd rfl (Or.inl rfl) (pe_cal C_put_in (hr.mono (by decide)) (by rfl) (pa_cons (pv 3) (pa_cons (pv 1) pa_nil))))) pss_nil))))
    (pss_one (ps_ret (pv 1))))), ?_⟩
      refine ⟨Nat.zero_le _, fun b0 h0 => ⟨.ref a, rfl, a, rfl, ⟨_, SqL.of ((same_new h0) _ _ hS)⟩, ?_⟩⟩
      refine for_list (K := K) (a := a) (xs := Vf.vs ws) (fun i σ H' => PbI H a ws i σ H') (start h0) (fun i σ H' _ hI => ?_) (fun i x σ H' hx hI => ?_) fun σ H' hI => ?_
      · obtain ⟨b, B, z, z2, _, sm, _⟩ := hI
        exact SqL.of (sm _ _ hS)
      · obtain ⟨c, hc, rfl⟩ := get_vs hx
        obtain ⟨b, B, z, z2, rfl, eB, hB, c24, k0, k1⟩ := turn hc hI
        refine ⟨.int c, rfl, .ref b, rfl, c, b, B, rfl, eB, hB, _, rfl, restOf c B, 0, rfl, rfl, _, rfl, ite2 (fun hb => ?_) (fun hb => ?_)⟩
        · have r0 : restOf c B ≠ 0 := Nat.ne_of_gt (of_decide_eq_true hb)
          obtain ⟨r24, l1000, k1⟩ := k1 r0
          exact ⟨_, rfl, .ref b, rfl, restOf c B, b, B, rfl, eB, r0, r24, l1000, fun H2 p D s2 np eD pm ge => k1 H2 p D s2 np eD pm ge⟩
        · have r0 : restOf c B = 0 := by
            have : ¬ 0 < restOf c B := fun z => hb (decide_eq_true z)
            omega
          exact k0 r0
      · obtain ⟨b, B, z, z2, rfl, sm, nb, eB, pl, sp, ln⟩ := hI
        rw [len_vs, List.take_length] at sp
        rw [len_vs] at ln
        exact ⟨.ref b, rfl, q H' b B sm nb eB pl sp ln⟩
    · refine ⟨_, (pss_cons (ps_set (i := 1) sc_plain_basis.nd rfl (Or.inl rfl) (pe_lst pa_nil))
    (pss_cons (ps_for PassesOwn.never rfl (pi_tup (pv 0)) (pg_name (i := 2) sc_plain_basis.nd rfl (Or.inl rfl))
      (pss_cons (ps_set (i := 3) sc_plain_basis.nd rfl (Or.inl rfl) (pe_cal C_rest_of (hr.mono (by decide)) (by rfl) (pa_cons (pv 2) (pa_cons (pv 1) pa_nil))))
    (pss_one (ps_if (pt_cmpR op_gtN (pv 3) pe_int (nomark _)) (pss_one (ps_set (i := 1) sc_plain_basis.nd rfl (Or.inl rfl) (pe_cal C_put_in (hr.mono (by decide)) (by rfl) (pa_cons (pv 3) (pa_cons (pv 1) pa_nil))))) pss_nil))))
    (pss_one (ps_ret (pv 1))))), ?_⟩
      refine ⟨Nat.zero_le _, fun b0 h0 => ⟨.ref a, rfl, a, rfl, ⟨_, .inl (.inl ((same_new h0) _ _ hS))⟩, ?_⟩⟩
      refine for_tup (K := K) (a := a) (xs := Vf.vs ws) (fun i σ H' => PbI H a ws i σ H') (start h0) (fun i σ H' _ hI => ?_) (fun i x σ H' hx hI => ?_) fun σ H' hI => ?_
      · obtain ⟨b, B, z, z2, _, sm, _⟩ := hI
        exact .inl (.inl (sm _ _ hS))
      · obtain ⟨c, hc, rfl⟩ := get_vs hx
        obtain ⟨b, B, z, z2, rfl, eB, hB, c24, k0, k1⟩ := turn hc hI
        refine ⟨.int c, rfl, .ref b, rfl, c, b, B, rfl, eB, hB, _, rfl, restOf c B, 0, rfl, rfl, _, rfl, ite2 (fun hb => ?_) (fun hb => ?_)⟩
        · have r0 : restOf c B ≠ 0 := Nat.ne_of_gt (of_decide_eq_true hb)
          obtain ⟨r24, l1000, k1⟩ := k1 r0
          exact ⟨_, rfl, .ref b, rfl, restOf c B, b, B, rfl, eB, r0, r24, l1000, fun H2 p D s2 np eD pm ge => k1 H2 p D s2 np eD pm ge⟩
        · have r0 : restOf c B = 0 := by
            have : ¬ 0 < restOf c B := fun z => hb (decide_eq_true z)
            omega
          exact k0 r0
      · obtain ⟨b, B, z, z2, rfl, sm, nb, eB, pl, sp, ln⟩ := hI
        rw [len_vs, List.take_length] at sp
        rw [len_vs] at ln
        exact ⟨.ref b, rfl, q H' b B sm nb eB pl sp ln⟩
abbrev s_sums_of : Stmt := topS 29
abbrev N_sums_of : List Str := ["basis", "sums", "base", "word"]
theorem sc_sums_of : FnScope N_sums_of ["basis"] (defScope s_sums_of) := ⟨rfl, rfl, rfl, by decide +kernel, rfl, by decide +kernel, by decide +kernel⟩
theorem ok_sums_of {f : Addr} {fd : FuncData} (F : Fun K "sums_of" "sums_of" s_sums_of f fd) (m_sorted : mg "sorted" = none) : FnOk P w K mg base CX0 1 f fd ["basis"] sp_sums_of := by
  refine F.ok sc_sums_of (fun vs H Q E h => ?_) (fun cdv A outer s H vs Q E hr h => ?_)
  · obtain ⟨b, B, rfl, _⟩ := h
    rfl
  · obtain ⟨b, B, rfl, eB, pB, lB, q⟩ := h
    have lens : ∀ i, (sumsOf (B.take i)).length ≤ 4096 := fun i => by
      have pB2 : Piv (B.take i) := ⟨pB.1.sublist (List.take_sublist _ _), fun c hc => pB.2 c (List.mem_of_mem_take hc)⟩
      rw [(sums_ok pB2).2.2]
      have h8 : (B.take i).length ≤ 12 := by
        rw [List.length_take]
        omega
      exact Nat.le_trans (Nat.pow_le_pow_right (by decide) h8) (by decide)
    refine ⟨_, (pss_cons (ps_set (i := 1) sc_sums_of.nd rfl (Or.inl rfl) (pe_lst (pa_cons pe_int pa_nil)))
    (pss_cons (ps_for PassesOwn.never rfl (pi_list (pv 0)) (pg_name (i := 2) sc_sums_of.nd rfl (Or.inr rfl))
      (pss_one (ps_set (i := 1) sc_sums_of.nd rfl (Or.inl rfl) (pe_op op_cat (pv 1) (pe_lc (own := [("word", 3)]) (g := gName 3) (by rfl) sc_sums_of.nd (pi_list (pv 1)) (blkOk_by (own := [("word", 3)]) (N := N_sums_of) (sc := defScope s_sums_of) (by decide +kernel)) (fun _ _ _ _ _ => pg_name (i := 3) sc_sums_of.nd rfl (Or.inl rfl)) (fun _ _ _ _ _ => pts_nil) (fun _ _ _ _ _ => (pe_op op_xorN (pv 3) (pv 2))))))))
    (pss_one (ps_ret (pe_callB cr_sortedI (by rfl) m_sorted (by decide +kernel) (pa_cons (pv 1) pa_nil)))))), ?_⟩
    refine ⟨Nat.succ_le_of_lt (sl_lt (by decide)), fun S0 nS0 => ⟨.ref b, rfl, b, rfl, ⟨_, SqL.of ((same_new nS0) _ _ eB)⟩, ?_⟩⟩
    refine for_list (K := K) (a := b) (xs := Vf.vs B) (fun i σ H' => ∃ (z z2 : Option V) (S : Addr), σ = [some (.ref b), some (.ref S), z, z2] ∧ Same H H' ∧ H S = none ∧ H' S = some (.lst (Vf.vs (sumsOf (B.take i))))) ⟨none, none, S0, rfl, same_new nS0, nS0, upd_same⟩
      (fun i σ H' _ hI => ?_) (fun i x σ H' hx hI => ?_) fun σ H' hI => ?_
    · obtain ⟨z, z2, S, _, sm, _⟩ := hI
      exact SqL.of (sm _ _ eB)
    · obtain ⟨z, z2, S, rfl, sm, nS, eS⟩ := hI
      obtain ⟨c, ec, rfl⟩ := get_vs hx
      have key : sumsOf (B.take (i + 1)) = sumsOf (B.take i) ++ (sumsOf (B.take i)).map (· ^^^ c) := by
        unfold sumsOf
        rw [List.take_add_one, ec, List.foldl_append]
        rfl
      have ln := lens i
      refine ⟨.ref S, rfl, .ref S, rfl, S, rfl, ⟨_, SqL.of eS⟩, fun D hD => ?_⟩
      refine lc_list (K := K) (a := S) (xs := Vf.vs (sumsOf (B.take i))) (fun j H2 => Same H' H2 ∧ H2 D = some (.lst (Vf.vs (((sumsOf (B.take i)).take j).map (· ^^^ c))))) ⟨same_new hD, upd_same⟩
        (fun j H2 _ hP => hP.1.seq (SqL.of eS)) (fun j x H2 hx hP => ?_) fun H2 hP => ?_
      · obtain ⟨sm2, eD⟩ := hP
        obtain ⟨u, eu, rfl⟩ := get_vs hx
        refine ⟨rfl, yes_ ?_⟩
        refine iteT ?_
        refine ⟨.int u, rfl, .int c, rfl, u, c, rfl, rfl, _, eD, ?_, fun a o e => ?_, ?_⟩
        · rw [len_vs, List.length_map, List.length_take]
          exact sl_lt (by omega)
        · rw [upd_ne (ne_of_none e hD)]
          exact sm2 a o e
        · rw [upd_same, List.take_add_one, eu, List.map_append, vs_append]
          rfl
      · obtain ⟨sm2, eD⟩ := hP
        rw [len_vs, List.take_length] at eD
        refine ⟨S, D, _, _, rfl, rfl, sm2 _ _ eS, eD, ?_, fun p np => ?_⟩
        · rw [len_vs, len_vs, List.length_map]
          exact Nat.le_of_lt (sl_lt (by omega))
        · refine ⟨_, _, p, rfl, sm.trans (sm2.trans (same_new np)), (sm.trans sm2).free np, ?_⟩
          rw [upd_same, key, vs_append]
    · obtain ⟨z, z2, S, rfl, sm, nS, eS⟩ := hI
      rw [len_vs, List.take_length] at eS
      refine ⟨.ref S, rfl, S, ((sumsOf B).map fun i : Nat => (i : Int)), rfl, SqL.of (by rw [← vs_int]; exact eS), fun ns' p pm od np => ?_⟩
      obtain ⟨L, rfl, p2⟩ := back_vs pm
      refine q _ p L (sm.trans (same_new np)) (sm.free np) (by rw [upd_same, ← vs_int]) p2 ?_
      have o2 : (L.map fun i : Nat => (i : Int)).Pairwise (· ≤ ·) := od
      rw [List.pairwise_map] at o2
      exact o2.imp fun h => by omega
abbrev s_check_words : Stmt := topS 30
abbrev N_check_words : List Str := ["places", "words", "position", "word"]
theorem sc_check_words : FnScope N_check_words ["places", "words"] (defScope s_check_words) := ⟨rfl, rfl, rfl, by decide +kernel, rfl, by decide +kernel, by decide +kernel⟩
theorem ok_check_words {f : Addr} {fd : FuncData} (F : Fun K "check_words" "check_words" s_check_words f fd) (C_is_list : Cal P w K mg base "is_list" 1 ["value"] [] sp_is_list) (C_is_word : Cal P w K mg base "is_word" 4 ["places", "value"] [] sp_is_word)
    {t : Tok} (g_MOST_WORDS : mg "MOST_WORDS" = some (.int 48 t)) (m_len : mg "len" = none) (m_enumerate : mg "enumerate" = none) : FnOk P w K mg base CX0 5 f fd ["places", "words"] sp_check_words := by
  refine F.ok sc_check_words (fun vs H Q E h => ?_) (fun cdv A outer s H vs Q E hr h => ?_)
  · obtain ⟨n, a, ws, rfl, _⟩ := h
    rfl
  · obtain ⟨n, a, ws, rfl, hS, n1, n24, hw, lw, q⟩ := h
    have l48 : ¬ 48 < (Vf.vs ws).length := by
      rw [len_vs]
      omega
    have word : ∀ {i : Nat} {x : V}, (Vf.vs ws)[i]? = some x → ∃ v : Nat, x = .int (v : Int) ∧ v < 2 ^ n := fun {i x} hx => by
      obtain ⟨v, ev, e⟩ := get_vs hx
      exact ⟨v, e, hw v (List.mem_of_getElem? ev)⟩
    rcases hS with hS | hS
    · refine ⟨_, (pss_cons (ps_if (PW.pt (pw_or (pt_not (pt_val (pe_cal C_is_list (hr.mono (by decide)) (by rfl) (pa_cons (pv 1) pa_nil)))) (pw_or1 (pt_cmpR op_gtN (pe_callB call_len_seq (by rfl) m_len (by decide +kernel) (pa_cons (pv 1) pa_nil)) (pe_glob (v := .int 48) rfl g_MOST_WORDS ⟨_, rfl⟩) (nomark _))))) (pss_one ps_never) pss_nil)
    (pss_one (ps_for PassesOwn.never rfl (pi_enum (by rfl) m_enumerate (pa_cons (pv 1) pa_nil)) (pg_tup rfl (pgs_cons (pg_name (i := 2) sc_check_words.nd rfl (Or.inl rfl)) (pgs_cons (pg_name (i := 3) sc_check_words.nd rfl (Or.inl rfl)) pgs_nil)))
      (pss_one (ps_if (pt_not (pt_val (pe_cal C_is_word (hr.mono (by decide)) (by rfl) (pa_cons (pv 0) (pa_cons (pv 3) pa_nil))))) (pss_one ps_never) pss_nil))))), ?_⟩
      refine ⟨.ref a, rfl, a, _, rfl, .inl hS, fun H1 s1 => ⟨true, rfl, iteF ?_⟩⟩
      have hL : SqL K H1 a (Vf.vs ws) := SqL.of (s1 _ _ hS)
      refine ⟨.ref a, rfl, a, _, rfl, .inl hL, (Vf.vs ws).length, 48, rfl, rfl, false, bl_f l48, iteF ?_⟩
      refine ⟨.ref a, rfl, a, _, rfl, hL, fun i m σ H2 => ∃ z2 z3 : Option V, σ = [some (.int n), some (.ref a), z2, z3] ∧ i + m = (Vf.vs ws).length ∧ Same H H2, ⟨(Vf.vs ws).length, none, none, rfl, by omega, s1⟩, fun i m σ H2 hW => ?_⟩
      obtain ⟨z2, z3, rfl, em, sm⟩ := hW
      have hL2 : SqL K H2 a (Vf.vs ws) := SqL.of (sm _ _ hS)
      by_cases hi : i < (Vf.vs ws).length
      · refine .inr ⟨⟨_, _, hL2, List.getElem?_eq_getElem hi⟩, fun σ' H' => ∃ z2 z3 : Option V, σ' = [some (.int n), some (.ref a), z2, z3] ∧ Same H H', fun σ' H' hN => ?_, fun x H' hy => ?_⟩
        · obtain ⟨y2, y3, e, sm'⟩ := hN
          exact ⟨m - 1, by omega, y2, y3, e, by omega, sm'⟩
        · obtain ⟨T, x1, rfl, nT, rfl, fx⟩ := hy
          obtain ⟨v, rfl, hv⟩ := word (fx _ hL2)
          have s2 := sm.trans (same_new (o := .tup [.int (i : Nat), .int (v : Int)]) nT)
          refine ⟨T, [.int (i : Nat), .int (v : Int)], rfl, .inl (.inl upd_same), rfl, .int (i : Nat), [.int (v : Int)], rfl, .int (v : Int), [], rfl, rfl, ?_⟩
          exact ⟨.int n, rfl, .int v, rfl, n, v, rfl, n1, n24, true, bl_t hv, iteF ⟨_, _, rfl, s2⟩⟩
      · exact .inl ⟨⟨_, hL2, by omega⟩, q H2 sm⟩
    · refine ⟨_, (pss_cons (ps_if (PW.pt (pw_or (pt_not (pt_val (pe_cal C_is_list (hr.mono (by decide)) (by rfl) (pa_cons (pv 1) pa_nil)))) (pw_or1 (pt_cmpR op_gtN (pe_callB call_len_seq (by rfl) m_len (by decide +kernel) (pa_cons (pv 1) pa_nil)) (pe_glob (v := .int 48) rfl g_MOST_WORDS ⟨_, rfl⟩) (nomark _))))) (pss_one ps_never) pss_nil)
    (pss_one (ps_for PassesOwn.never rfl (pi_enumT (by rfl) m_enumerate (pa_cons (pv 1) pa_nil)) (pg_tup rfl (pgs_cons (pg_name (i := 2) sc_check_words.nd rfl (Or.inl rfl)) (pgs_cons (pg_name (i := 3) sc_check_words.nd rfl (Or.inl rfl)) pgs_nil)))
      (pss_one (ps_if (pt_not (pt_val (pe_cal C_is_word (hr.mono (by decide)) (by rfl) (pa_cons (pv 0) (pa_cons (pv 3) pa_nil))))) (pss_one ps_never) pss_nil))))), ?_⟩
      refine ⟨.ref a, rfl, a, _, rfl, .inr hS, fun H1 s1 => ⟨true, rfl, iteF ?_⟩⟩
      have hL : SqT K H1 a (Vf.vs ws) := .inl (.inl (s1 _ _ hS))
      refine ⟨.ref a, rfl, a, _, rfl, .inr hL, (Vf.vs ws).length, 48, rfl, rfl, false, bl_f l48, iteF ?_⟩
      refine ⟨.ref a, rfl, a, _, rfl, hL, fun i m σ H2 => ∃ z2 z3 : Option V, σ = [some (.int n), some (.ref a), z2, z3] ∧ i + m = (Vf.vs ws).length ∧ Same H H2, ⟨(Vf.vs ws).length, none, none, rfl, by omega, s1⟩, fun i m σ H2 hW => ?_⟩
      obtain ⟨z2, z3, rfl, em, sm⟩ := hW
      have hL2 : SqT K H2 a (Vf.vs ws) := .inl (.inl (sm _ _ hS))
      by_cases hi : i < (Vf.vs ws).length
      · refine .inr ⟨⟨_, _, hL2, List.getElem?_eq_getElem hi⟩, fun σ' H' => ∃ z2 z3 : Option V, σ' = [some (.int n), some (.ref a), z2, z3] ∧ Same H H', fun σ' H' hN => ?_, fun x H' hy => ?_⟩
        · obtain ⟨y2, y3, e, sm'⟩ := hN
          exact ⟨m - 1, by omega, y2, y3, e, by omega, sm'⟩
        · obtain ⟨T, x1, rfl, nT, rfl, fx⟩ := hy
          obtain ⟨v, rfl, hv⟩ := word (fx _ hL2)
          have s2 := sm.trans (same_new (o := .tup [.int (i : Nat), .int (v : Int)]) nT)
          refine ⟨T, [.int (i : Nat), .int (v : Int)], rfl, .inl (.inl upd_same), rfl, .int (i : Nat), [.int (v : Int)], rfl, .int (v : Int), [], rfl, rfl, ?_⟩
          exact ⟨.int n, rfl, .int v, rfl, n, v, rfl, n1, n24, true, bl_t hv, iteF ⟨_, _, rfl, s2⟩⟩
      · exact .inl ⟨⟨_, hL2, by omega⟩, q H2 sm⟩
abbrev s_Room___init__ : Stmt := inClass (topS 31) 0
abbrev N_Room___init__ : List Str := ["self", "places", "words"]
theorem sc_Room___init__ : FnScope N_Room___init__ ["self", "places", "words"] (defScope s_Room___init__) := ⟨rfl, rfl, rfl, by decide +kernel, rfl, by decide +kernel, by decide +kernel⟩
theorem ok_init {f : Addr} {fd : FuncData} (F : Fun K "__init__" "Room.__init__" s_Room___init__ f fd) (R : RKn K C) (C_check_places : Cal P w K mg base "check_places" 3 ["places"] [] sp_check_places)
    (C_check_words : Cal P w K mg base "check_words" 5 ["places", "words"] [] sp_check_words) (C_plain_basis : Cal P w K mg base "plain_basis" 3 ["words"] [] sp_plain_basis) : FnOk P w K mg base CX0 6 f fd ["self", "places", "words"] (sp_init C) := by
  refine F.ok sc_Room___init__ (fun vs H Q E h => ?_) (fun cdv A outer s H vs Q E hr h => ?_)
  · obtain ⟨x, dx, n, a, ws, rfl, _⟩ := h
    rfl
  · obtain ⟨x, dx, n, a, ws, rfl, ex, hS, n1, n24, hw, lw, q⟩ := h
    refine ⟨_, (pss_cons (ps_expr (pe_cal C_check_places (hr.mono (by decide)) (by rfl) (pa_cons (pv 1) pa_nil)))
    (pss_cons (ps_expr (pe_cal C_check_words (hr.mono (by decide)) (by rfl) (pa_cons (pv 1) (pa_cons (pv 2) pa_nil))))
    (pss_cons (ps_fld (pv 0) (pv 1) rfl)
    (pss_one (ps_fld (pv 0) (pe_cal C_plain_basis (hr.mono (by decide)) (by rfl) (pa_cons (pv 2) pa_nil)) rfl))))), ?_⟩
    refine ⟨.int n, rfl, n, rfl, n1, n24, .int n, rfl, .ref a, rfl, n, a, ws, rfl, hS, n1, n24, hw, lw, fun H1 s1 => ?_⟩
    refine ⟨.int n, rfl, .ref x, rfl, x, C, dx, [], rfl, s1 _ _ ex, R.cl, R.nP, by decide, ?_⟩
    have nax : a ≠ x := by
      rintro rfl
      rcases hS with h | h <;> rw [h] at ex <;> cases ex
    have b1 : But x H (upd H1 x (.ins C dx (putF "_places" (.int (n : Int)) []))) := (But.of s1).upd
    have hS2 : Sq (upd H1 x (.ins C dx (putF "_places" (.int (n : Int)) []))) a (Vf.vs ws) := hS.imp (b1 _ _ nax) (b1 _ _ nax)
    refine ⟨.ref a, rfl, a, ws, rfl, hS2, fun v hv => lt64 n24 (hw v hv), by omega, fun H2 p B s2 np eB pl sp ln => ?_⟩
    refine ⟨.ref x, rfl, x, C, dx, _, rfl, s2 _ _ upd_same, R.cl, R.nB, (show 1 < 1000 by decide), ?_⟩
    have npx : p ≠ x := by
      rintro rfl
      rw [upd_same] at np
      cases np
    refine q _ B ((b1.trans (.of s2)).upd) ⟨dx, p, upd_same, by rw [upd_ne npx]; exact eB, pl, n1, n24, fun c hc => ?_, ?_⟩ sp ln
    · exact span_lt (ws := ws) hw ((sp c).mp (span_mem hc))
    · rw [upd_ne npx] at np
      exact s1.free np
abbrev s_Room_places : Stmt := inClass (topS 31) 1
abbrev N_Room_places : List Str := ["self"]
theorem sc_Room_places : FnScope N_Room_places ["self"] (defScope s_Room_places) := ⟨rfl, rfl, rfl, by decide +kernel, rfl, by decide +kernel, by decide +kernel⟩
theorem ok_places {f : Addr} {fd : FuncData} (F : Fun K "places" "Room.places" s_Room_places f fd) (R : RKn K C) : FnOk P w K mg base CX0 1 f fd ["self"] (sp_places C) := by
  refine F.ok sc_Room_places (fun vs H Q E h => ?_) (fun cdv A outer s H vs Q E hr h => ?_)
  · obtain ⟨x, n, B, rfl, _⟩ := h
    rfl
  · obtain ⟨x, n, B, rfl, ⟨dx, b, ex, eb, pl, n1, n24, hB⟩, q⟩ := h
    refine ⟨_, (pss_one (ps_ret (pe_fld (pv 0) rfl))), ?_⟩
    exact ⟨.ref x, rfl, x, C, dx, _, _, rfl, ex, R.cl, R.nP, rf_places n b, q⟩
abbrev s_Room_dimension : Stmt := inClass (topS 31) 2
abbrev N_Room_dimension : List Str := ["self"]
theorem sc_Room_dimension : FnScope N_Room_dimension ["self"] (defScope s_Room_dimension) := ⟨rfl, rfl, rfl, by decide +kernel, rfl, by decide +kernel, by decide +kernel⟩
theorem ok_dimension {f : Addr} {fd : FuncData} (F : Fun K "dimension" "Room.dimension" s_Room_dimension f fd) (R : RKn K C) (m_len : mg "len" = none) : FnOk P w K mg base CX0 1 f fd ["self"] (sp_dimension C) := by
  refine F.ok sc_Room_dimension (fun vs H Q E h => ?_) (fun cdv A outer s H vs Q E hr h => ?_)
  · obtain ⟨x, n, B, rfl, _⟩ := h
    rfl
  · obtain ⟨x, n, B, rfl, ⟨dx, b, ex, eb, pl, n1, n24, hB⟩, q⟩ := h
    refine ⟨_, (pss_one (ps_ret (pe_callB call_len_seq (by rfl) m_len (by decide +kernel) (pa_cons (pe_fld (pv 0) rfl) pa_nil)))), ?_⟩
    refine ⟨.ref x, rfl, x, C, dx, _, _, rfl, ex, R.cl, R.nB, rf_basis n b, b, _, rfl, .inl (SqL.of eb), ?_⟩
    rw [len_vs]
    exact q
abbrev s_Room_basis : Stmt := inClass (topS 31) 3
abbrev N_Room_basis : List Str := ["self"]
theorem sc_Room_basis : FnScope N_Room_basis ["self"] (defScope s_Room_basis) := ⟨rfl, rfl, rfl, by decide +kernel, rfl, by decide +kernel, by decide +kernel⟩
theorem ok_basis {f : Addr} {fd : FuncData} (F : Fun K "basis" "Room.basis" s_Room_basis f fd) (R : RKn K C) (m_list : mg "list" = none) : FnOk P w K mg base CX0 1 f fd ["self"] (sp_basis C) := by
  refine F.ok sc_Room_basis (fun vs H Q E h => ?_) (fun cdv A outer s H vs Q E hr h => ?_)
  · obtain ⟨x, n, B, rfl, _⟩ := h
    rfl
  · obtain ⟨x, n, B, rfl, ⟨dx, b, ex, eb, pl, n1, n24, hB⟩, q⟩ := h
    refine ⟨_, (pss_one (ps_ret (pe_callTy call_list_of (by rfl) m_list (by decide +kernel) (pa_cons (pe_fld (pv 0) rfl) pa_nil)))), ?_⟩
    exact ⟨.ref x, rfl, x, C, dx, _, _, rfl, ex, R.cl, R.nB, rf_basis n b, b, _, rfl, .inl (SqL.of eb), fun p np => q _ p (same_new np) np upd_same⟩
abbrev s_Room_has : Stmt := inClass (topS 31) 4
abbrev N_Room_has : List Str := ["self", "word"]
theorem sc_Room_has : FnScope N_Room_has ["self", "word"] (defScope s_Room_has) := ⟨rfl, rfl, rfl, by decide +kernel, rfl, by decide +kernel, by decide +kernel⟩
theorem ok_has {f : Addr} {fd : FuncData} (F : Fun K "has" "Room.has" s_Room_has f fd) (R : RKn K C) (C_check_word : Cal P w K mg base "check_word" 5 ["word", "places"] [] sp_check_word) (C_rest_of : Cal P w K mg base "rest_of" 2 ["word", "basis"] [] sp_rest_of) :
    FnOk P w K mg base CX0 6 f fd ["self", "word"] (sp_has C) := by
  refine F.ok sc_Room_has (fun vs H Q E h => ?_) (fun cdv A outer s H vs Q E hr h => ?_)
  · obtain ⟨x, n, B, m, rfl, _⟩ := h
    rfl
  · obtain ⟨x, n, B, m, rfl, ⟨dx, b, ex, eb, pl, n1, n24, hB⟩, hm, q⟩ := h
    refine ⟨_, (pss_cons (ps_expr (pe_cal C_check_word (hr.mono (by decide)) (by rfl) (pa_cons (pv 1) (pa_cons (pe_fld (pv 0) rfl) pa_nil))))
    (pss_one (ps_ret (pe_cmpR op_eqN (pe_cal C_rest_of (hr.mono (by decide)) (by rfl) (pa_cons (pv 1) (pa_cons (pe_fld (pv 0) rfl) pa_nil))) pe_int (nomark _))))), ?_⟩
    refine ⟨.int m, rfl, .ref x, rfl, x, C, dx, _, _, rfl, ex, R.cl, R.nP, rf_places n b, m, n, rfl, n1, n24, hm, ?_⟩
    exact ⟨.int m, rfl, .ref x, rfl, x, C, dx, _, _, rfl, ex, R.cl, R.nB, rf_basis n b, m, b, B, rfl, eb, fun c hc => ⟨pl.1.2 c hc, lt64 n24 (hB c hc)⟩, restOf m B, 0, rfl, rfl, q⟩
abbrev s_Room_words : Stmt := inClass (topS 31) 5
abbrev N_Room_words : List Str := ["self"]
theorem sc_Room_words : FnScope N_Room_words ["self"] (defScope s_Room_words) := ⟨rfl, rfl, rfl, by decide +kernel, rfl, by decide +kernel, by decide +kernel⟩
theorem ok_words {f : Addr} {fd : FuncData} (F : Fun K "words" "Room.words" s_Room_words f fd) (R : RKn K C) (C_sums_of : Cal P w K mg base "sums_of" 1 ["basis"] [] sp_sums_of) {t : Tok} (g_MOST_DIMENSION : mg "MOST_DIMENSION" = some (.int 8 t)) (m_len : mg "len" = none) :
    FnOk P w K mg base CX0 2 f fd ["self"] (sp_words C) := by
  refine F.ok sc_Room_words (fun vs H Q E h => ?_) (fun cdv A outer s H vs Q E hr h => ?_)
  · obtain ⟨x, n, B, rfl, _⟩ := h
    rfl
  · obtain ⟨x, n, B, rfl, ⟨dx, b, ex, eb, pl, n1, n24, hB⟩, lB, q⟩ := h
    refine ⟨_, (pss_cons (ps_if (pt_cmpR op_gtN (pe_callB call_len_seq (by rfl) m_len (by decide +kernel) (pa_cons (pe_fld (pv 0) rfl) pa_nil)) (pe_glob (v := .int 8) rfl g_MOST_DIMENSION ⟨_, rfl⟩) (nomark _)) (pss_one ps_never) pss_nil)
    (pss_one (ps_ret (pe_cal C_sums_of (hr.mono (by decide)) (by rfl) (pa_cons (pe_fld (pv 0) rfl) pa_nil))))), ?_⟩
    have l8 : ¬ 8 < (Vf.vs B).length := by
      rw [len_vs]
      omega
    refine ⟨.ref x, rfl, x, C, dx, _, _, rfl, ex, R.cl, R.nB, rf_basis n b, b, _, rfl, .inl (SqL.of eb), (Vf.vs B).length, 8, rfl, rfl, false, bl_f l8, iteF ?_⟩
    exact ⟨.ref x, rfl, x, C, dx, _, _, rfl, ex, R.cl, R.nB, rf_basis n b, b, B, rfl, eb, pl.1, by omega, q⟩
abbrev s_Room___eq__ : Stmt := inClass (topS 31) 6
abbrev N_Room___eq__ : List Str := ["self", "other"]
theorem sc_Room___eq__ : FnScope N_Room___eq__ ["self", "other"] (defScope s_Room___eq__) := ⟨rfl, rfl, rfl, by decide +kernel, rfl, by decide +kernel, by decide +kernel⟩
theorem ok_eq {f : Addr} {fd : FuncData} (F : Fun K "__eq__" "Room.__eq__" s_Room___eq__ f fd) (R : RKn K C) (g_Room : mg "Room" = some (.ref C)) (m_isinstance : mg "isinstance" = none) : FnOk P w K mg base CX0 1 f fd ["self", "other"] (sp_eq K C) := by
  refine F.ok sc_Room___eq__ (fun vs H Q E h => ?_) (fun cdv A outer s H vs Q E hr h => ?_)
  · obtain ⟨x, n, B, y, rfl, _⟩ := h
    rfl
  · obtain ⟨x, n, B, y, rfl, ⟨dx, b, ex, eb, pl, n1, n24, hB⟩, hy⟩ := h
    refine ⟨_, (pss_one (ps_ret (pe_and (pe_callB call_isi (by rfl) m_isinstance (by decide +kernel) (pa_cons (pv 1) (pa_cons (pe_glob (v := .ref C) rfl g_Room rfl) pa_nil))) (pe_and (pe_cmpR op_eqN (pe_fld (pv 0) rfl) (pe_fld (pv 1) rfl) (nomark _)) (pe_one (pe_cmpR (op_eqD hr.units) (pe_fld (pv 0) rfl) (pe_fld (pv 1) rfl) (nomark _))))))), ?_⟩
    rcases hy with ⟨z, m, D, rfl, ⟨dz, d, ez, ed, pd, _⟩, q⟩ | ⟨t, ty, ko, q⟩
    · refine ⟨.ref z, rfl, .ref z, .ref C, .ref C, .ref C, true, rfl, .own C, .base (.ins ez R.cl R.ca R.cn R.ct R.cm), if_pos (beq_self_eq_true _), true, rfl, iteT ?_⟩
      refine ⟨.ref x, rfl, x, C, dx, _, _, rfl, ex, R.cl, R.nP, rf_places n b, .ref z, rfl, z, C, dz, _, _, rfl, ez, R.cl, R.nP, rf_places m d, n, m, rfl, rfl, decide (n = m), rfl, ?_⟩
      refine ite2 (fun e => ?_) (fun e => ?_)
      · have e' : n = m := of_decide_eq_true e
        refine ⟨.ref x, rfl, x, C, dx, _, _, rfl, ex, R.cl, R.nB, rf_basis n b, .ref z, rfl, z, C, dz, _, _, rfl, ez, R.cl, R.nB, rf_basis m d, eqD_vs (SqL.of eb) (SqL.of ed) ?_⟩
        have : decide (n = m ∧ B = D) = decide (B = D) := decide_eq_decide.mpr ⟨fun k => k.2, fun k => ⟨e', k⟩⟩
        rw [this] at q
        exact q
      · have : decide (n = m ∧ B = D) = false := decide_eq_false fun k => e (decide_eq_true k.1)
        rw [this] at q
        exact q
    · exact ⟨y, rfl, y, .ref C, t, .ref C, false, rfl, .own C, ty, ko, false, rfl, iteF q⟩
abbrev s_Room___repr__ : Stmt := inClass (topS 31) 7
abbrev N_Room___repr__ : List Str := ["self"]
theorem sc_Room___repr__ : FnScope N_Room___repr__ ["self"] (defScope s_Room___repr__) := ⟨rfl, rfl, rfl, by decide +kernel, rfl, by decide +kernel, by decide +kernel⟩
theorem ok_repr {f : Addr} {fd : FuncData} (F : Fun K "__repr__" "Room.__repr__" s_Room___repr__ f fd) (R : RKn K C) : GgOk P w K mg base 1 f fd ["self"] (sp_repr C) := by
  refine gg_ok F sc_Room___repr__ (fun g vs H Q E h => ?_) (fun g cdv A outer s H vs Q E hg hr h => ?_)
  · obtain ⟨x, dx, b, n, B, rfl, _⟩ := h
    rfl
  · obtain ⟨x, dx, b, n, B, rfl, ex, eb, n1, n24, hB, lB, hc, q⟩ := h
    have sm : ∀ y ∈ Vf.vs B, small y = true := small_vs fun c hc => lt24 n24 (hB c hc)
    have l1 := txt_len sm
    rw [len_vs] at l1
    have l2 : ((toString (n : Int) : Str)).length ≤ 30 := by
      have e := int_text_length_le (a := (n : Int)) (k := 24) (by decide) (by
        show n.log2 < 24
        exact (Nat.log2_lt (by omega)).mpr (Nat.lt_of_le_of_lt n24 (by decide)))
      show (Str.ofString (toString (n : Int))).length ≤ 30
      rw [PySem.ofString_length]
      omega
    have e3 : sizeLine = 16777216 := sizeLine_eq
    have k1 : (Str.empty).length = 0 := rfl
    have k2 : (("Room(" : Str)).length = 5 := rfl
    have k3 : ((", " : Str)).length = 2 := rfl
    have k4 : ((")" : Str)).length = 1 := rfl
    refine ⟨_, (pss_one (ps_ret (pe_joined (PJ.cons pe_str (PJ.cons (pe_fmt (pe_fld (pv 0) rfl)) (PJ.cons pe_str (PJ.cons (pe_fmtG hg hr.units (pe_fld (pv 0) rfl)) (PJ.cons pe_str PJ.nil)))))))), ?_⟩
    refine ⟨"Room(", rfl, by rw [strLen_append]; omega, ?_⟩
    refine ⟨.ref x, rfl, x, C, dx, _, _, rfl, ex, R.cl, R.nP, rf_places n b, .inr ⟨n, rfl, ?_, toString (n : Int), rfl, by rw [strLen_append, strLen_append]; omega, ?_⟩⟩
    · show n.log2 < 1920
      exact Nat.lt_of_lt_of_le ((Nat.log2_lt (by omega)).mpr (Nat.lt_of_le_of_lt n24 (show 24 < 2 ^ 24 by decide))) (by decide)
    refine ⟨", ", rfl, by rw [strLen_append, strLen_append, strLen_append]; omega, ?_⟩
    refine ⟨.ref x, rfl, x, C, dx, _, _, rfl, ex, R.cl, R.nB, rf_basis n b, ⟨⟨b, _, rfl, SqL.of eb, sm, hc, by omega, ?_⟩⟩⟩
    refine ⟨txt (Vf.vs B), rfl, by rw [strLen_append, strLen_append, strLen_append, strLen_append]; omega, ?_⟩
    exact ⟨")", rfl, by rw [strLen_append, strLen_append, strLen_append, strLen_append, strLen_append]; omega, q⟩
abbrev s_check_room : Stmt := topS 32
abbrev N_check_room : List Str := ["room"]
theorem sc_check_room : FnScope N_check_room ["room"] (defScope s_check_room) := ⟨rfl, rfl, rfl, by decide +kernel, rfl, by decide +kernel, by decide +kernel⟩
theorem ok_check_room {f : Addr} {fd : FuncData} (F : Fun K "check_room" "check_room" s_check_room f fd)
    (R : RKn K C)
    (g_Room : mg "Room" = some (.ref C))
    (m_isinstance : mg "isinstance" = none) :
    FnOk P w K mg base CX0 1 f fd ["room"] (sp_check_room C) := by
  refine fn_nv F sc_check_room (fun _ _ => rfl) fun W i hP cdv A outer s H E hr => ⟨_, (pss_one (ps_if (pt_not (pt_val (pe_callB call_isi (by rfl) m_isinstance (by decide +kernel) (pa_cons (pv 0) (pa_cons (pe_glob (v := .ref C) rfl g_Room rfl) pa_nil))))) (pss_one ps_never) pss_nil)), ?_⟩
  obtain ⟨n, B⟩ := i
  dsimp only
  exact ⟨_, nv_ifF (tv_nf (tv_t (tv_B (ev_cb (cd_isRoom R) (av_cons (ev_var rfl) (av_cons ev_c av_nil)))) rfl))⟩
abbrev s_lower_room : Stmt := topS 34
abbrev N_lower_room : List Str := ["places", "doubled", "word"]
theorem sc_lower_room : FnScope N_lower_room ["places", "doubled"] (defScope s_lower_room) := ⟨rfl, rfl, rfl, by decide +kernel, rfl, by decide +kernel, by decide +kernel⟩
theorem ok_lower_room {f : Addr} {fd : FuncData} (F : Fun K "lower_room" "lower_room" s_lower_room f fd)
    (C_plain_basis : Cal P w K mg base "plain_basis" 3 ["words"] [] sp_plain_basis)
    (MK_Room : MakC P w K mg base C "Room" 6 ["self", "places", "words"] (sp_init C)) :
    FnOk P w K mg base CX0 8 f fd ["places", "doubled"] (sp_lower_room C) := by
  refine fn_sv F sc_lower_room (fun _ _ => rfl) fun W i hP cdv A outer s H E hr => ⟨_, (pss_one (ps_ret (pe_mkC MK_Room (hr.mono (by decide)) (by rfl) (pa_cons (pv 0) (pa_cons (pe_lc (own := [("word", 2)]) (g := gName 2) (by rfl) sc_lower_room.nd (pi_list (pe_cal C_plain_basis (hr.mono (by decide)) (by rfl) (pa_cons (pv 1) pa_nil))) (blkOk_by (own := [("word", 2)]) (N := N_lower_room) (sc := defScope s_lower_room) (by decide +kernel)) (fun _ _ _ _ _ => pg_name (i := 2) sc_lower_room.nd rfl (Or.inl rfl)) (fun _ _ _ _ _ => (pts_one (pt_cmpR op_ltN (pv 2) (pe_op op_pow2 pe_int (pv 0)) (nomark _)))) (fun _ _ _ _ _ => (pv 2))) pa_nil))))), ?_⟩
  obtain ⟨n, ws⟩ := i
  dsimp only
  obtain ⟨n1, n24, lt, ln⟩ := hP
  have n1 : 1 ≤ n := n1
  have n24 : n ≤ 24 := n24
  have lt : ∀ v ∈ ws, v < 2 ^ 64 := lt
  have ln : ws.length ≤ 1000 := ln
  have ln' : (bas ws).length ≤ 1000 := Nat.le_trans (plain_len (bas_plain ws) (bas_lt lt)) (by decide)
  refine sv_ret (ev_eq (ev_make n1 n24 lowB_lt ?_ (av_cons (ev_var rfl) (av_cons (ev_lcF (ev_call (sd_plain_basis lt ln) (av_cons (ev_var rfl) av_nil)) (by omega) (fun _ => rfl) fun word hword => (tv_test (ev_op od_ltN (ev_var rfl) (ev_op (od_pow2 (by omega)) (ev_cn 1) (ev_var rfl))))) av_nil))) ?_)
  · exact Nat.le_trans (plain_len (lowB_plain n ws) lowB_lt) (by omega)
  · exact congrArg (dRoom C n) (bas_lowB n ws)
abbrev s_shortened : Stmt := topS 35
abbrev N_shortened : List Str := ["room", "word", "base"]
theorem sc_shortened : FnScope N_shortened ["room", "word"] (defScope s_shortened) := ⟨rfl, rfl, rfl, by decide +kernel, rfl, by decide +kernel, by decide +kernel⟩
theorem ok_shortened {f : Addr} {fd : FuncData} (F : Fun K "shortened" "shortened" s_shortened f fd)
    (C_check_room : Cal P w K mg base "check_room" 1 ["room"] [] (sp_check_room C))
    (C_check_word : Cal P w K mg base "check_word" 5 ["word", "places"] [] sp_check_word)
    (C_lower_room : Cal P w K mg base "lower_room" 8 ["places", "doubled"] [] (sp_lower_room C))
    (M_basis : MthC P w K mg base C "basis" 1 ["self"] (sp_basis C))
    (P_places : PrpC P w K mg base C "places" 1 (sp_places C))
    (n_basis : ∀ n b, (rf n b).lookup ("basis" : Str) = none) :
    FnOk P w K mg base CX0 9 f fd ["room", "word"] (sp_shortened C) := by
  refine fn_sv F sc_shortened (fun _ _ => rfl) fun W i hP cdv A outer s H E hr => ⟨_, (pss_cons (ps_expr (pe_cal C_check_room (hr.mono (by decide)) (by rfl) (pa_cons (pv 0) pa_nil)))
    (pss_cons (ps_expr (pe_cal C_check_word (hr.mono (by decide)) (by rfl) (pa_cons (pv 1) (pa_cons (pe_propC P_places (hr.mono (by decide)) (pv 0) rfl) pa_nil))))
    (pss_one (ps_ret (pe_cal C_lower_room (hr.mono (by decide)) (by rfl) (pa_cons (pe_propC P_places (hr.mono (by decide)) (pv 0) rfl) (pa_cons (pe_lc (own := [("base", 2)]) (g := gName 2) (by rfl) sc_shortened.nd (pi_list (pe_meth0C M_basis (hr.mono (by decide)) (pv 0))) (blkOk_by (own := [("base", 2)]) (N := N_shortened) (sc := defScope s_shortened) (by decide +kernel)) (fun _ _ _ _ _ => pg_name (i := 2) sc_shortened.nd rfl (Or.inl rfl)) (fun _ _ _ _ _ => pts_nil) (fun _ _ _ _ _ => (pe_op op_orN (pe_op op_shlNN (pe_op op_andNot (pv 2) (pe_un un_inv (pv 1))) (pe_propC P_places (hr.mono (by decide)) (pv 0) rfl)) (pv 2)))) pa_nil))))))), ?_⟩
  obtain ⟨n, B, w⟩ := i
  have hw : w < 2 ^ n := hP
  dsimp only
  refine sv_roomF 0 rfl fun fB => ?_
  have lB := plain_len24 fB
  have n24 := fB.n24
  refine sv_seq (nv_drop (ev_call sd_check_room (av_cons (ev_var rfl) av_nil))) ?_
  refine sv_seq (nv_drop (ev_call (sd_check_word fB.n1 n24 hw) (av_cons (ev_var rfl) (av_cons (ev_prop sd_places (ev_var rfl)) av_nil)))) ?_
  exact sv_ret (ev_call (sd_lower_room (ws := shoB n B w) fB.n1 n24 (shoB_lt n24 fB.lt) (by unfold shoB; rw [List.length_map]; omega)) (av_cons (ev_prop sd_places (ev_var rfl)) (av_cons (ev_lcM (g := fun b => (offB w b <<< n) ||| b) (ev_meth n_basis sd_basis (ev_var rfl) av_nil) (by omega) fun base hbase => (ev_op od_orN (ev_op (od_shlN (lt64 n24 (offB_lt (fB.lt _ hbase))) (by omega)) (ev_andNot (ev_var rfl) (ev_var rfl)) (ev_prop sd_places (ev_var rfl))) (ev_var rfl))) av_nil)))
abbrev s_put_together : Stmt := topS 37
abbrev N_put_together : List Str := ["lots", "word", "met", "lot"]
theorem sc_put_together : FnScope N_put_together ["lots", "word"] (defScope s_put_together) := ⟨rfl, rfl, rfl, by decide +kernel, rfl, by decide +kernel, by decide +kernel⟩
theorem ok_put_together {f : Addr} {fd : FuncData} (F : Fun K "put_together" "put_together" s_put_together f fd)
    (m_sum : mg "sum" = none) :
    FnOk P w K mg base CX0 1 f fd ["lots", "word"] sp_put := by
  refine fn_sv F sc_put_together (fun _ _ => rfl) fun W i hP cdv A outer s H E hr => ⟨_, (pss_cons (ps_setLc (i := 2) (own := [("lot", 3)]) (g := gName 3) (by rfl) sc_put_together.nd rfl rfl (sw_true rfl rfl rfl (by decide +kernel)) (pi_list (pv 0)) (blkOk_by (own := [("lot", 3)]) (N := N_put_together) (sc := defScope s_put_together) (by decide +kernel)) (fun _ _ _ _ _ => pg_name (i := 3) sc_put_together.nd rfl (Or.inl rfl)) (fun _ _ _ _ _ => (pts_one (pt_int (pe_op op_andN (pv 3) (pv 1)) (by intro _; rfl)))) (fun _ _ _ _ _ => (pv 3)))
    (pss_one (ps_ret (pe_op op_cat (pe_lc (own := [("lot", 3)]) (g := gName 3) (by rfl) sc_put_together.nd (pi_list (pv 0)) (blkOk_by (own := [("lot", 3)]) (N := N_put_together) (sc := defScope s_put_together) (by decide +kernel)) (fun _ _ _ _ _ => pg_name (i := 3) sc_put_together.nd rfl (Or.inl rfl)) (fun _ _ _ _ _ => (pts_one (pt_not (pt_int (pe_op op_andN (pv 3) (pv 1)) (by intro _; rfl))))) (fun _ _ _ _ _ => (pv 3))) (pe_lst (pa_cons (pe_callB (cr_sum rfl) (by rfl) m_sum (by decide +kernel) (pa_cons (pv 2) pa_nil)) pa_nil)))))), ?_⟩
  obtain ⟨l, w⟩ := i
  have ln : l.length ≤ 1000 := hP.ln
  have f1 := List.length_filter_le (fun t => decide (t &&& w = 0)) l
  try dsimp only
  refine sv_seq (nv_set (ev_lcF (p := fun t => !decide (t &&& w = 0)) (ev_var rfl) (by omega) (fun _ => rfl) fun lot hlot => (tv_eq (by simp) (tv_int (ev_op od_andN (ev_var rfl) (ev_var rfl)))))) ?_
  exact sv_ret (ev_op (od_cat (by simp only [List.length_singleton]; omega)) (ev_lcF (p := fun t => decide (t &&& w = 0)) (ev_var rfl) (by omega) (fun _ => rfl) fun lot hlot => (tv_eq (by simp) (tv_not (tv_int (ev_op od_andN (ev_var rfl) (ev_var rfl)))))) (ev_lstN [_] (av_cons (ev_cb cd_sum (av_cons (ev_var rfl) av_nil)) av_nil)))
abbrev s_parts : Stmt := topS 38
abbrev N_parts : List Str := ["room", "lots", "place", "base", "lot"]
theorem sc_parts : FnScope N_parts ["room"] (defScope s_parts) := ⟨rfl, rfl, rfl, by decide +kernel, rfl, by decide +kernel, by decide +kernel⟩
theorem ok_parts {f : Addr} {fd : FuncData} (F : Fun K "parts" "parts" s_parts f fd)
    (C_check_room : Cal P w K mg base "check_room" 1 ["room"] [] (sp_check_room C))
    (C_places_of : Cal P w K mg base "places_of" 6 ["word"] [] sp_places_of)
    (C_put_together : Cal P w K mg base "put_together" 1 ["lots", "word"] [] sp_put)
    (M_basis : MthC P w K mg base C "basis" 1 ["self"] (sp_basis C))
    (P_places : PrpC P w K mg base C "places" 1 (sp_places C))
    (R : RKn K C)
    (m_range : mg "range" = none)
    (m_sorted : mg "sorted" = none)
    (n_basis : ∀ n b, (rf n b).lookup ("basis" : Str) = none) :
    FnOk P w K mg base CX0 7 f fd ["room"] (sp_parts C) := by
  refine fn_sv F sc_parts (fun _ _ => rfl) fun W i hP cdv A outer s H E hr => ⟨_, (pss_cons (ps_expr (pe_cal C_check_room (hr.mono (by decide)) (by rfl) (pa_cons (pv 0) pa_nil)))
    (pss_cons (ps_setLc (i := 1) (own := [("place", 2)]) (g := gName 2) (by rfl) sc_parts.nd rfl rfl (sw_true rfl rfl rfl (by decide +kernel)) (pi_range1 (by rfl) m_range (pa_cons (pe_propC P_places (hr.mono (by decide)) (pv 0) rfl) pa_nil)) (blkOk_by (own := [("place", 2)]) (N := N_parts) (sc := defScope s_parts) (by decide +kernel)) (fun _ _ _ _ _ => pg_name (i := 2) sc_parts.nd rfl (Or.inl rfl)) (fun _ _ _ _ _ => pts_nil) (fun _ _ _ _ _ => (pe_op op_pow2 pe_int (pv 2))))
    (pss_cons (ps_for PassesOwn.never rfl (pi_list (pe_meth0C M_basis (hr.mono (by decide)) (pv 0))) (pg_name (i := 3) sc_parts.nd rfl (Or.inl rfl))
      (pss_one (ps_set (i := 1) sc_parts.nd rfl (Or.inl rfl) (pe_cal C_put_together (hr.mono (by decide)) (by rfl) (pa_cons (pv 1) (pa_cons (pv 3) pa_nil))))))
    (pss_one (ps_ret (pe_callB (LamK.cr_sortedLL hr.units) (by rfl) m_sorted (by decide +kernel) (pa_cons (pe_lc (own := [("lot", 4)]) (g := gName 4) (by rfl) sc_parts.nd (pi_list (pv 1)) (blkOk_by (own := [("lot", 4)]) (N := N_parts) (sc := defScope s_parts) (by decide +kernel)) (fun _ _ _ _ _ => pg_name (i := 4) sc_parts.nd rfl (Or.inl rfl)) (fun _ _ _ _ _ => pts_nil) (fun _ _ _ _ _ => (pe_cal C_places_of (hr.mono (by decide)) (by rfl) (pa_cons (pv 4) pa_nil)))) pa_nil))))))), ?_⟩
  obtain ⟨n, B⟩ := i
  try dsimp only
  refine sv_roomF 0 rfl fun f => ?_
  have f : RoomF n B := f
  have n24 := f.n24
  have bl := plain_len f.pl f.lt
  have l0 : (lots0 n).length = n := by unfold lots0; rw [List.length_map, List.length_range]
  have ll : ∀ k, ((B.take k).foldl putT (lots0 n)).length ≤ 48 := fun k => by
    have a := foldT_len (B.take k) (lots0 n)
    rw [List.length_take] at a
    omega
  have ok := (part_ok f).1
  have e1 : partL n B = B.foldl putT (lots0 n) := rfl
  refine sv_seq (nv_drop (ev_call sd_check_room (av_cons (ev_var rfl) av_nil))) ?_
  refine sv_seq (nv_set (d := dVs (lots0 n)) (ev_lcRM (g := fun p => 2 ^ p) (av_cons (ev_prop sd_places (ev_var rfl)) av_nil) (by omega) fun place hplace => (ev_op (od_pow2 (by omega)) (ev_cn 1) (ev_var rfl)))) ?_
  refine sv_seq (nv_forL (l := B) (fun k => (envOf [dRoom C n B] 4).set 1 (some (dVs ((B.take k).foldl putT (lots0 n))))) (ev_meth n_basis sd_basis (ev_var rfl) av_nil) (fun σ H e => e.sub rfl ⟨rfl, rfl, trivial⟩) fun k x hx => ?_) ?_
  · have ek : B.take (k + 1) = B.take k ++ [x] := by rw [List.take_add_one, hx]; rfl
    have es : (B.take (k + 1)).foldl putT (lots0 n) = putT ((B.take k).foldl putT (lots0 n)) x := by rw [ek, List.foldl_append]; rfl
    have := ll k
    exact nv_sub (nv_set (ev_eqD (ev_call (sd_put (by omega)) (av_cons (ev_var rfl) (av_cons (ev_var rfl) av_nil))) (congrArg dVs es.symm))) rfl ⟨rfl, rfl, trivial⟩
  rw [List.take_length, ← e1]
  have l1 : (partL n B).length ≤ 48 := by have := ll B.length; rw [List.take_length] at this; exact this
  exact sv_ret (ev_cb cd_sortedLL (av_cons (ev_eqD (ev_lcDD (N := 5) [] (partL n B) (fun w : Nat => uV (V.int w)) (fun w => uVs (spots w)) (ev_LD (ev_var rfl)) (fun σ H e => e.sub rfl trivial) (by omega) fun W' lot hlot => (ev_call (sd_places_of (Nat.lt_of_lt_of_le (ok.lt lot hlot) (pw_le n24))) (av_cons (ev_var (d := dN lot) rfl) av_nil))) (show _ = (dLD (uDs (((partL n B).map spots).map uVs) W) : Dn W) by rw [List.map_map]; rfl)) av_nil))
abbrev s_told_by : Stmt := topS 39
abbrev N_told_by : List Str := ["word", "spots", "place", "spot"]
theorem sc_told_by : FnScope N_told_by ["word", "spots"] (defScope s_told_by) := ⟨rfl, rfl, rfl, by decide +kernel, rfl, by decide +kernel, by decide +kernel⟩
theorem ok_told_by {f : Addr} {fd : FuncData} (F : Fun K "told_by" "told_by" s_told_by f fd)
    (m_enumerate : mg "enumerate" = none)
    (m_sum : mg "sum" = none) :
    FnOk P w K mg base CX0 1 f fd ["word", "spots"] sp_told_by := by
  refine fn_sv F sc_told_by (fun _ _ => rfl) fun W i hP cdv A outer s H E hr => ⟨_, (pss_one (ps_ret (pe_callB (cr_sum rfl) (by rfl) m_sum (by decide +kernel) (pa_cons (pe_lc (own := [("place", 2), ("spot", 3)]) (g := gTup K 2 (gCons (gName 2) (gCons (gName 3) gNil))) (by rfl) sc_told_by.nd (pi_enumLT (by rfl) m_enumerate (pa_cons (pv 1) pa_nil)) (blkOk_by (own := [("place", 2), ("spot", 3)]) (N := N_told_by) (sc := defScope s_told_by) (by decide +kernel)) (fun _ _ _ _ _ => (pg_tup rfl (pgs_cons (pg_name (i := 2) sc_told_by.nd rfl (Or.inl rfl)) (pgs_cons (pg_name (i := 3) sc_told_by.nd rfl (Or.inl rfl)) pgs_nil)))) (fun _ _ _ _ _ => pts_nil) (fun _ _ _ _ _ => (pe_op op_shlNN (pe_op op_andN (pe_op op_shrNN (pv 0) (pv 3)) pe_int) (pv 2)))) pa_nil)))), ?_⟩
  obtain ⟨v, l⟩ := i
  obtain ⟨v24, ln, lt⟩ := hP
  have v24 : v < 2 ^ 24 := v24
  have ln : l.length ≤ 24 := ln
  have lt : ∀ k ∈ l, k < 24 := lt
  try dsimp only
  refine sv_ret (ev_eqD (ev_cb cd_sumI (av_cons (ev_lcEQ (l := l) (G := fun k => (((v / 2 ^ l.getD k 0 &&& 1) <<< k : Nat) : Int)) rfl qs_LT (by omega) (by decide) fun k hk => (ev_op (od_shlN (Nat.lt_of_le_of_lt Nat.and_le_right (by decide)) (by omega)) (ev_op od_andN (ev_op od_shrN (ev_var rfl) (ev_var (d := dN (l.getD k 0)) rfl)) (ev_cn 1)) (ev_var rfl))) av_nil)) (congrArg dI (toldW_iz l v)))
abbrev s_part_room : Stmt := topS 40
abbrev N_part_room : List Str := ["room", "spots", "inside", "base"]
theorem sc_part_room : FnScope N_part_room ["room", "spots"] (defScope s_part_room) := ⟨rfl, rfl, rfl, by decide +kernel, rfl, by decide +kernel, by decide +kernel⟩
theorem ok_part_room {f : Addr} {fd : FuncData} (F : Fun K "part_room" "part_room" s_part_room f fd)
    (C_are_spots : Cal P w K mg base "are_spots" 3 ["places", "value"] [] sp_are_spots)
    (C_check_room : Cal P w K mg base "check_room" 1 ["room"] [] (sp_check_room C))
    (C_shortened : Cal P w K mg base "shortened" 9 ["room", "word"] [] (sp_shortened C))
    (C_told_by : Cal P w K mg base "told_by" 1 ["word", "spots"] [] sp_told_by)
    (C_word_of : Cal P w K mg base "word_of" 4 ["spots"] [] sp_word_of)
    (MK_Room : MakC P w K mg base C "Room" 6 ["self", "places", "words"] (sp_init C))
    (M_basis : MthC P w K mg base C "basis" 1 ["self"] (sp_basis C))
    (P_places : PrpC P w K mg base C "places" 1 (sp_places C))
    (m_len : mg "len" = none)
    (n_basis : ∀ n b, (rf n b).lookup ("basis" : Str) = none) :
    FnOk P w K mg base CX0 10 f fd ["room", "spots"] (sp_part_room C) := by
  refine fn_sv F sc_part_room (fun _ _ => rfl) fun W i hP cdv A outer s H E hr => ⟨_, (pss_cons (ps_expr (pe_cal C_check_room (hr.mono (by decide)) (by rfl) (pa_cons (pv 0) pa_nil)))
    (pss_cons (ps_if (PW.pt (pw_or (pt_not (pt_val (pe_cal C_are_spots (hr.mono (by decide)) (by rfl) (pa_cons (pe_propC P_places (hr.mono (by decide)) (pv 0) rfl) (pa_cons (pv 1) pa_nil))))) (pw_or1 (pt_cmpR op_eqN (pe_callB call_len_seq (by rfl) m_len (by decide +kernel) (pa_cons (pv 1) pa_nil)) pe_int (nomark _))))) (pss_one ps_never) pss_nil)
    (pss_cons (ps_set (i := 2) sc_part_room.nd rfl (Or.inl rfl) (pe_cal C_shortened (hr.mono (by decide)) (by rfl) (pa_cons (pv 0) (pa_cons (pe_cal C_word_of (hr.mono (by decide)) (by rfl) (pa_cons (pv 1) pa_nil)) pa_nil))))
    (pss_one (ps_ret (pe_mkC MK_Room (hr.mono (by decide)) (by rfl) (pa_cons (pe_callB call_len_seq (by rfl) m_len (by decide +kernel) (pa_cons (pv 1) pa_nil)) (pa_cons (pe_lc (own := [("base", 3)]) (g := gName 3) (by rfl) sc_part_room.nd (pi_list (pe_meth0C M_basis (hr.mono (by decide)) (pv 2))) (blkOk_by (own := [("base", 3)]) (N := N_part_room) (sc := defScope s_part_room) (by decide +kernel)) (fun _ _ _ _ _ => pg_name (i := 3) sc_part_room.nd rfl (Or.inl rfl)) (fun _ _ _ _ _ => pts_nil) (fun _ _ _ _ _ => (pe_cal C_told_by (hr.mono (by decide)) (by rfl) (pa_cons (pv 3) (pa_cons (pv 1) pa_nil))))) pa_nil)))))))), ?_⟩
  obtain ⟨n, B, l⟩ := i
  obtain ⟨nd, lt, pos⟩ := hP
  have nd : l.Nodup := nd
  have lt : ∀ k ∈ l, k < n := lt
  have pos : 0 < l.length := pos
  try dsimp only
  refine sv_roomF 0 rfl fun f => ?_
  have f : RoomF n B := f
  have n24 := f.n24
  have ll := nd_len nd lt
  have ml : (l.map (2 ^ ·)).sum < 2 ^ n := Nat.lt_pow_two_of_testBit _ fun k hk => by
    cases e : ((l.map (2 ^ ·)).sum).testBit k with
    | false => rfl
    | true => have := lt k ((mask_bit nd lt k).mp e); omega
  have sl : ∀ v ∈ lowB n (shoB n B (l.map (2 ^ ·)).sum), v < 2 ^ 24 := fun v hv => lt24 n24 (lowB_lt v hv)
  have lb := plain_len (lowB_plain n (shoB n B (l.map (2 ^ ·)).sum)) lowB_lt
  refine sv_seq (nv_drop (ev_call sd_check_room (av_cons (ev_var rfl) av_nil))) ?_
  refine sv_seq (nv_ifF (tv_orF (tv_nf (tv_B (ev_call (sd_are_spots nd lt (by omega)) (av_cons (ev_prop sd_places (ev_var rfl)) (av_cons (ev_var rfl) av_nil))))) (tv_f (tv_test (ev_op od_eqN (ev_cb cd_lenLT (av_cons (ev_var rfl) av_nil)) (ev_cn 0))) (decide_eq_false (by omega))))) ?_
  refine sv_seq (nv_set (ev_call (sd_shortened ml) (av_cons (ev_var rfl) (av_cons (ev_call (sd_word_of nd (fun i hi => Nat.lt_of_lt_of_le (lt i hi) n24) (by omega)) (av_cons (ev_var rfl) av_nil)) av_nil)))) ?_
  exact sv_ret (ev_make (by omega) (by omega) (fun v hv => by
    obtain ⟨u, _, rfl⟩ := List.mem_map.mp hv
    exact toldW_lt l u) (by rw [List.length_map]; omega) (av_cons (ev_cb cd_lenLT (av_cons (ev_var rfl) av_nil)) (av_cons (ev_lcM (g := toldW l) (ev_meth n_basis sd_basis (ev_var rfl) av_nil) (by omega) fun base hbase => (ev_call (sd_told_by (sl base hbase) (by omega) fun k hk => Nat.lt_of_lt_of_le (lt k hk) n24) (av_cons (ev_var rfl) (av_cons (ev_var rfl) av_nil)))) av_nil)))
end
end K72
set_option Elab.async false
set_option linter.all false
set_option maxRecDepth 100000
set_option maxHeartbeats 1000000
set_option pp.maxSteps 300
namespace K72
open PySem PySem.Spec PyProof.Rows L2 Vf
section
variable {P : Program} {w : World} {K : PySem.W.Frag} {mg : Str → Option Value} {base : Heap} {C : Addr}
abbrev s_law_pot : Stmt := topS 42
abbrev N_law_pot : List Str := ["_law_script", "_law_k", "_law_cell"]
theorem sc_law_pot : FnScope N_law_pot ["_law_script", "_law_k"] (defScope s_law_pot) := ⟨rfl, rfl, rfl, by decide +kernel, rfl, by decide +kernel, by decide +kernel⟩
theorem ok_law_pot {f : Addr} {fd : FuncData} (F : Fun K "_law_pot" "_law_pot" s_law_pot f fd) (m_len : mg "len" = none) (m_abs : mg "abs" = none) (m_max : mg "max" = none) (m_int : mg "int" = none) :
    FnOk P w K mg base CX0 1 f fd ["_law_script", "_law_k"] (sp_pot K) := by
  refine F.ok sc_law_pot (fun vs H Q E h => ?_) (fun cdv A outer s H vs Q E hr h => ?_)
  · obtain ⟨a, ns, k, rfl, _⟩ := h
    rfl
  · obtain ⟨a, ns, k, rfl, hS, hk, q⟩ := h
    refine ⟨_, (pss_cons (ps_set (i := 2) sc_law_pot.nd rfl (Or.inl rfl) (pe_op op_addN (pe_op op_mulN pe_int (pv 1)) pe_int))
    (pss_cons (ps_if (pt_cmpR op_ltN (pv 1) (pe_callB call_len_seq (by rfl) m_len (by decide +kernel) (pa_cons (pv 0) pa_nil)) (nomark _)) (pss_one (ps_set (i := 2) sc_law_pot.nd rfl (Or.inl rfl) (pe_callB call_abs (by rfl) m_abs (by decide +kernel) (pa_cons (pe_ix ix_list (pv 0) (pv 1) (fun _ _ => rfl)) pa_nil)))) pss_nil)
    (pss_one (ps_ret (pe_lst (pa_cons (pe_callB (call_max2 rfl) (by rfl) m_max (by decide +kernel) (pa_cons pe_int (pa_cons (pe_op op_sub (pv 2) (pe_op op_pow pe_int pe_int)) pa_nil))) (pa_cons (pe_op op_addN (pe_op op_modNN (pe_callTy call_intN (by rfl) m_int (by decide +kernel) (pa_cons (pe_op op_addN (pe_op op_addN (pe_op op_mulN (pe_op op_modNN (pe_callTy call_intN (by rfl) m_int (by decide +kernel) (pa_cons (pv 2) pa_nil)) pe_int) pe_int) (pe_op op_mulN pe_int (pv 1))) pe_int) pa_nil)) pe_int) pe_int) pa_nil))))))), ?_⟩
    refine ⟨.int k, rfl, 487, k, rfl, rfl, by decide, 487 * k, 313, rfl, rfl, ?_⟩
    refine ⟨.int k, rfl, .ref a, rfl, a, _, rfl, .inl hS, k, ns.length, rfl, ?_, _, rfl, ite2 (fun hb => ?_) (fun hb => ?_)⟩
    · rw [List.length_map]
    · have hl : k < ns.length := of_decide_eq_true hb
      refine ⟨.ref a, rfl, .int k, rfl, a, _, k, .int (ns[k]), rfl, rfl, hS, atI_nat (j := k) (by rw [List.getElem?_map, List.getElem?_eq_getElem hl]; rfl), ns[k], rfl, ?_⟩
      have e : V.int (if ns[k] < 0 then -ns[k] else ns[k]) = V.int ((ns[k].natAbs : Nat) : Int) := by
        congr 1
        split <;> omega
      rw [e]
      refine ⟨.int ((((ns[k].natAbs) : Nat)) : Int), rfl, 10, 18, rfl, rfl, ⟨by decide, by decide, by decide⟩, ((((ns[k].natAbs) : Nat)) : Int), _, rfl, rfl, 0, _, rfl, ?_⟩
      refine ⟨.int ((((ns[k].natAbs) : Nat)) : Int), rfl, (ns[k].natAbs), rfl, (ns[k].natAbs), 2147483549, rfl, rfl, by decide, (ns[k].natAbs) % 2147483549, 48271, rfl, rfl, ?_, .int k, rfl, 3571, k, rfl, rfl, by decide, _, _, rfl, rfl, _, 17, rfl, rfl, _, rfl, _, 2147483563, rfl, rfl, by decide, _, 1, rfl, rfl, (by show 2 ≤ sizeLine; decide), fun p hp => q _ p (same_new hp) hp (pot_new ?_)⟩
      · have := Nat.mod_lt (ns[k].natAbs) (show 0 < 2147483549 by decide)
        omega
      · have := Nat.mod_lt ((ns[k].natAbs) % 2147483549 * 48271 + 3571 * k + 17) (show 0 < 2147483563 by decide)
        omega
    · refine ⟨.int ((((487 * k + 313) : Nat)) : Int), rfl, 10, 18, rfl, rfl, ⟨by decide, by decide, by decide⟩, ((((487 * k + 313) : Nat)) : Int), _, rfl, rfl, 0, _, rfl, ?_⟩
      refine ⟨.int ((((487 * k + 313) : Nat)) : Int), rfl, (487 * k + 313), rfl, (487 * k + 313), 2147483549, rfl, rfl, by decide, (487 * k + 313) % 2147483549, 48271, rfl, rfl, ?_, .int k, rfl, 3571, k, rfl, rfl, by decide, _, _, rfl, rfl, _, 17, rfl, rfl, _, rfl, _, 2147483563, rfl, rfl, by decide, _, 1, rfl, rfl, (by show 2 ≤ sizeLine; decide), fun p hp => q _ p (same_new hp) hp (pot_new ?_)⟩
      · have := Nat.mod_lt (487 * k + 313) (show 0 < 2147483549 by decide)
        omega
      · have := Nat.mod_lt ((487 * k + 313) % 2147483549 * 48271 + 3571 * k + 17) (show 0 < 2147483563 by decide)
        omega
abbrev s_law_draw : Stmt := topS 43
abbrev N_law_draw : List Str := ["_law_pot_here", "_law_size", "_law_digit"]
theorem sc_law_draw : FnScope N_law_draw ["_law_pot_here", "_law_size"] (defScope s_law_draw) := ⟨rfl, rfl, rfl, by decide +kernel, rfl, by decide +kernel, by decide +kernel⟩
theorem ok_law_draw {f : Addr} {fd : FuncData} (F : Fun K "_law_draw" "_law_draw" s_law_draw f fd) (m_divmod : mg "divmod" = none) (m_int : mg "int" = none) :
    FnOk P w K mg base CX0 1 f fd ["_law_pot_here", "_law_size"] sp_draw := by
  refine F.ok sc_law_draw (fun vs H Q E h => ?_) (fun cdv A outer s H vs Q E hr h => ?_)
  · obtain ⟨a, n, rfl, _⟩ := h
    rfl
  · obtain ⟨p, n, rfl, hP, h1, h2, q⟩ := h
    obtain ⟨x, y, eP, ly⟩ := hP
    have hL : SqL K H p [.int (x : Int), .int (y : Int)] := .inl (.inl eP)
    refine ⟨_, (pss_cons (ps_if (pt_cmpR op_gtN (pe_ix ix_list (pv 0) pe_int (fun _ _ => rfl)) pe_int (nomark _)) (pss_cons (ps_asg (pe_callB call_divmodN (by rfl) m_divmod (by decide +kernel) (pa_cons (pe_ix ix_list (pv 0) pe_int (fun _ _ => rfl)) (pa_cons (pv 1) pa_nil))) (pg_tup rfl (pgs_cons (pg_sub (pv 0) pe_int set_list) (pgs_cons (pg_name (i := 2) sc_law_draw.nd rfl (Or.inl rfl)) pgs_nil))))
    (pss_one (ps_ret (pv 2)))) pss_nil)
    (pss_cons (ps_asg (pe_op op_modNN (pe_callTy call_intN (by rfl) m_int (by decide +kernel) (pa_cons (pe_op op_addN (pe_op op_mulN (pe_ix ix_list (pv 0) pe_int (fun _ _ => rfl)) pe_int) pe_int) pa_nil)) pe_int) (pg_sub (pv 0) pe_int set_list))
    (pss_one (ps_ret (pe_op op_modNN (pe_callTy call_intN (by rfl) m_int (by decide +kernel) (pa_cons (pe_op op_fdivNN (pe_op op_modNN (pe_callTy call_intN (by rfl) m_int (by decide +kernel) (pa_cons (pe_op op_mulN (pe_ix ix_list (pv 0) pe_int (fun _ _ => rfl)) (pe_ix ix_list (pv 0) pe_int (fun _ _ => rfl))) pa_nil)) pe_int) pe_int) pa_nil)) (pv 1)))))), ?_⟩
    refine ⟨.ref p, rfl, p, _, 0, .int x, rfl, rfl, hL, atI_nat (j := 0) rfl, x, 0, rfl, rfl, _, rfl, ite2 (fun hb => ?_) (fun hb => ?_)⟩
    · refine ⟨.ref p, rfl, p, _, 0, .int x, rfl, rfl, hL, atI_nat (j := 0) rfl, .int n, rfl, x, n, rfl, h1, h2, fun t ht => ?_⟩
      have np : p ≠ t := ne_of_none eP ht
      refine ⟨t, _, rfl, .inl (.inl upd_same), rfl, _, _, rfl, .ref p, rfl, p, [.int x, .int y], 0, 0, rfl, rfl, ?_, rfl, _, _, rfl, rfl, ?_⟩
      · rw [upd_ne np]
        exact eP
      · refine ⟨.int ((x % n : Nat) : Int), rfl, q _ (x % n) (fun b o nb e => ?_) ⟨x / n, y, upd_same, ly⟩ (Nat.mod_lt _ h1)⟩
        rw [upd_ne nb, upd_ne (ne_of_none e ht)]
        exact e
    · have l1 := Nat.mod_lt (y * 39373 + 3571) (show 0 < 2147483587 by decide)
      refine ⟨.ref p, rfl, p, _, 1, .int y, rfl, rfl, hL, atI_nat (j := 1) rfl, y, 39373, rfl, rfl, by omega, _, 3571, rfl, rfl, _, rfl, _, 2147483587, rfl, rfl, by decide,
        .ref p, rfl, p, [.int x, .int y], 1, 1, rfl, rfl, eP, rfl, ?_⟩
      have e2 : (upd H p (.lst ([V.int x, V.int y].set 1 (V.int (((y * 39373 + 3571) % 2147483587 : Nat) : Int))))) p = some (.lst [.int (x : Int), .int (((y * 39373 + 3571) % 2147483587 : Nat) : Int)]) := upd_same
      have hL2 := SqL.of (K := K) e2
      refine ⟨.ref p, rfl, p, _, 1, _, rfl, rfl, hL2, atI_nat (j := 1) rfl, .ref p, rfl, p, _, 1, _, rfl, rfl, hL2, atI_nat (j := 1) rfl, _, _, rfl, rfl, by omega, _, rfl, _, 2147483563, rfl, rfl, by decide,
        _, 17, rfl, rfl, ⟨by decide, by decide⟩, _, rfl, .int n, rfl, _, n, rfl, rfl, h1, ?_⟩
      exact q _ _ (fun b o nb e => by rw [upd_ne nb]; exact e) ⟨x, _, e2, by omega⟩ (Nat.mod_lt _ h1)
abbrev s_law_pick : Stmt := topS 44
abbrev N_law_pick : List Str := ["_law_pot_here", "_law_some"]
theorem sc_law_pick : FnScope N_law_pick ["_law_pot_here", "_law_some"] (defScope s_law_pick) := ⟨rfl, rfl, rfl, by decide +kernel, rfl, by decide +kernel, by decide +kernel⟩
theorem ok_law_pick {f : Addr} {fd : FuncData} (F : Fun K "_law_pick" "_law_pick" s_law_pick f fd)
    (C_law_draw : Cal P w K mg base "_law_draw" 1 ["_law_pot_here", "_law_size"] [] sp_draw)
    (m_len : mg "len" = none) :
    FnOk P w K mg base CX0 2 f fd ["_law_pot_here", "_law_some"] sp_pick71 := by
  refine fn_sv F sc_law_pick (fun _ _ => rfl) fun W i hP cdv A outer s H E hr => ⟨_, (pss_one (ps_ret (pe_ix ix_list (pv 1) (pe_cal C_law_draw (hr.mono (by decide)) (by rfl) (pa_cons (pv 0) (pa_cons (pe_callB call_len_seq (by rfl) m_len (by decide +kernel) (pa_cons (pv 1) pa_nil)) pa_nil))) (fun _ _ => rfl)))), ?_⟩
  obtain ⟨p, l⟩ := i
  obtain ⟨hp, n0, sm⟩ := hP
  have hp : IsPot W p := hp
  have n0 : 0 < l.length := n0
  have sm : l.length ≤ 1000 := sm
  have ln : (uDs (l.map uPc) W).length = l.length := by unfold uDs; rw [List.length_map, List.length_map]
  try dsimp only
  refine sv_ret (ev_wk (ev_opR (P' := fun k => k < l.length) (f' := fun k => dN k) (g := fun k => (uPc (l.getD k ⟨"", 0, [], 0⟩)).f W) (fun k hk => (od_ixLD (by unfold uDs; rw [List.map_map, List.getElem?_map, List.getD_eq_getElem?_getD, List.getElem?_eq_getElem hk]; rfl))) (ev_var (d := dLD (uDs (l.map uPc) W)) rfl) (ev_eqD (ev_call (sd_draw hp (by rw [ln]; exact n0) (by rw [ln]; omega)) (av_cons (ev_var rfl) (av_cons (ev_cb cd_lenLD (av_cons (ev_var (d := dLD (uDs (l.map uPc) W)) rfl) av_nil)) av_nil))) (by rw [ln]))) fun v H ⟨k, hk, o⟩ => ⟨l.getD k ⟨"", 0, [], 0⟩, ?_, o⟩)
  rw [List.getD_eq_getElem?_getD, List.getElem?_eq_getElem hk]
  exact List.getElem_mem hk
abbrev s_law_word : Stmt := topS 45
abbrev N_law_word : List Str := ["_law_spots", "_law_spot"]
theorem sc_law_word : FnScope N_law_word ["_law_spots"] (defScope s_law_word) := ⟨rfl, rfl, rfl, by decide +kernel, rfl, by decide +kernel, by decide +kernel⟩
theorem ok_law_word {f : Addr} {fd : FuncData} (F : Fun K "_law_word" "_law_word" s_law_word f fd)
    (m_sum : mg "sum" = none) :
    FnOk P w K mg base CX0 1 f fd ["_law_spots"] sp_word71 := by
  refine fn_sv F sc_law_word (fun _ _ => rfl) fun W i hP cdv A outer s H E hr => ⟨_, (pss_one (ps_ret (pe_callB (cr_sum rfl) (by rfl) m_sum (by decide +kernel) (pa_cons (pe_lc (own := [("_law_spot", 1)]) (g := gName 1) (by rfl) sc_law_word.nd (pi_list (pv 0)) (blkOk_by (own := [("_law_spot", 1)]) (N := N_law_word) (sc := defScope s_law_word) (by decide +kernel)) (fun _ _ _ _ _ => pg_name (i := 1) sc_law_word.nd rfl (Or.inl rfl)) (fun _ _ _ _ _ => pts_nil) (fun _ _ _ _ _ => (pe_op op_pow2 pe_int (pv 1)))) pa_nil)))), ?_⟩
  obtain ⟨ln, k24⟩ := hP
  have ln : i.length ≤ 1000 := ln
  have k24 : ∀ k ∈ i, k ≤ 24 := k24
  try dsimp only
  exact sv_ret (ev_cb cd_sum (av_cons (ev_lcM (g := fun k => 2 ^ k) (ev_var rfl) (by omega) fun spot hspot => (ev_op (od_pow2 (by have := k24 spot hspot; omega)) (ev_cn 1) (ev_var rfl))) av_nil))
abbrev s_law_span : Stmt := topS 46
abbrev N_law_span : List Str := ["_law_words", "_law_found", "_law_word_here", "_law_old"]
theorem sc_law_span : FnScope N_law_span ["_law_words"] (defScope s_law_span) := ⟨rfl, rfl, rfl, by decide +kernel, rfl, by decide +kernel, by decide +kernel⟩
theorem ok_law_span {f : Addr} {fd : FuncData} (F : Fun K "_law_span" "_law_span" s_law_span f fd)
    (m_sorted : mg "sorted" = none) :
    FnOk P w K mg base CX0 1 f fd ["_law_words"] sp_nspanL := by
  refine fn_sv F sc_law_span (fun _ _ => rfl) fun W i hP cdv A outer s H E hr => ⟨_, (pss_cons (ps_set (i := 1) sc_law_span.nd rfl (Or.inl rfl) (pe_lst (pa_cons pe_int pa_nil)))
    (pss_cons (ps_for PassesOwn.never rfl (pi_list (pv 0)) (pg_name (i := 2) sc_law_span.nd rfl (Or.inr rfl))
      (pss_one (ps_if (pt_cmpR op_notIn_seq (pv 2) (pv 1) (by with_unfolding_all rfl)) (pss_one (ps_set (i := 1) sc_law_span.nd rfl (Or.inl rfl) (pe_op op_cat (pv 1) (pe_lc (own := [("_law_old", 3)]) (g := gName 3) (by rfl) sc_law_span.nd (pi_list (pv 1)) (blkOk_by (own := [("_law_old", 3)]) (N := N_law_span) (sc := defScope s_law_span) (by decide +kernel)) (fun _ _ _ _ _ => pg_name (i := 3) sc_law_span.nd rfl (Or.inl rfl)) (fun _ _ _ _ _ => pts_nil) (fun _ _ _ _ _ => (pe_op op_xorN (pv 3) (pv 2))))))) pss_nil)))
    (pss_one (ps_ret (pe_callB cr_sortedI (by rfl) m_sorted (by decide +kernel) (pa_cons (pv 1) pa_nil)))))), ?_⟩
  generalize hws : i = ws at hP ⊢
  have w12 : ws.length ≤ 12 := hP.ln
  try dsimp only
  refine sv_seq (nv_set (ev_lstN [0] (av_cons (ev_cn 0) av_nil))) ?_
  refine sv_seq (nv_of_nvc (nvc_forV (cs := []) (j := 0) (xs := vs ws) (fun k => (envOf [dVs ws] 3).set 1 (some (dEx (fun L => SpanN (ws.take k) L) dVs))) (fun _ => []) rfl rfl (fun σ H h => env_close 1 (x := [0]) h rfl SpanN.nil rfl ⟨rfl, rfl, trivial⟩) rfl (fun _ => rfl) fun k x hx => ?_) rfl) ?_
  · obtain ⟨w, hw, rfl⟩ := get_vs hx
    have ek : ws.take (k + 1) = ws.take k ++ [w] := by rw [List.take_add_one, hw]; rfl
    refine nvc_end (nv_open 1 rfl fun L hL => ?_)
    have lL : L.length ≤ 4096 := by
      rw [hL.lenB]
      exact Nat.le_trans (Nat.pow_le_pow_right (n := 2) (j := 12) (by decide) (Nat.le_trans (bas_len _) (by rw [List.length_take]; omega))) (by decide)
    have hx2 : w ∈ L → SpanN (ws.take (k + 1)) L := fun h => by rw [ek]; exact hL.old h
    have hn2 : ¬ w ∈ L → SpanN (ws.take (k + 1)) (L ++ L.map fun o => o ^^^ w) := fun h => by
      have := hL.new h
      rw [ek, show (fun o => o ^^^ w) = fun o => w ^^^ o from funext fun o => Nat.xor_comm o w]
      exact this
    refine nv_if (tv_test (ev_op od_ninL (ev_var rfl) (ev_var rfl))) (fun t_ => ?_) (fun t_ => ?_)
    · have t_ : ¬ w ∈ L := by simpa using t_
      exact nv_close 1 (x := L ++ L.map fun o => o ^^^ w) (nv_set (ev_op (od_cat (by rw [List.length_map]; omega)) (ev_var rfl) (ev_lcM (g := fun o => o ^^^ w) (ev_var rfl) (by omega) fun one hone => (ev_op od_xorN (ev_var rfl) (ev_var rfl))))) rfl (hn2 t_) rfl ⟨rfl, rfl, trivial⟩
    · have t_ : w ∈ L := by simpa using t_
      exact nv_close 1 (x := L) nv_next rfl (hx2 t_) rfl ⟨rfl, rfl, trivial⟩
  · refine sv_open 1 rfl fun L hL => ?_
    rw [len_vs, List.take_length] at hL
    exact sv_ret (ev_eq (ev_cb cd_sorted (av_cons (ev_var rfl) av_nil)) (congrArg dVs (words_sort (bas_plain _) hL.2 fun v => (hL.1 v).trans (bas_span ws v).symm)))
abbrev s_law_sequence : Stmt := topS 48
abbrev N_law_sequence : List Str := ["_law_pot_here", "_law_places", "_law_left", "_law_found", "_law_turn"]
theorem sc_law_sequence : FnScope N_law_sequence ["_law_pot_here", "_law_places"] (defScope s_law_sequence) := ⟨rfl, rfl, rfl, by decide +kernel, rfl, by decide +kernel, by decide +kernel⟩
theorem ok_law_sequence {f : Addr} {fd : FuncData} (F : Fun K "_law_sequence" "_law_sequence" s_law_sequence f fd)
    (C_law_draw : Cal P w K mg base "_law_draw" 1 ["_law_pot_here", "_law_size"] [] sp_draw)
    (m_len : mg "len" = none)
    (m_list : mg "list" = none)
    (m_range : mg "range" = none) :
    FnOk P w K mg base CX0 2 f fd ["_law_pot_here", "_law_places"] sp_lseq := by
  refine fn_sv F sc_law_sequence (fun _ _ => rfl) fun W i hP cdv A outer s H E hr => ⟨_, (pss_cons (ps_par (i := 2) (j := 3) (by rfl) sc_law_sequence.nd rfl rfl (by decide) rfl rfl (pa_cons (pe_listRg rfl (by rfl) m_list (prg_1 (by rfl) m_range (pv 1))) (pa_cons (pe_lst pa_nil) pa_nil)) (by rfl))
    (pss_cons (ps_for PassesOwn.never rfl (pi_range1 (by rfl) m_range (pa_cons (pv 1) pa_nil)) (pg_name (i := 4) sc_law_sequence.nd rfl (Or.inl rfl))
      (pss_one (ps_expr (pe_bm PySem.F.plainAttrs_list PySem.F.slot_list_append PySem.F.type_list_append mt_append (pv 3) (pa_cons (pe_bm PySem.F.plainAttrs_list PySem.F.slot_list_pop PySem.F.type_list_pop mt_popAt (pv 2) (pa_cons (pe_cal C_law_draw (hr.mono (by decide)) (by rfl) (pa_cons (pv 0) (pa_cons (pe_callB call_len_seq (by rfl) m_len (by decide +kernel) (pa_cons (pv 2) pa_nil)) pa_nil))) pa_nil)) pa_nil)))))
    (pss_one (ps_ret (pv 3))))), ?_⟩
  obtain ⟨p, n⟩ := i
  obtain ⟨hp, n24⟩ := hP
  have hp : IsPot W p := hp
  have n24 : n ≤ 24 := n24
  try dsimp only
  refine sv_parCC (fl_listRg (by omega) (ev_var rfl)) fl_nil ?_
  refine svx_forR (Pn := fun _ : Unit => True) (f := fun _ => n) (fun k c => ∃ f l : List Nat, c = [(3, vs f), (2, vs l)] ∧ (f ++ l).Perm (List.range n) ∧ f.length = k) [] (ax_consL (ev_ex (ev_var rfl)) av_nil) (fun _ _ => by omega) ⟨[], List.range n, rfl, .refl _, rfl⟩ rfl (fun k c ⟨f, l, e, _⟩ => by rw [e]; rfl) (fun _ k c _ hk ⟨f, l, e, pm, fk⟩ => ?_) (fun _ c _ ⟨f, l, e, pm, fk⟩ => ?_)
  · subst e
    have hk : k < n := hk
    have lf := pm.length_eq
    rw [List.length_append, List.length_range] at lf
    have l0 : 0 < l.length := by omega
    refine nvx_wk [4] (nvx_imp (nvx_appendPop (i := 3) (j := 2) rfl rfl (by
      rw [len_vs]
      exact ev_call (sd_draw hp l0 (by omega)) (av_cons (ev_var rfl) (av_cons (ev_cb cd_lenN (av_cons (ev_var rfl) av_nil)) av_nil))) (by rw [len_vs]; omega) (by rw [len_vs]; omega)) fun c ⟨k', y, hk', hy, ec⟩ => ?_) rfl
    rw [len_vs] at hk'
    obtain ⟨x, hx, rfl⟩ := get_vs hy
    refine ⟨f ++ [x], l.eraseIdx k', ec.trans ?_, ?_, by rw [List.length_append, fk]; rfl⟩
    · show [(3, vs f ++ [_]), (2, (vs l).eraseIdx k')] = _
      rw [vs_snoc, vs_erase]
    · have ex : x = l[k'] := by
        rw [List.getElem?_eq_getElem hk'] at hx
        exact (Option.some.inj hx).symm
      subst ex
      rw [List.append_assoc]
      exact ((erase_perm l k' hk').append_left f).trans pm
  · subst e
    have fk : f.length = n := fk
    have lf := pm.length_eq
    rw [List.length_append, List.length_range] at lf
    have l0 : l = [] := List.length_eq_zero_iff.mp (by omega)
    subst l0
    rw [List.append_nil] at pm
    exact svc_retX rfl f (Seq.of pm) rfl
abbrev s_law_pieces : Stmt := topS 49
abbrev N_law_pieces : List Str := ["_law_found"]
theorem sc_law_pieces : FnScope N_law_pieces [] (defScope s_law_pieces) := ⟨rfl, rfl, rfl, by decide +kernel, rfl, by decide +kernel, by decide +kernel⟩
theorem ok_law_pieces {f : Addr} {fd : FuncData} (F : Fun K "_law_pieces" "_law_pieces" s_law_pieces f fd) :
    FnOk P w K mg base CX0 1 f fd [] sp_pieces := by
  refine fn_sv F sc_law_pieces (fun _ _ => rfl) fun W i hP cdv A outer s H E hr => ⟨_, (pss_cons (ps_set (i := 0) sc_law_pieces.nd rfl (Or.inl rfl) (pe_lst (pa_cons (pe_tup (pa_cons pe_str (pa_cons pe_int (pa_cons (pe_lst pa_nil) (pa_cons pe_int pa_nil))))) (pa_cons (pe_tup (pa_cons pe_str (pa_cons pe_int (pa_cons (pe_lst (pa_cons pe_int pa_nil)) (pa_cons pe_int pa_nil))))) (pa_cons (pe_tup (pa_cons pe_str (pa_cons pe_int (pa_cons (pe_lst (pa_cons pe_int pa_nil)) (pa_cons pe_int pa_nil))))) (pa_cons (pe_tup (pa_cons pe_str (pa_cons pe_int (pa_cons (pe_lst (pa_cons pe_int pa_nil)) (pa_cons pe_int pa_nil))))) (pa_cons (pe_tup (pa_cons pe_str (pa_cons pe_int (pa_cons (pe_lst (pa_cons pe_int (pa_cons pe_int pa_nil))) (pa_cons pe_int pa_nil))))) (pa_cons (pe_tup (pa_cons pe_str (pa_cons pe_int (pa_cons (pe_lst (pa_cons pe_int pa_nil)) (pa_cons pe_int pa_nil))))) pa_nil))))))))
    (pss_cons (ps_expr (pe_bm PySem.F.plainAttrs_list PySem.F.slot_list_extend PySem.F.type_list_extend mt_extend (pv 0) (pa_cons (pe_lst (pa_cons (pe_tup (pa_cons pe_str (pa_cons pe_int (pa_cons (pe_lst (pa_cons pe_int (pa_cons pe_int pa_nil))) (pa_cons pe_int pa_nil))))) (pa_cons (pe_tup (pa_cons pe_str (pa_cons pe_int (pa_cons (pe_lst (pa_cons pe_int (pa_cons pe_int (pa_cons pe_int pa_nil)))) (pa_cons pe_int pa_nil))))) (pa_cons (pe_tup (pa_cons pe_str (pa_cons pe_int (pa_cons (pe_lst (pa_cons pe_int (pa_cons pe_int (pa_cons pe_int (pa_cons pe_int pa_nil))))) (pa_cons pe_int pa_nil))))) (pa_cons (pe_tup (pa_cons pe_str (pa_cons pe_int (pa_cons (pe_lst (pa_cons pe_int (pa_cons pe_int (pa_cons pe_int pa_nil)))) (pa_cons pe_int pa_nil))))) pa_nil))))) pa_nil)))
    (pss_one (ps_ret (pe_op op_cat (pv 0) (pe_lst (pa_cons (pe_tup (pa_cons pe_str (pa_cons pe_int (pa_cons (pe_lst (pa_cons pe_int (pa_cons pe_int (pa_cons pe_int (pa_cons pe_int (pa_cons pe_int (pa_cons pe_int pa_nil))))))) (pa_cons pe_int pa_nil))))) pa_nil))))))), ?_⟩
  try dsimp only
  refine sv_newGL (us := (pieces71.take 6).map uPc) (ue := []) (N := 1) (av_cons (ev_tup (ds := [dV (V.str "off"), dN 1, dVs [], dN 1]) (av_cons ev_c (av_cons (ev_cn 1) (av_cons (ev_lstN [] av_nil) (av_cons (ev_cn 1) av_nil)))) (by simp)) (av_cons (ev_tup (ds := [dV (V.str "on"), dN 1, dVs [1], dN 1]) (av_cons ev_c (av_cons (ev_cn 1) (av_cons (ev_lstN [1] (av_cons (ev_cn 1) av_nil)) (av_cons (ev_cn 1) av_nil)))) (by simp)) (av_cons (ev_tup (ds := [dV (V.str "2"), dN 2, dVs [3], dN 2]) (av_cons ev_c (av_cons (ev_cn 2) (av_cons (ev_lstN [3] (av_cons (ev_cn 3) av_nil)) (av_cons (ev_cn 2) av_nil)))) (by simp)) (av_cons (ev_tup (ds := [dV (V.str "d4"), dN 4, dVs [15], dN 24]) (av_cons ev_c (av_cons (ev_cn 4) (av_cons (ev_lstN [15] (av_cons (ev_cn 15) av_nil)) (av_cons (ev_cn 24) av_nil)))) (by simp)) (av_cons (ev_tup (ds := [dV (V.str "d6"), dN 6, dVs [15, 60], dN 48]) (av_cons ev_c (av_cons (ev_cn 6) (av_cons (ev_lstN [15, 60] (av_cons (ev_cn 15) (av_cons (ev_cn 60) av_nil))) (av_cons (ev_cn 48) av_nil)))) (by simp)) (av_cons (ev_tup (ds := [dV (V.str "all5"), dN 5, dVs [31], dN 120]) (av_cons ev_c (av_cons (ev_cn 5) (av_cons (ev_lstN [31] (av_cons (ev_cn 31) av_nil)) (av_cons (ev_cn 120) av_nil)))) (by simp)) av_nil)))))) (by decide) (fun σ H e => e.sub rfl trivial) ?_
  refine sg_seq (ng_extend (vs := ((pieces71.drop 6).take 4).map uPc) (fun W' _ => ev_lst (ds := uDs (((pieces71.drop 6).take 4).map uPc) W') (av_cons (ev_tup (ds := [dV (V.str "even3"), dN 3, dVs [3, 6], dN 6]) (av_cons ev_c (av_cons (ev_cn 3) (av_cons (ev_lstN [3, 6] (av_cons (ev_cn 3) (av_cons (ev_cn 6) av_nil))) (av_cons (ev_cn 6) av_nil)))) (by simp)) (av_cons (ev_tup (ds := [dV (V.str "e7"), dN 7, dVs [85, 102, 120], dN 168]) (av_cons ev_c (av_cons (ev_cn 7) (av_cons (ev_lstN [85, 102, 120] (av_cons (ev_cn 85) (av_cons (ev_cn 102) (av_cons (ev_cn 120) av_nil)))) (av_cons (ev_cn 168) av_nil)))) (by simp)) (av_cons (ev_tup (ds := [dV (V.str "e8"), dN 8, dVs [15, 60, 240, 170], dN 1344]) (av_cons ev_c (av_cons (ev_cn 8) (av_cons (ev_lstN [15, 60, 240, 170] (av_cons (ev_cn 15) (av_cons (ev_cn 60) (av_cons (ev_cn 240) (av_cons (ev_cn 170) av_nil))))) (av_cons (ev_cn 1344) av_nil)))) (by simp)) (av_cons (ev_tup (ds := [dV (V.str "d8"), dN 8, dVs [15, 60, 240], dN 384]) (av_cons ev_c (av_cons (ev_cn 8) (av_cons (ev_lstN [15, 60, 240] (av_cons (ev_cn 15) (av_cons (ev_cn 60) (av_cons (ev_cn 240) av_nil)))) (av_cons (ev_cn 384) av_nil)))) (by simp)) av_nil)))) (show 4 ≤ 100000 by decide)) (show 6 + 4 ≤ 100000 by decide)) fun _ _ => sg_end ?_
  exact sv_ret (ev_eqD (ev_op (od_catLD (ds := uDs (((pieces71.take 6).map uPc) ++ (((pieces71.drop 6).take 4).map uPc)) W) (es := uDs ((pieces71.drop 10).map uPc) W) (show 10 + 1 ≤ 100000 by decide)) (ev_var rfl) (ev_lst (ds := uDs ((pieces71.drop 10).map uPc) W) (av_cons (ev_tup (ds := [dV (V.str "d12"), dN 12, dVs [15, 60, 240, 960, 3840, 2730], dN 23040]) (av_cons ev_c (av_cons (ev_cn 12) (av_cons (ev_lstN [15, 60, 240, 960, 3840, 2730] (av_cons (ev_cn 15) (av_cons (ev_cn 60) (av_cons (ev_cn 240) (av_cons (ev_cn 960) (av_cons (ev_cn 3840) (av_cons (ev_cn 2730) av_nil))))))) (av_cons (ev_cn 23040) av_nil)))) (by simp)) av_nil) (show 1 ≤ 100000 by decide))) rfl)
abbrev s_law_beside : Stmt := topS 50
abbrev N_law_beside : List Str := ["_law_pot_here", "_law_names", "_law_most", "_law_some", "_law_one", "_law_places", "_law_words", "_law_told", "_law_turn", "_law_name", "_law_wide", "_law_piece", "_law_exchanges", "_law_word_here"]
theorem sc_law_beside : FnScope N_law_beside ["_law_pot_here", "_law_names", "_law_most"] (defScope s_law_beside) := ⟨rfl, rfl, rfl, by decide +kernel, rfl, by decide +kernel, by decide +kernel⟩
theorem ok_law_beside {f : Addr} {fd : FuncData} (F : Fun K "_law_beside" "_law_beside" s_law_beside f fd)
    (C_law_pick : Cal P w K mg base "_law_pick" 2 ["_law_pot_here", "_law_some"] [] sp_pick71)
    (C_law_pieces : Cal P w K mg base "_law_pieces" 1 [] [] sp_pieces)
    (m_range : mg "range" = none) :
    FnOk P w K mg base CX0 3 f fd ["_law_pot_here", "_law_names", "_law_most"] sp_beside71 := by
  refine fn_sv F sc_law_beside (fun _ _ => rfl) fun W i hP cdv A outer s H E hr => ⟨_, (pss_cons (ps_setLc (i := 3) (own := [("_law_one", 4)]) (g := gName 4) (by rfl) sc_law_beside.nd rfl rfl (sw_true rfl rfl rfl (by decide +kernel)) (pi_list (pe_cal0 C_law_pieces (hr.mono (by decide)) (by rfl))) (blkOk_by (own := [("_law_one", 4)]) (N := N_law_beside) (sc := defScope s_law_beside) (by decide +kernel)) (fun _ _ _ _ _ => pg_name (i := 4) sc_law_beside.nd rfl (Or.inl rfl)) (fun _ _ _ _ _ => (pts_one (PW.pt (pw_and (pt_cmpR (op_inS K) (pe_ix (ix_tupS K) (pv 4) pe_int (fun _ _ => rfl)) (pv 1) (by with_unfolding_all rfl)) (pw_and1 (pt_cmpR op_leN (pe_ix (ix_tupS K) (pv 4) pe_int (fun _ _ => rfl)) (pv 2) (nomark _))))))) (fun _ _ _ _ _ => (pv 4)))
    (pss_cons (ps_asg (pe_tup (pa_cons pe_int (pa_cons (pe_lst pa_nil) (pa_cons (pe_lst pa_nil) pa_nil)))) (pg_tup rfl (pgs_cons (pg_name (i := 5) sc_law_beside.nd rfl (Or.inr rfl)) (pgs_cons (pg_name (i := 6) sc_law_beside.nd rfl (Or.inl rfl)) (pgs_cons (pg_name (i := 7) sc_law_beside.nd rfl (Or.inl rfl)) pgs_nil)))))
    (pss_cons (ps_for PassesOwn.never rfl (pi_range1 (by rfl) m_range (pa_cons pe_int pa_nil)) (pg_name (i := 8) sc_law_beside.nd rfl (Or.inl rfl))
      (pss_cons (ps_asg (pe_cal C_law_pick (hr.mono (by decide)) (by rfl) (pa_cons (pv 0) (pa_cons (pv 3) pa_nil))) (pg_tup rfl (pgs_cons (pg_name (i := 9) sc_law_beside.nd rfl (Or.inl rfl)) (pgs_cons (pg_name (i := 10) sc_law_beside.nd rfl (Or.inl rfl)) (pgs_cons (pg_name (i := 11) sc_law_beside.nd rfl (Or.inl rfl)) (pgs_cons (pg_name (i := 12) sc_law_beside.nd rfl (Or.inl rfl)) pgs_nil))))))
    (pss_one (ps_if (pt_cmpR op_leN (pe_op op_addN (pv 5) (pv 10)) (pv 2) (nomark _)) (pss_cons (ps_set (i := 6) sc_law_beside.nd rfl (Or.inl rfl) (pe_op op_cat (pv 6) (pe_lc (own := [("_law_word_here", 13)]) (g := gName 13) (by rfl) sc_law_beside.nd (pi_list (pv 11)) (blkOk_by (own := [("_law_word_here", 13)]) (N := N_law_beside) (sc := defScope s_law_beside) (by decide +kernel)) (fun _ _ _ _ _ => pg_name (i := 13) sc_law_beside.nd rfl (Or.inl rfl)) (fun _ _ _ _ _ => pts_nil) (fun _ _ _ _ _ => (pe_op op_shlNN (pv 13) (pv 5))))))
    (pss_cons (ps_expr (pe_bm PySem.F.plainAttrs_list PySem.F.slot_list_append PySem.F.type_list_append mt_append (pv 7) (pa_cons (pe_tup (pa_cons (pv 9) (pa_cons (pv 5) (pa_cons (pv 10) (pa_cons (pv 12) pa_nil))))) pa_nil)))
    (pss_one (ps_set (i := 5) sc_law_beside.nd rfl (Or.inr rfl) (pe_op op_addN (pv 5) (pv 10)))))) pss_nil))))
    (pss_one (ps_ret (pe_tup (pa_cons (pv 5) (pa_cons (pv 6) (pa_cons (pv 7) pa_nil))))))))), ?_⟩
  obtain ⟨p, names, m⟩ := i
  obtain ⟨hp, m24, ex⟩ := hP
  have hp : IsPot W p := hp
  have m24 : m ≤ 24 := m24
  have ex : 0 < (some71 names m).length := ex
  have l11 := some71_len names m
  try dsimp only
  refine sv_seq (nv_set (d := dLD (uDs ((some71 names m).map uPc) W)) (ev_lcUF (N := 14) [(1, uLst (names.map V.str)), (2, uN m)] pieces71 uPc uPc (fun c => decide (c.nm ∈ names) && decide (c.n ≤ m)) (ev_call sd_pieces av_nil) (fun σ H e => e.sub rfl ⟨rfl, rfl, trivial⟩) (show 11 ≤ 100000 by decide) (fun W' c hc => tv_and (tv_test (ev_op od_inStr (ev_op (od_ixTD (ds := uDs [uV (.str c.nm), uN c.n, uVs c.ws, uN c.x] W') rfl) (ev_var rfl) (ev_cn 0)) (ev_var rfl))) fun _ => tv_test (ev_op od_leN (ev_op (od_ixTD (ds := uDs [uV (.str c.nm), uN c.n, uVs c.ws, uN c.x] W') (d := dN c.n) rfl) (ev_var rfl) (ev_cn 1)) (ev_var rfl))) fun W' c hc _ => ev_var rfl)) ?_
  refine sv_unp3G (i := 7) (N := 14) (ue := [(6, uVs []), (5, uN 0), (3, uLD ((some71 names m).map uPc)), (2, uN m), (1, uLst (names.map V.str)), (0, uV (.ref p))]) (ev_cn 0) (ev_lstN [] av_nil) (fun σ H e => e.sub rfl ⟨rfl, rfl, rfl, rfl, rfl, rfl, trivial⟩) ?_
  refine sg_seq (ng_forR (ι := List Pc) (M := 6) (fun _ cs => [(6, uVs (besW71 0 cs)), (5, uN (besN cs)), (3, uLD ((some71 names m).map uPc)), (2, uN m), (1, uLst (names.map V.str)), (0, uV (.ref p))]) (fun _ cs => (besT 0 cs).map uTl) (fun k cs => (∀ c ∈ cs, c ∈ pieces71 ∧ c.nm ∈ names ∧ c.n ≤ m) ∧ besN cs ≤ m ∧ cs.length ≤ k ∧ (1 ≤ k → cs ≠ [])) [] (fun W' _ => av_cons (ev_cn 6) av_nil) (by decide) ⟨by simp, Nat.zero_le _, Nat.zero_le _, fun h => by omega⟩ rfl (fun W' σ H e => e) fun k hk cs hcs => ?_) fun cs hcs => sg_end ?_
  · obtain ⟨mem, le, ln, ne⟩ := hcs
    have lw := besW_len71 cs 0 fun c hc => (mem c hc).1
    have lt := besT_len cs 0
    refine ng_seq (ng_unpx (ι := Pc) (P := fun c => c ∈ some71 names m) (dr := fun c => [uV (.str c.nm), uN c.n, uVs c.ws, uN c.x]) (n := 4) (is := [9, 10, 11, 12]) (fun W' lw_ => ev_call (sd_pick71 (lw_ p hp) ex (by omega)) (av_cons (ev_var rfl) (av_cons (ev_var (d := dLD (uDs ((some71 names m).map uPc) W')) rfl) av_nil))) (fun _ => rfl) rfl) fun c hc => ?_
    obtain ⟨cp, cn, cm⟩ := some71_mem.mp hc
    obtain ⟨c6, cw, c1⟩ := pieces_ok c cp
    refine ng_if (b := decide (besN cs + c.n ≤ m)) (fun W' _ => tv_test (ev_op od_leN (ev_op od_addN (ev_var (d := dN (besN cs)) rfl) (ev_var (d := dN c.n) rfl)) (ev_var (d := dN m) rfl))) (fun t_ => ?_) (fun t_ => ?_)
    · have t_ := of_decide_eq_true t_
      refine ng_seq (ng_set (uVs (besW71 0 cs ++ c.ws.map fun w => w <<< besN cs)) (fun W' _ => ev_op (od_cat (by rw [List.length_map]; omega)) (ev_var (d := dVs (besW71 0 cs)) rfl) (ev_lcM (g := fun w => w <<< besN cs) (ev_var (d := dVs c.ws) rfl) (by omega) fun w hw => (ev_op (od_shlN (Nat.lt_of_le_of_lt (cw w hw) (by decide)) (by omega)) (ev_var rfl) (ev_var (d := dN (besN cs)) rfl))))) fun _ _ => ng_seq (ng_append (uTl ⟨c.nm, besN cs, c.n, c.x⟩) (fun W' _ => ev_tup (ds := [dV (.str c.nm), dN (besN cs), dN c.n, dN c.x]) (av_cons (ev_var rfl) (av_cons (ev_var rfl) (av_cons (ev_var rfl) (av_cons (ev_var rfl) av_nil)))) (show 4 ≤ 100000 by decide)) (by rw [List.length_map]; omega)) fun _ _ => ng_imp (ng_set (uN (besN cs + c.n)) fun W' _ => ev_op od_addN (ev_var (d := dN (besN cs)) rfl) (ev_var (d := dN c.n) rfl)) (fun _ => cs ++ [c]) fun _ _ => ⟨⟨fun x hx => ?_, by rw [besN_snoc]; exact t_, by rw [List.length_append]; exact Nat.add_le_add_right ln 1, fun _ => by simp⟩, ?_, fun W' σ H e => e.sub rfl ⟨?_, ?_, rfl, rfl, rfl, rfl, trivial⟩⟩
      · rcases List.mem_append.mp hx with h | h
        · exact mem x h
        · rw [List.mem_singleton.mp h]
          exact ⟨cp, cn, cm⟩
      · rw [besT_snoc, List.map_append, Nat.zero_add]
        rfl
      · rw [besW_snoc, Nat.zero_add]
        rfl
      · rw [besN_snoc]
        rfl
    · have t_ := of_decide_eq_false t_
      refine ng_imp ng_next (fun _ => cs) fun _ _ => ⟨⟨mem, le, by omega, fun _ z => ?_⟩, rfl, fun W' σ H e => e.sub rfl ⟨rfl, rfl, rfl, rfl, rfl, rfl, trivial⟩⟩
      subst z
      exact t_ (by show 0 + c.n ≤ m; omega)
  · obtain ⟨mem, le, ln, ne⟩ := hcs
    exact sv_ret (ev_in cs ⟨⟨mem, le, ln⟩, ne (by decide)⟩ (ev_tup (ds := [dN (besN cs), dVs (besW71 0 cs), dLD (uDs ((besT 0 cs).map uTl) W)]) (av_cons (ev_var rfl) (av_cons (ev_var rfl) (av_cons (ev_var rfl) av_nil))) (show 3 ≤ 100000 by decide)))
end
end K72
set_option Elab.async false
set_option linter.all false
set_option maxRecDepth 100000
set_option maxHeartbeats 1000000
set_option pp.maxSteps 300
namespace K72
open PySem PySem.Spec PyProof.Rows L2 Vf
section
variable {P : Program} {w : World} {K : PySem.W.Frag} {mg : Str → Option Value} {base : Heap} {C : Addr}
abbrev s_law_led : Stmt := topS 47
abbrev N_law_led : List Str := ["_law_word_here", "_law_sequence_here", "_law_at"]
theorem sc_law_led : FnScope N_law_led ["_law_word_here", "_law_sequence_here"] (defScope s_law_led) := ⟨rfl, rfl, rfl, by decide +kernel, rfl, by decide +kernel, by decide +kernel⟩
theorem ok_law_led {f : Addr} {fd : FuncData} (F : Fun K "_law_led" "_law_led" s_law_led f fd)
    (C_law_word : Cal P w K mg base "_law_word" 1 ["_law_spots"] [] sp_word71)
    (m_int : mg "int" = none)
    (m_len : mg "len" = none)
    (m_range : mg "range" = none) :
    FnOk P w K mg base CX0 2 f fd ["_law_word_here", "_law_sequence_here"] sp_lledG := by
  refine fn_sv F sc_law_led (fun _ _ => rfl) fun W i hP cdv A outer s H E hr => ⟨_, (pss_one (ps_ret (pe_cal C_law_word (hr.mono (by decide)) (by rfl) (pa_cons (pe_lc (own := [("_law_at", 2)]) (g := gName 2) (by rfl) sc_law_led.nd (pi_range1 (by rfl) m_range (pa_cons (pe_callB call_len_seq (by rfl) m_len (by decide +kernel) (pa_cons (pv 1) pa_nil)) pa_nil)) (blkOk_by (own := [("_law_at", 2)]) (N := N_law_led) (sc := defScope s_law_led) (by decide +kernel)) (fun _ _ _ _ _ => pg_name (i := 2) sc_law_led.nd rfl (Or.inl rfl)) (fun _ _ _ _ _ => (pts_one (pt_cmpR op_eqN (pe_op op_modNN (pe_callTy call_intN (by rfl) m_int (by decide +kernel) (pa_cons (pe_op op_shrNN (pv 0) (pv 2)) pa_nil)) pe_int) pe_int (nomark _)))) (fun _ _ _ _ _ => (pe_ix (ix_listS K) (pv 1) (pv 2) (fun _ _ => rfl)))) pa_nil)))), ?_⟩
  obtain ⟨w, s⟩ := i
  obtain ⟨ls, lt⟩ := hP
  have ls : s.length ≤ 24 := ls
  have lt : ∀ k ∈ s, k ≤ 24 := lt
  have lf : (((List.range s.length).filter fun k => w.testBit k).map fun k => s.getD k 0).length ≤ 1000 := by
    rw [List.length_map]
    have := List.length_filter_le (fun k => w.testBit k) (List.range s.length)
    rw [List.length_range] at this
    omega
  try dsimp only
  refine sv_ret (ev_eqD (ev_call (sd_word71 lf fun k hk => ?_) (av_cons (ev_lcRFM (p := fun k => w.testBit k) (g := fun k => s.getD k 0) (av_cons (ev_cb cd_lenN (av_cons (ev_var rfl) av_nil)) av_nil) (by omega) (fun at_ hat => (tv_eq (shr_bit w at_) (tv_test (ev_op od_eqN (ev_op (od_modN (by decide)) (ev_cb cd_int (av_cons (ev_op od_shrN (ev_var rfl) (ev_var rfl)) av_nil)) (ev_cn 2)) (ev_cn 1))))) fun at_ hat tat => (ev_op (od_ixN hat) (ev_var rfl) (ev_var rfl))) av_nil)) ?_)
  · obtain ⟨j, hj, rfl⟩ := List.mem_map.mp hk
    have hj2 := List.mem_range.mp (List.mem_filter.mp hj).1
    refine lt _ ?_
    rw [List.getD_eq_getElem?_getD, List.getElem?_eq_getElem hj2]
    exact List.getElem_mem hj2
  · unfold ledN ledL
    rfl
abbrev s_law_room : Stmt := topS 51
abbrev N_law_room : List Str := ["_law_pot_here", "_law_names", "_law_most", "_law_places", "_law_words", "_law_told", "_law_sequence_here", "_law_lots", "_law_name", "_law_first", "_law_wide", "_law_exchanges", "_law_word_here"]
theorem sc_law_room : FnScope N_law_room ["_law_pot_here", "_law_names", "_law_most"] (defScope s_law_room) := ⟨rfl, rfl, rfl, by decide +kernel, rfl, by decide +kernel, by decide +kernel⟩
theorem ok_law_room {f : Addr} {fd : FuncData} (F : Fun K "_law_room" "_law_room" s_law_room f fd)
    (C_law_beside : Cal P w K mg base "_law_beside" 3 ["_law_pot_here", "_law_names", "_law_most"] [] sp_beside71)
    (C_law_led : Cal P w K mg base "_law_led" 2 ["_law_word_here", "_law_sequence_here"] [] sp_lledG)
    (C_law_sequence : Cal P w K mg base "_law_sequence" 2 ["_law_pot_here", "_law_places"] [] sp_lseq)
    (m_sorted : mg "sorted" = none) :
    FnOk P w K mg base CX0 4 f fd ["_law_pot_here", "_law_names", "_law_most"] sp_room71 := by
  refine fn_sv F sc_law_room (fun _ _ => rfl) fun W i hP cdv A outer s H E hr => ⟨_, (pss_cons (ps_asg (pe_cal C_law_beside (hr.mono (by decide)) (by rfl) (pa_cons (pv 0) (pa_cons (pv 1) (pa_cons (pv 2) pa_nil)))) (pg_tup rfl (pgs_cons (pg_name (i := 3) sc_law_room.nd rfl (Or.inl rfl)) (pgs_cons (pg_name (i := 4) sc_law_room.nd rfl (Or.inl rfl)) (pgs_cons (pg_name (i := 5) sc_law_room.nd rfl (Or.inl rfl)) pgs_nil)))))
    (pss_cons (ps_set (i := 6) sc_law_room.nd rfl (Or.inr rfl) (pe_cal C_law_sequence (hr.mono (by decide)) (by rfl) (pa_cons (pv 0) (pa_cons (pv 3) pa_nil))))
    (pss_cons (ps_setLc (i := 7) (own := [("_law_name", 8), ("_law_first", 9), ("_law_wide", 10), ("_law_exchanges", 11)]) (g := gTup K 4 (gCons (gName 8) (gCons (gName 9) (gCons (gName 10) (gCons (gName 11) gNil))))) (by rfl) sc_law_room.nd rfl rfl (sw_true rfl rfl rfl (by decide +kernel)) (pi_list (pv 5)) (blkOk_by (own := [("_law_name", 8), ("_law_first", 9), ("_law_wide", 10), ("_law_exchanges", 11)]) (N := N_law_room) (sc := defScope s_law_room) (by decide +kernel)) (fun _ _ _ _ _ => (pg_tup rfl (pgs_cons (pg_name (i := 8) sc_law_room.nd rfl (Or.inl rfl)) (pgs_cons (pg_name (i := 9) sc_law_room.nd rfl (Or.inl rfl)) (pgs_cons (pg_name (i := 10) sc_law_room.nd rfl (Or.inl rfl)) (pgs_cons (pg_name (i := 11) sc_law_room.nd rfl (Or.inl rfl)) pgs_nil)))))) (fun _ _ _ _ _ => pts_nil) (fun _ _ _ _ _ => (pe_tup (pa_cons (pv 8) (pa_cons (pe_callB (cr_sortedS K) (by rfl) m_sorted (by decide +kernel) (pa_cons (pe_slice (sl_listS K) (pv 6) (po_some (pv 9)) (po_some (pe_op op_addN (pv 9) (pv 10)))) pa_nil)) (pa_cons (pv 11) pa_nil))))))
    (pss_one (ps_ret (pe_tup (pa_cons (pv 3) (pa_cons (pe_lc (own := [("_law_word_here", 12)]) (g := gName 12) (by rfl) sc_law_room.nd (pi_list (pv 4)) (blkOk_by (own := [("_law_word_here", 12)]) (N := N_law_room) (sc := defScope s_law_room) (by decide +kernel)) (fun _ _ _ _ _ => pg_name (i := 12) sc_law_room.nd rfl (Or.inl rfl)) (fun _ _ _ _ _ => pts_nil) (fun _ _ _ _ _ => (pe_cal C_law_led (hr.mono (by decide)) (by rfl) (pa_cons (pv 12) (pa_cons (pv 6) pa_nil))))) (pa_cons (pv 7) (pa_cons (pv 6) pa_nil)))))))))), ?_⟩
  obtain ⟨p, names, m⟩ := i
  obtain ⟨hp, m24, ex⟩ := hP
  have hp : IsPot W p := hp
  have m24 : m ≤ 24 := m24
  have ex : 0 < (some71 names m).length := ex
  try dsimp only
  refine sv_unpx (is := [3, 4, 5]) (n := 3) (ev_call (sd_beside71 hp m24 ex) (av_cons (ev_var rfl) (av_cons (ev_var rfl) (av_cons (ev_var rfl) av_nil)))) (fun _ => rfl) rfl fun cs hcs => ?_
  obtain ⟨bs, ne⟩ := hcs
  have le := bs.le
  have ln := bs.ln
  have lw := besW_len71 cs 0 fun c hc => (bs.mem c hc).1
  refine sv_setx (ev_call (sd_lseq hp (show besN cs ≤ 24 by omega)) (av_cons (ev_var rfl) (av_cons (ev_var rfl) av_nil))) fun s hs => ?_
  have hs : Seq (besN cs) s := hs
  have ls := hs.len
  refine sv_seq (nv_set (d := dLD (uDs ((besT 0 cs).map (uLot s)) W)) (ev_lcTs (N := 13) (is := [8, 9, 10, 11]) [(6, uVs s)] (besT 0 cs) (fun t => [uV (.str t.nm), uN t.a, uN t.n, uN t.x]) (uLot s) (ev_var (d := dLD (uDs ((besT 0 cs).map uTl) W)) rfl) (fun σ H e => e.sub rfl ⟨rfl, trivial⟩) (by rw [besT_len]; omega) (by simp) (fun _ => rfl) rfl fun W' t ht => ev_tup (ds := [dV (.str t.nm), dVs (sortN ((s.take (t.a + t.n)).drop t.a)), dN t.x]) (av_cons (ev_var rfl) (av_cons (ev_cb cd_sorted (av_cons (ev_slFT (k := t.a) (m := t.a + t.n) (by omega) (by have := (besT_a cs 0 t ht).2; omega) (ev_var (d := dVs s) rfl) (ev_var rfl) (ev_op od_addN (ev_var rfl) (ev_var rfl))) av_nil)) (av_cons (ev_var rfl) av_nil))) (show 3 ≤ 100000 by decide))) ?_
  exact sv_ret (ev_in (cs, s) ⟨⟨bs, ne⟩, hs⟩ (ev_tup (ds := [dN (besN cs), dVs ((besW71 0 cs).map (ledN s)), dLD (uDs ((besT 0 cs).map (uLot s)) W), dVs s]) (av_cons (ev_var rfl) (av_cons (ev_lcM (g := ledN s) (ev_var rfl) (by omega) fun w hw => (ev_call (sd_lledG (by omega) (fun k hk => by have := hs.lt k hk; omega)) (av_cons (ev_var rfl) (av_cons (ev_var rfl) av_nil)))) (av_cons (ev_var rfl) (av_cons (ev_var rfl) av_nil)))) (show 4 ≤ 100000 by decide)))
abbrev s_law_part_words : Stmt := topS 52
abbrev N_law_part_words : List Str := ["_law_words", "_law_spots", "_law_inside", "_law_found", "_law_word_here", "_law_at"]
theorem sc_law_part_words : FnScope N_law_part_words ["_law_words", "_law_spots"] (defScope s_law_part_words) := ⟨rfl, rfl, rfl, by decide +kernel, rfl, by decide +kernel, by decide +kernel⟩
theorem ok_law_part_words {f : Addr} {fd : FuncData} (F : Fun K "_law_part_words" "_law_part_words" s_law_part_words f fd)
    (C_law_word : Cal P w K mg base "_law_word" 1 ["_law_spots"] [] sp_word71)
    (m_int : mg "int" = none)
    (m_len : mg "len" = none)
    (m_range : mg "range" = none)
    (m_sorted : mg "sorted" = none)
    (m_sum : mg "sum" = none) :
    FnOk P w K mg base CX0 2 f fd ["_law_words", "_law_spots"] sp_lpw72 := by
  refine fn_sv F sc_law_part_words (fun _ _ => rfl) fun W i hP cdv A outer s H E hr => ⟨_, (pss_cons (ps_set (i := 2) sc_law_part_words.nd rfl (Or.inl rfl) (pe_cal C_law_word (hr.mono (by decide)) (by rfl) (pa_cons (pv 1) pa_nil)))
    (pss_cons (ps_set (i := 3) sc_law_part_words.nd rfl (Or.inl rfl) (pe_lst pa_nil))
    (pss_cons (ps_for PassesOwn.never rfl (pi_list (pv 0)) (pg_name (i := 4) sc_law_part_words.nd rfl (Or.inr rfl))
      (pss_one (ps_if (pt_cmpR op_eqN (pe_op op_orN (pv 4) (pv 2)) (pv 2) (nomark _)) (pss_one (ps_expr (pe_bm PySem.F.plainAttrs_list PySem.F.slot_list_append PySem.F.type_list_append mt_append (pv 3) (pa_cons (pe_callB (cr_sum rfl) (by rfl) m_sum (by decide +kernel) (pa_cons (pe_lc (own := [("_law_at", 5)]) (g := gName 5) (by rfl) sc_law_part_words.nd (pi_range1 (by rfl) m_range (pa_cons (pe_callB call_len_seq (by rfl) m_len (by decide +kernel) (pa_cons (pv 1) pa_nil)) pa_nil)) (blkOk_by (own := [("_law_at", 5)]) (N := N_law_part_words) (sc := defScope s_law_part_words) (by decide +kernel)) (fun _ _ _ _ _ => pg_name (i := 5) sc_law_part_words.nd rfl (Or.inl rfl)) (fun _ _ _ _ _ => (pts_one (pt_cmpR op_eqN (pe_op op_modNN (pe_callTy call_intN (by rfl) m_int (by decide +kernel) (pa_cons (pe_op op_shrNN (pv 4) (pe_ix (ix_listS K) (pv 1) (pv 5) (fun _ _ => rfl))) pa_nil)) pe_int) pe_int (nomark _)))) (fun _ _ _ _ _ => (pe_op op_pow2 pe_int (pv 5)))) pa_nil)) pa_nil)))) pss_nil)))
    (pss_one (ps_ret (pe_callB cr_sortedI (by rfl) m_sorted (by decide +kernel) (pa_cons (pv 3) pa_nil))))))), ?_⟩
  obtain ⟨n, B, l⟩ := i
  obtain ⟨f, l12, nd, lt⟩ := hP
  have f : RoomF n B := f
  have l12 : B.length ≤ 12 := l12
  have nd : l.Nodup := nd
  have lt : ∀ k ∈ l, k < n := lt
  have n24 := f.n24
  have ll := nd_len nd lt
  have lw := words_le f.pl l12
  have es := pwF_sort f nd lt
  generalize wordsOf B = L at lw es ⊢
  try dsimp only
  refine sv_seq (nv_set (ev_call (sd_word71 (by omega) fun k hk => by have := lt k hk; omega) (av_cons (ev_var rfl) av_nil))) ?_
  refine sv_cell fl_nil ?_
  refine svc_seq (nvc_forV (j := 0) (xs := vs L) (fun _ => (envOf [dVs L, dVs l] 4).set 2 (some (dN (l.map (2 ^ ·)).sum))) (fun k => [(3, vs (pwF B l (L.take k)))]) rfl rfl (fun σ H e => e.sub rfl ⟨rfl, rfl, rfl, trivial⟩) rfl (fun _ => rfl) fun k x hx => ?_) ?_
  · obtain ⟨w, hw, rfl⟩ := get_vs hx
    have ek : L.take (k + 1) = L.take k ++ [w] := by rw [List.take_add_one, hw]; rfl
    have sn := pwF_snoc B l (L.take k) w
    have ln : (pwF B l (L.take k)).length ≤ 4096 := by
      unfold pwF
      rw [List.length_map]
      have a := List.length_filter_le (fun w => decide (w ||| (l.map (2 ^ ·)).sum = (l.map (2 ^ ·)).sum)) (L.take k)
      rw [List.length_take] at a
      omega
    rw [ek, sn]
    generalize pwF B l (L.take k) = R at ln ⊢
    generalize hm : (l.map (2 ^ ·)).sum = m at ⊢
    refine nvc_if (b := decide (w ||| m = m)) (tv_test (ev_op od_eqN (ev_op od_orN (ev_var (d := dN w) rfl) (ev_var rfl)) (ev_var rfl))) (fun t_ => ?_) (fun t_ => ?_)
    · rw [if_pos (of_decide_eq_true t_), vs_append]
      exact nvc_sub' (nvc_append (i := 3) (xs := vs R) (y := V.int (toldW l w : Int)) rfl (ev_eqD (ev_cb cd_sum (av_cons (ev_lcRFM (p := fun k => w.testBit (l.getD k 0)) (g := fun k => 2 ^ k) (av_cons (ev_cb cd_lenN (av_cons (ev_var rfl) av_nil)) av_nil) (by omega) (fun at_ hat => (tv_eq (shr_bit w (l.getD at_ 0)) (tv_test (ev_op od_eqN (ev_op (od_modN (by decide)) (ev_cb cd_int (av_cons (ev_op od_shrN (ev_var (d := dN w) rfl) (ev_op (od_ixN hat) (ev_var rfl) (ev_var rfl))) av_nil)) (ev_cn 2)) (ev_cn 1))))) fun at_ hat tat => (ev_op (od_pow2 (by omega)) (ev_cn 1) (ev_var rfl))) av_nil)) (congrArg dN (toldW_sum l w))) (by rw [len_vs]; omega)) rfl ⟨rfl, rfl, rfl, trivial⟩
    · rw [if_neg (of_decide_eq_false t_), List.append_nil]
      exact nvc_sub' nvc_next rfl ⟨rfl, rfl, rfl, trivial⟩
  · rw [len_vs, List.take_length]
    exact svc_end (sv_ret (ev_eqD (ev_cb cd_sorted (av_cons (ev_var (d := dVs (pwF B l L)) rfl) av_nil)) (congrArg dVs es)))
abbrev s_law_right : Stmt := topS 53
abbrev N_law_right : List Str := ["_law_pot_here", "_law_places", "_law_words", "_law_turn", "_law_lots", "_law_sequence_here", "_law_room_here", "_law_whole", "_law_spots", "_law_told", "_law_due", "_law_back", "_law_many", "_law_some", "_law_piece", "_law_word_here"]
theorem sc_law_right : FnScope N_law_right ["_law_pot_here"] (defScope s_law_right) := ⟨rfl, rfl, rfl, by decide +kernel, rfl, by decide +kernel, by decide +kernel⟩
theorem ok_law_right {f : Addr} {fd : FuncData} (F : Fun K "_law_right" "_law_right" s_law_right f fd)
    (C_law_draw : Cal P w K mg base "_law_draw" 1 ["_law_pot_here", "_law_size"] [] sp_draw)
    (C_law_led : Cal P w K mg base "_law_led" 2 ["_law_word_here", "_law_sequence_here"] [] sp_lledG)
    (C_law_part_words : Cal P w K mg base "_law_part_words" 2 ["_law_words", "_law_spots"] [] sp_lpw72)
    (C_law_room : Cal P w K mg base "_law_room" 4 ["_law_pot_here", "_law_names", "_law_most"] [] sp_room71)
    (C_law_sequence : Cal P w K mg base "_law_sequence" 2 ["_law_pot_here", "_law_places"] [] sp_lseq)
    (C_law_span : Cal P w K mg base "_law_span" 1 ["_law_words"] [] sp_nspanL)
    (C_part_room : Cal P w K mg base "part_room" 10 ["room", "spots"] [] (sp_part_room C))
    (C_parts : Cal P w K mg base "parts" 7 ["room"] [] (sp_parts C))
    (EC_Room : EqC P w K mg base C 1 (sp_eq K C))
    (K_part_room_spots_room : CalK P w K mg base "part_room" 10 ["room", "spots"] ["spots", "room"] kw2 (sp_part_room C))
    (MK_Room : MakC P w K mg base C "Room" 6 ["self", "places", "words"] (sp_init C))
    (M_basis : MthC P w K mg base C "basis" 1 ["self"] (sp_basis C))
    (P_dimension : PrpC P w K mg base C "dimension" 1 (sp_dimension C))
    (P_places : PrpC P w K mg base C "places" 1 (sp_places C))
    (R : RKn K C)
    (m_len : mg "len" = none)
    (m_list : mg "list" = none)
    (m_range : mg "range" = none)
    (m_tuple : mg "tuple" = none)
    (n_basis : ∀ n b, (rf n b).lookup ("basis" : Str) = none) :
    FnOk P w K mg base CX0 11 f fd ["_law_pot_here"] sp_right := by
  refine fn_sv F sc_law_right (fun _ _ => rfl) fun W i hP cdv A outer s H E hr => ⟨_, (pss_cons (ps_if (pt_cmpR op_eqN (pe_cal C_law_draw (hr.mono (by decide)) (by rfl) (pa_cons (pv 0) (pa_cons pe_int pa_nil))) pe_int (nomark _)) (pss_cons (ps_set (i := 1) sc_law_right.nd rfl (Or.inr rfl) (pe_op op_addN pe_int (pe_cal C_law_draw (hr.mono (by decide)) (by rfl) (pa_cons (pv 0) (pa_cons pe_int pa_nil)))))
    (pss_one (ps_setLc (i := 2) (own := [("_law_turn", 3)]) (g := gName 3) (by rfl) sc_law_right.nd rfl rfl (sw_true rfl rfl rfl (by decide +kernel)) (pi_range1 (by rfl) m_range (pa_cons (pe_cal C_law_draw (hr.mono (by decide)) (by rfl) (pa_cons (pv 0) (pa_cons pe_int pa_nil))) pa_nil)) (blkOk_by (own := [("_law_turn", 3)]) (N := N_law_right) (sc := defScope s_law_right) (by decide +kernel)) (fun _ _ _ _ _ => pg_name (i := 3) sc_law_right.nd rfl (Or.inl rfl)) (fun _ _ _ _ _ => pts_nil) (fun _ _ _ _ _ => (pe_cal C_law_draw (hr.mono (by decide)) (by rfl) (pa_cons (pv 0) (pa_cons (pe_op op_pow2 pe_int (pv 1)) pa_nil))))))) (pss_one (ps_asg (pe_cal C_law_room (hr.mono (by decide)) (by rfl) (pa_cons (pv 0) (pa_cons (pe_lst (pa_cons pe_str (pa_cons pe_str (pa_cons pe_str (pa_cons pe_str (pa_cons pe_str (pa_cons pe_str (pa_cons pe_str pa_nil)))))))) (pa_cons pe_int pa_nil)))) (pg_tup rfl (pgs_cons (pg_name (i := 1) sc_law_right.nd rfl (Or.inr rfl)) (pgs_cons (pg_name (i := 2) sc_law_right.nd rfl (Or.inl rfl)) (pgs_cons (pg_name (i := 4) sc_law_right.nd rfl (Or.inl rfl)) (pgs_cons (pg_name (i := 5) sc_law_right.nd rfl (Or.inl rfl)) pgs_nil))))))))
    (pss_cons (ps_par (i := 6) (j := 7) (by rfl) sc_law_right.nd rfl rfl (by decide) rfl rfl (pa_cons (pe_mkC MK_Room (hr.mono (by decide)) (by rfl) (pa_cons (pv 1) (pa_cons (pv 2) pa_nil))) (pa_cons (pe_cal C_law_span (hr.mono (by decide)) (by rfl) (pa_cons (pv 2) pa_nil)) pa_nil)) (by rfl))
    (pss_cons (ps_set (i := 8) sc_law_right.nd rfl (Or.inl rfl) (pe_slice sl_list (pe_cal C_law_sequence (hr.mono (by decide)) (by rfl) (pa_cons (pv 0) (pa_cons (pv 1) pa_nil))) po_none (po_some (pe_op op_addN pe_int (pe_cal C_law_draw (hr.mono (by decide)) (by rfl) (pa_cons (pv 0) (pa_cons (pv 1) pa_nil)))))))
    (pss_cons (ps_set (i := 9) sc_law_right.nd rfl (Or.inl rfl) (pe_cal C_part_room (hr.mono (by decide)) (by rfl) (pa_cons (pv 6) (pa_cons (pv 8) pa_nil))))
    (pss_cons (ps_set (i := 10) sc_law_right.nd rfl (Or.inl rfl) (pe_cal C_law_part_words (hr.mono (by decide)) (by rfl) (pa_cons (pv 7) (pa_cons (pv 8) pa_nil))))
    (pss_cons (ps_if (PW.pt (pw_or (pt_cmpR op_neN (pe_propC P_places (hr.mono (by decide)) (pv 9) rfl) (pe_callB call_len_seq (by rfl) m_len (by decide +kernel) (pa_cons (pv 8) pa_nil)) (nomark _)) (pw_or (pt_cmpR (op_neD hr.units) (pe_cal C_law_span (hr.mono (by decide)) (by rfl) (pa_cons (pe_meth0C M_basis (hr.mono (by decide)) (pv 9)) pa_nil)) (pv 10) (nomark _)) (pw_or1 (pt_cmpR (op_neO EC_Room (hr.mono (by decide))) (pe_calKw K_part_room_spots_room (hr.mono (by decide)) (by rfl) (pk_cons (pe_callTy call_tuple_of (by rfl) m_tuple (by decide +kernel) (pa_cons (pv 8) pa_nil)) (pk_cons (pv 6) pk_nil))) (pv 9) (nomark _)))))) (pss_one (ps_ret pe_bl)) pss_nil)
    (pss_cons (ps_if (pt_cmpR (op_neO EC_Room (hr.mono (by decide))) (pe_cal C_part_room (hr.mono (by decide)) (by rfl) (pa_cons (pv 6) (pa_cons (pe_listRg rfl (by rfl) m_list (prg_1 (by rfl) m_range (pv 1))) pa_nil))) (pv 6) (nomark _)) (pss_one (ps_ret pe_bl)) pss_nil)
    (pss_cons (ps_par (i := 11) (j := 12) (by rfl) sc_law_right.nd rfl rfl (by decide) rfl rfl (pa_cons (pe_lst pa_nil) (pa_cons pe_int pa_nil)) (by rfl))
    (pss_cons (ps_for PassesOwn.never rfl (pi_list (pe_cal C_parts (hr.mono (by decide)) (by rfl) (pa_cons (pv 6) pa_nil))) (pg_name (i := 13) sc_law_right.nd rfl (Or.inr rfl))
      (pss_cons (ps_set (i := 14) sc_law_right.nd rfl (Or.inl rfl) (pe_cal C_part_room (hr.mono (by decide)) (by rfl) (pa_cons (pv 6) (pa_cons (pv 13) pa_nil))))
    (pss_cons (ps_set (i := 12) sc_law_right.nd rfl (Or.inl rfl) (pe_op op_addN (pv 12) (pe_propC P_dimension (hr.mono (by decide)) (pv 14) rfl)))
    (pss_one (ps_expr (pe_bm PySem.F.plainAttrs_list PySem.F.slot_list_extend PySem.F.type_list_extend mt_extend (pv 11) (pa_cons (pe_lc (own := [("_law_word_here", 15)]) (g := gName 15) (by rfl) sc_law_right.nd (pi_list (pe_meth0C M_basis (hr.mono (by decide)) (pv 14))) (blkOk_by (own := [("_law_word_here", 15)]) (N := N_law_right) (sc := defScope s_law_right) (by decide +kernel)) (fun _ _ _ _ _ => pg_name (i := 15) sc_law_right.nd rfl (Or.inl rfl)) (fun _ _ _ _ _ => pts_nil) (fun _ _ _ _ _ => (pe_cal C_law_led (hr.mono (by decide)) (by rfl) (pa_cons (pv 15) (pa_cons (pv 13) pa_nil))))) pa_nil)))))))
    (pss_one (ps_ret (pe_and (pe_cmpR op_eqN (pv 12) (pe_propC P_dimension (hr.mono (by decide)) (pv 6) rfl) (nomark _)) (pe_one (pe_cmpR (op_eqO EC_Room (hr.mono (by decide))) (pe_mkC MK_Room (hr.mono (by decide)) (by rfl) (pa_cons (pv 1) (pa_cons (pv 11) pa_nil))) (pv 6) (nomark _))))))))))))))), ?_⟩
  have hp := hP
  refine sv_ifJ (ι := Nat × List Nat) (P := Rm72) (E := fun x => ((envOf [dV (.ref i)] 15).set 1 (some (dN x.1))).set 2 (some (dVs x.2))) (tx_test (ev_opL (fun _ _ => od_eqN) (ev_call (sd_draw hp (by omega) (by omega)) (av_cons (ev_var rfl) (av_cons (ev_cn 2) av_nil))) (ev_cn 0))) (nj_setx (ev_opR (fun _ _ => od_addN) (ev_cn 2) (ev_call (sd_draw hp (by omega) (by omega)) (av_cons (ev_var rfl) (av_cons (ev_cn 7) av_nil)))) fun d hd => ?_) (nj_unpl (n := 4) (is := [1, 2, 4, 5]) (ev_call (sd_room71 (names := names72) (m := 12) hp (by decide) (by decide)) (av_cons (ev_var rfl) (av_cons (ev_fl (fl_lst (names72.map V.str) (av_cons ev_c (av_cons ev_c (av_cons ev_c (av_cons ev_c (av_cons ev_c (av_cons ev_c (av_cons ev_c av_nil))))))) (by decide))) (av_cons (ev_cn 12) av_nil)))) (fun _ => rfl) rfl fun x hx => ?_) fun x hx => ?_
  · have hd : d < 7 := hd
    have pn := Nat.two_pow_pos (2 + d)
    have l24 : 2 ^ (2 + d) < 1073741824 := pw_lt (by omega)
    exact nj_setl (ev_lcRX (Pn := fun x => x < 6) (f := fun x => x) (P := fun v => v < 2 ^ (2 + d)) (ax_consL (ev_call (sd_draw hp (by omega) (by omega)) (av_cons (ev_var rfl) (av_cons (ev_cn 6) av_nil))) av_nil) (fun x hx => by omega) fun turn => (ev_call (sd_draw hp pn l24) (av_cons (ev_var rfl) (av_cons (ev_op (od_pow2 (by omega)) (ev_cn 1) (ev_var rfl)) av_nil)))) fun l ⟨⟨x, hx, hl⟩, lt⟩ => ⟨(2 + d, l), ⟨by show 1 ≤ 2 + d; omega, by show 2 + d ≤ 12; omega, by show l.length ≤ 12; omega, lt⟩, fun σ H e => e.sub rfl ⟨rfl, rfl, rfl, trivial⟩⟩
  · obtain ⟨⟨b, ne⟩, hs⟩ := hx
    exact ⟨_, rm72_room b ne hs, fun σ H e => e.sub rfl ⟨rfl, rfl, rfl, trivial⟩⟩
  obtain ⟨n, ws⟩ := x
  obtain ⟨n1, n12, ln, lt⟩ := hx
  have n1 : 1 ≤ n := n1
  have n12 : n ≤ 12 := n12
  have ln : ws.length ≤ 12 := ln
  have lt : ∀ v ∈ ws, v < 2 ^ n := lt
  have n24 : n ≤ 24 := by omega
  have f : RoomF n (bas ws) := ⟨bas_plain _, n1, n24, bas_lt lt⟩
  have l12 : (bas ws).length ≤ 12 := Nat.le_trans (bas_len ws) ln
  try dsimp only
  refine sv_seq (nv_par (d1 := dRoom C n (bas ws)) (d2 := dVs (wordsOf (bas ws))) (av_cons (ev_make n1 n24 lt (by omega) (av_cons (ev_var rfl) (av_cons (ev_var rfl) av_nil))) (av_cons (ev_call (sd_nspanL ln) (av_cons (ev_var rfl) av_nil)) av_nil))) ?_
  generalize bas ws = B at f l12 ⊢
  refine sv_setx (ev_slXX (ev_call (sd_lseq hp n24) (av_cons (ev_var rfl) (av_cons (ev_var rfl) av_nil))) (ev_opR (fun _ _ => od_addN) (ev_cn 1) (ev_call (sd_draw hp n1 (by omega)) (av_cons (ev_var rfl) (av_cons (ev_var rfl) av_nil))))) fun x hx => ?_
  obtain ⟨s, d⟩ := x
  obtain ⟨hs, hd⟩ := hx
  have hs : Seq n s := hs
  have hd : d < n := hd
  have ls := hs.len
  have nd : (s.take (1 + d)).Nodup := hs.nd.sublist (List.take_sublist ..)
  have lt2 : ∀ k ∈ s.take (1 + d), k < n := fun k hk => hs.lt k (List.mem_of_mem_take hk)
  have pos : 0 < (s.take (1 + d)).length := by rw [List.length_take]; omega
  try dsimp only
  generalize s.take (1 + d) = l at nd lt2 pos ⊢
  have ll := nd_len nd lt2
  have pR : Plain (partR n B l) := bas_plain _
  have bR : bas (partR n B l) = partR n B l := bas_self pR
  have lR : (partR n B l).length ≤ 12 := by
    have := plain_len pR (n := l.length) (bas_lt fun v hv => by
      obtain ⟨u, _, rfl⟩ := List.mem_map.mp hv
      exact toldW_lt l u)
    omega
  refine sv_seq (nv_set (ev_call (sd_part_room nd lt2 pos) (av_cons (ev_var rfl) (av_cons (lt_of_L (ev_var rfl)) av_nil)))) ?_
  refine sv_seq (nv_set (ev_call (sd_lpw72 f l12 nd lt2) (av_cons (ev_var rfl) (av_cons (ev_var rfl) av_nil)))) ?_
  refine sv_seq (nv_ifF (tv_orF (tv_f (tv_test (ev_op od_neN (ev_prop sd_places (ev_var rfl)) (ev_cb cd_lenN (av_cons (ev_var rfl) av_nil)))) (nd_t rfl)) (tv_orF (tv_f (tv_test (ev_op od_neL (ev_eqD (ev_call (sd_nspanL lR) (av_cons (ev_meth n_basis sd_basis (ev_var rfl) av_nil) av_nil)) (by rw [bR])) (ev_var rfl))) (nd_t rfl)) (tv_f (tv_test (ev_op od_neR (ev_kw2 (sd_part_room nd lt2 pos) (av_cons (lt_of_T (ev_cb cd_tuple (av_cons (ev_var rfl) av_nil))) (av_cons (ev_var rfl) av_nil))) (ev_var rfl))) (nd_t ⟨rfl, rfl⟩))))) ?_
  have pa := part_all f
  have lrg : (List.range n).length = n := List.length_range
  refine sv_seq (nv_ifF (tv_f (tv_test (ev_op od_neR (ev_call (sd_part_room (n := n) List.nodup_range (fun k hk => List.mem_range.mp hk) (by rw [lrg]; exact n1)) (av_cons (ev_var rfl) (av_cons (lt_of_L (ev_listRg (by omega) (ev_var rfl))) av_nil))) (ev_var rfl))) (nd_t ⟨lrg, pa⟩))) ?_
  have bl := plain_len f.pl f.lt
  refine sv_parG2 (i := 11) (j := 12) (N := 16) (y := V.int 0) (ue := [(12, uN 0), (6, uRoom C n B), (1, uN n)]) (fun _ _ _ q => q) (fun σ H e => e.sub rfl ⟨rfl, rfl, rfl, trivial⟩) ?_
  refine sg_seq (ng_forD (ι := Unit) (ws := (partsL n B).map uVs) (offu_Vs _) (fun k _ => [(12, uN (bkN n B ((partsL n B).take k))), (6, uRoom C n B), (1, uN n)]) (fun k _ => (bkL n B ((partsL n B).take k)).map uN) (fun _ _ => True) () (fun W' _ => ev_call sd_parts (av_cons (ev_var rfl) av_nil)) trivial rfl (fun W' σ H e => e) fun k w hw _ _ => ?_) fun _ _ => sg_end ?_
  · rw [List.getElem?_map] at hw
    obtain ⟨q, hq, rfl⟩ := Option.map_eq_some_iff.mp hw
    have mq := List.mem_of_getElem? hq
    obtain ⟨ndq, ltq, posq⟩ := part_mem f mq
    have lq := nd_len ndq ltq
    have ek : (partsL n B).take (k + 1) = (partsL n B).take k ++ [q] := by rw [List.take_add_one, hq]; rfl
    have eN : bkN n B ((partsL n B).take (k + 1)) = bkN n B ((partsL n B).take k) + (partR n B q).length := by
      rw [ek]
      unfold bkN
      rw [List.map_append, List.sum_append]
      rfl
    have eL : bkL n B ((partsL n B).take (k + 1)) = bkL n B ((partsL n B).take k) ++ (partR n B q).map (ledN q) := by
      rw [ek]
      unfold bkL
      rw [List.flatMap_append, List.flatMap_singleton]
    have b1 := bk_take f (k + 1)
    have ln1 := bk_len n B ((partsL n B).take k)
    rw [eN] at b1
    refine ng_seq (ng_set (uRoom C q.length (partR n B q)) (fun W' _ => ev_call (sd_part_room ndq ltq posq) (av_cons (ev_var rfl) (av_cons (lt_of_L (ev_var (d := dVs q) rfl)) av_nil)))) fun _ _ => ng_seq (ng_set (uN (bkN n B ((partsL n B).take k) + (partR n B q).length)) (fun W' _ => ev_op od_addN (ev_var (d := dN (bkN n B ((partsL n B).take k))) rfl) (ev_prop sd_dimension (ev_var (d := dRoom C q.length (partR n B q)) rfl)))) fun _ _ => ng_imp (ng_extend (vs := ((partR n B q).map (ledN q)).map uN) (fun W' _ => ev_LD (ev_lcM (g := ledN q) (ev_meth n_basis sd_basis (ev_var (d := dRoom C q.length (partR n B q)) rfl) av_nil) (by omega) fun word_here hword_here => (ev_call (sd_lledG (by omega) (fun j hj => by have := ltq j hj; omega)) (av_cons (ev_var rfl) (av_cons (ev_var (d := dVs q) rfl) av_nil))))) (by rw [List.length_map, List.length_map, List.length_map, ln1]; omega)) (fun _ => ()) fun _ _ => ⟨trivial, by rw [eL, List.map_append], fun W' σ H e => e.sub rfl ⟨by rw [eN]; rfl, rfl, rfl, trivial⟩⟩
  have et : (partsL n B).take ((partsL n B).map uVs).length = partsL n B := by rw [List.length_map, List.take_length]
  rw [et]
  have pd : bkN n B (partsL n B) = B.length := parts_dim f
  have bb := bk_bas f
  have bt := bk_lt f
  have bn := bk_len n B (partsL n B)
  exact sv_ret (ev_andT (ev_t (ev_op od_eqN (ev_var (d := dN (bkN n B (partsL n B))) rfl) (ev_prop sd_dimension (ev_var (d := dRoom C n B) rfl))) (d_t pd)) (ev_t (ev_op od_eqR (ev_make n1 n24 bt (by omega) (av_cons (ev_var rfl) (av_cons (ev_LDN (ev_var rfl)) av_nil))) (ev_var (d := dRoom C n B) rfl)) (d_t ⟨rfl, bb⟩)))
end
end K72
set_option Elab.async false
set_option linter.all false
set_option maxRecDepth 100000
set_option maxHeartbeats 1000000
set_option pp.maxSteps 300
namespace K72
open PySem PySem.Spec PyProof.Rows L2 Vf
section
variable {P : Program} {w : World} {K : PySem.W.Frag} {mg : Str → Option Value} {base : Heap} {C : Addr}
abbrev s_law : Stmt := topS 54
abbrev N_law : List Str := ["_law_script"]
theorem sc_law : FnScope N_law ["_law_script"] (defScope s_law) := ⟨rfl, rfl, rfl, by decide +kernel, rfl, by decide +kernel, by decide +kernel⟩
theorem ok_law {f : Addr} {fd : FuncData} (F : Fun K "law" "law" s_law f fd)
    (C_law_pot : Cal P w K mg base "_law_pot" 1 ["_law_script", "_law_k"] [] (sp_pot K))
    (C_law_right : Cal P w K mg base "_law_right" 11 ["_law_pot_here"] [] sp_right) :
    GnOk P w K mg base 12 f fd ["_law_script"] (sp_law K) := by
  refine gn_ok F sc_law (fun vs H Q E h => ?_) (fun cdv A outer s H vs Q E hg hr h => ?_)
  · obtain ⟨a, ns, rfl, _⟩ := h
    rfl
  · obtain ⟨a, ns, rfl, hS, q⟩ := h
    refine ⟨_, (pss_one (ps_ret (pe_cal C_law_right (hr.mono (by decide)) (by rfl) (pa_cons (pe_cal C_law_pot (hr.mono (by decide)) (by rfl) (pa_cons (pv 0) (pa_cons pe_int pa_nil))) pa_nil)))), ?_⟩
    refine ⟨.ref a, rfl, a, ns, 0, rfl, hS, by decide, fun H1 p s1 np hP => ?_⟩
    refine ⟨potW p, p, potW_is p, hP, ⟨rfl, trivial⟩, fun v H2 l2 ov => ?_⟩
    rw [show v = V.bl true from ov]
    exact q _
end
theorem all_mk {l : PySem.W.OpenLaw} {w : World} {K : PySem.W.Frag} {h : Heap} {mg : Str → Option Value} {fa T C f1 f2 f3 f4 f5 f6 f7 f8 f9 f10 f11 f12 f13 f14 f15 f16 f17 f18 f19 f20 f21 f22 f23 f24 f25 f26 f27 f28 f29 f30 f31 f32 f33 f34 f35 f36 fm1 fm2 fm3 fm4 fm5 fm6 fm7 fm8 prm2 prm3 : Addr} (X : K.In h) (G : h.Ns mainGlobals mg) (hfa : mg "law" = some (.ref fa))
    {od1 an1 od2 an2 od3 an3 od4 an4 od5 an5 od6 an6 od7 an7 od8 an8 od9 an9 od10 an10 od11 an11 od12 an12 od13 an13 od14 an14 od15 an15 od16 an16 od17 an17 od18 an18 od19 an19 od20 an20 od21 an21 od22 an22 od23 an23 od24 an24 od25 an25 od26 an26 od27 an27 od28 an28 od29 an29 od30 an30 od31 an31 od32 an32 od33 an33 od34 an34 od35 an35 od36 an36 odm1 anm1 odm2 anm2 odm3 anm3 odm4 anm4 odm5 anm5 odm6 anm6 odm7 anm7 odm8 anm8 dT : Option Addr} {sl1 sl2 sl3 sl4 sl5 sl6 sl7 sl8 sl9 sl10 sl11 sl12 sl13 sl14 sl15 sl16 sl17 sl18 sl19 sl20 sl21 sl22 sl23 sl24 sl25 sl26 sl27 sl28 sl29 sl30 sl31 sl32 sl33 sl34 sl35 sl36 slm1 slm2 slm3 slm4 slm5 slm6 slm7 slm8 sT : Array (Option Value)} {oc1 kV1 dc1 pm1 ct1 cd1 oc2 kV2 dc2 pm2 ct2 cd2 oc3 kV3 dc3 pm3 ct3 cd3 oc4 kV4 dc4 pm4 ct4 cd4 oc5 kV5 dc5 pm5 ct5 cd5 oc6 kV6 dc6 pm6 ct6 cd6 oc7 kV7 dc7 pm7 ct7 cd7 oc8 kV8 dc8 pm8 ct8 cd8 oc9 kV9 dc9 pm9 ct9 cd9 oc10 kV10 dc10 pm10 ct10 cd10 oc11 kV11 dc11 pm11 ct11 cd11 oc12 kV12 dc12 pm12 ct12 cd12 oc13 kV13 dc13 pm13 ct13 cd13 oc14 kV14 dc14 pm14 ct14 cd14 oc15 kV15 dc15 pm15 ct15 cd15 oc16 kV16 dc16 pm16 ct16 cd16 oc17 kV17 dc17 pm17 ct17 cd17 oc18 kV18 dc18 pm18 ct18 cd18 oc19 kV19 dc19 pm19 ct19 cd19 oc20 kV20 dc20 pm20 ct20 cd20 oc21 kV21 dc21 pm21 ct21 cd21 oc22 kV22 dc22 pm22 ct22 cd22 oc23 kV23 dc23 pm23 ct23 cd23 oc24 kV24 dc24 pm24 ct24 cd24 oc25 kV25 dc25 pm25 ct25 cd25 oc26 kV26 dc26 pm26 ct26 cd26 oc27 kV27 dc27 pm27 ct27 cd27 oc28 kV28 dc28 pm28 ct28 cd28 oc29 kV29 dc29 pm29 ct29 cd29 oc30 kV30 dc30 pm30 ct30 cd30 oc31 kV31 dc31 pm31 ct31 cd31 oc32 kV32 dc32 pm32 ct32 cd32 oc33 kV33 dc33 pm33 ct33 cd33 oc34 kV34 dc34 pm34 ct34 cd34 oc35 kV35 dc35 pm35 ct35 cd35 oc36 kV36 dc36 pm36 ct36 cd36 ocm1 kVm1 dcm1 pmm1 ctm1 cdm1 ocm2 kVm2 dcm2 pmm2 ctm2 cdm2 ocm3 kVm3 dcm3 pmm3 ctm3 cdm3 ocm4 kVm4 dcm4 pmm4 ctm4 cdm4 ocm5 kVm5 dcm5 pmm5 ctm5 cdm5 ocm6 kVm6 dcm6 pmm6 ctm6 cdm6 ocm7 kVm7 dcm7 pmm7 ctm7 cdm7 ocm8 kVm8 dcm8 pmm8 ctm8 cdm8 oT : Value} {nT : Nat} {tT : Tok} {t_MOST_DIMENSION t_MOST_PLACES t_MOST_WORDS : Tok} {rem2 rem3 : List Value}
    (aC : PySem.W.nsIn K mainGlobals "Room" = some (some (.ref C)))
    (a1 : PySem.W.nsIn K mainGlobals "is_integer" = some (some (.ref f1)))
    (l1 : K.lookup f1 = some ⟨oc1, od1, .func (PySem.W.fnOf "is_integer" "is_integer" (defArgs s_is_integer) (defBody s_is_integer) (defScope s_is_integer) .none kV1 dc1 pm1 an1 cd1 ct1), sl1⟩)
    (c1 : PySem.W.codeIn K cd1 "is_integer" = true)
    (k1 : PySem.W.keepIn K (.ref f1) = true)
    (a2 : PySem.W.nsIn K mainGlobals "is_count" = some (some (.ref f2)))
    (l2 : K.lookup f2 = some ⟨oc2, od2, .func (PySem.W.fnOf "is_count" "is_count" (defArgs s_is_count) (defBody s_is_count) (defScope s_is_count) .none kV2 dc2 pm2 an2 cd2 ct2), sl2⟩)
    (c2 : PySem.W.codeIn K cd2 "is_count" = true)
    (k2 : PySem.W.keepIn K (.ref f2) = true)
    (a3 : PySem.W.nsIn K mainGlobals "is_list" = some (some (.ref f3)))
    (l3 : K.lookup f3 = some ⟨oc3, od3, .func (PySem.W.fnOf "is_list" "is_list" (defArgs s_is_list) (defBody s_is_list) (defScope s_is_list) .none kV3 dc3 pm3 an3 cd3 ct3), sl3⟩)
    (c3 : PySem.W.codeIn K cd3 "is_list" = true)
    (k3 : PySem.W.keepIn K (.ref f3) = true)
    (a4 : PySem.W.nsIn K mainGlobals "is_places" = some (some (.ref f4)))
    (l4 : K.lookup f4 = some ⟨oc4, od4, .func (PySem.W.fnOf "is_places" "is_places" (defArgs s_is_places) (defBody s_is_places) (defScope s_is_places) .none kV4 dc4 pm4 an4 cd4 ct4), sl4⟩)
    (c4 : PySem.W.codeIn K cd4 "is_places" = true)
    (k4 : PySem.W.keepIn K (.ref f4) = true)
    (a5 : PySem.W.nsIn K mainGlobals "check_places" = some (some (.ref f5)))
    (l5 : K.lookup f5 = some ⟨oc5, od5, .func (PySem.W.fnOf "check_places" "check_places" (defArgs s_check_places) (defBody s_check_places) (defScope s_check_places) .none kV5 dc5 pm5 an5 cd5 ct5), sl5⟩)
    (c5 : PySem.W.codeIn K cd5 "check_places" = true)
    (k5 : PySem.W.keepIn K (.ref f5) = true)
    (a6 : PySem.W.nsIn K mainGlobals "is_word" = some (some (.ref f6)))
    (l6 : K.lookup f6 = some ⟨oc6, od6, .func (PySem.W.fnOf "is_word" "is_word" (defArgs s_is_word) (defBody s_is_word) (defScope s_is_word) .none kV6 dc6 pm6 an6 cd6 ct6), sl6⟩)
    (c6 : PySem.W.codeIn K cd6 "is_word" = true)
    (k6 : PySem.W.keepIn K (.ref f6) = true)
    (a7 : PySem.W.nsIn K mainGlobals "check_word" = some (some (.ref f7)))
    (l7 : K.lookup f7 = some ⟨oc7, od7, .func (PySem.W.fnOf "check_word" "check_word" (defArgs s_check_word) (defBody s_check_word) (defScope s_check_word) (.ref T) kV7 dc7 pm7 an7 cd7 ct7), sl7⟩)
    (c7 : PySem.W.codeIn K cd7 "check_word" = true)
    (k7 : PySem.W.keepIn K (.ref f7) = true)
    (a8 : PySem.W.nsIn K mainGlobals "places_of" = some (some (.ref f8)))
    (l8 : K.lookup f8 = some ⟨oc8, od8, .func (PySem.W.fnOf "places_of" "places_of" (defArgs s_places_of) (defBody s_places_of) (defScope s_places_of) .none kV8 dc8 pm8 an8 cd8 ct8), sl8⟩)
    (c8 : PySem.W.codeIn K cd8 "places_of" = true)
    (k8 : PySem.W.keepIn K (.ref f8) = true)
    (a9 : PySem.W.nsIn K mainGlobals "are_spots" = some (some (.ref f9)))
    (l9 : K.lookup f9 = some ⟨oc9, od9, .func (PySem.W.fnOf "are_spots" "are_spots" (defArgs s_are_spots) (defBody s_are_spots) (defScope s_are_spots) .none kV9 dc9 pm9 an9 cd9 ct9), sl9⟩)
    (c9 : PySem.W.codeIn K cd9 "are_spots" = true)
    (k9 : PySem.W.keepIn K (.ref f9) = true)
    (a10 : PySem.W.nsIn K mainGlobals "word_of" = some (some (.ref f10)))
    (l10 : K.lookup f10 = some ⟨oc10, od10, .func (PySem.W.fnOf "word_of" "word_of" (defArgs s_word_of) (defBody s_word_of) (defScope s_word_of) .none kV10 dc10 pm10 an10 cd10 ct10), sl10⟩)
    (c10 : PySem.W.codeIn K cd10 "word_of" = true)
    (k10 : PySem.W.keepIn K (.ref f10) = true)
    (a11 : PySem.W.nsIn K mainGlobals "highest" = some (some (.ref f11)))
    (l11 : K.lookup f11 = some ⟨oc11, od11, .func (PySem.W.fnOf "highest" "highest" (defArgs s_highest) (defBody s_highest) (defScope s_highest) .none kV11 dc11 pm11 an11 cd11 ct11), sl11⟩)
    (c11 : PySem.W.codeIn K cd11 "highest" = true)
    (k11 : PySem.W.keepIn K (.ref f11) = true)
    (a12 : PySem.W.nsIn K mainGlobals "rest_of" = some (some (.ref f12)))
    (l12 : K.lookup f12 = some ⟨oc12, od12, .func (PySem.W.fnOf "rest_of" "rest_of" (defArgs s_rest_of) (defBody s_rest_of) (defScope s_rest_of) .none kV12 dc12 pm12 an12 cd12 ct12), sl12⟩)
    (c12 : PySem.W.codeIn K cd12 "rest_of" = true)
    (k12 : PySem.W.keepIn K (.ref f12) = true)
    (a13 : PySem.W.nsIn K mainGlobals "put_in" = some (some (.ref f13)))
    (l13 : K.lookup f13 = some ⟨oc13, od13, .func (PySem.W.fnOf "put_in" "put_in" (defArgs s_put_in) (defBody s_put_in) (defScope s_put_in) .none kV13 dc13 pm13 an13 cd13 ct13), sl13⟩)
    (c13 : PySem.W.codeIn K cd13 "put_in" = true)
    (k13 : PySem.W.keepIn K (.ref f13) = true)
    (a14 : PySem.W.nsIn K mainGlobals "plain_basis" = some (some (.ref f14)))
    (l14 : K.lookup f14 = some ⟨oc14, od14, .func (PySem.W.fnOf "plain_basis" "plain_basis" (defArgs s_plain_basis) (defBody s_plain_basis) (defScope s_plain_basis) .none kV14 dc14 pm14 an14 cd14 ct14), sl14⟩)
    (c14 : PySem.W.codeIn K cd14 "plain_basis" = true)
    (k14 : PySem.W.keepIn K (.ref f14) = true)
    (a15 : PySem.W.nsIn K mainGlobals "sums_of" = some (some (.ref f15)))
    (l15 : K.lookup f15 = some ⟨oc15, od15, .func (PySem.W.fnOf "sums_of" "sums_of" (defArgs s_sums_of) (defBody s_sums_of) (defScope s_sums_of) .none kV15 dc15 pm15 an15 cd15 ct15), sl15⟩)
    (c15 : PySem.W.codeIn K cd15 "sums_of" = true)
    (k15 : PySem.W.keepIn K (.ref f15) = true)
    (a16 : PySem.W.nsIn K mainGlobals "check_words" = some (some (.ref f16)))
    (l16 : K.lookup f16 = some ⟨oc16, od16, .func (PySem.W.fnOf "check_words" "check_words" (defArgs s_check_words) (defBody s_check_words) (defScope s_check_words) .none kV16 dc16 pm16 an16 cd16 ct16), sl16⟩)
    (c16 : PySem.W.codeIn K cd16 "check_words" = true)
    (k16 : PySem.W.keepIn K (.ref f16) = true)
    (a17 : PySem.W.nsIn K mainGlobals "check_room" = some (some (.ref f17)))
    (l17 : K.lookup f17 = some ⟨oc17, od17, .func (PySem.W.fnOf "check_room" "check_room" (defArgs s_check_room) (defBody s_check_room) (defScope s_check_room) .none kV17 dc17 pm17 an17 cd17 ct17), sl17⟩)
    (c17 : PySem.W.codeIn K cd17 "check_room" = true)
    (k17 : PySem.W.keepIn K (.ref f17) = true)
    (a18 : PySem.W.nsIn K mainGlobals "lower_room" = some (some (.ref f18)))
    (l18 : K.lookup f18 = some ⟨oc18, od18, .func (PySem.W.fnOf "lower_room" "lower_room" (defArgs s_lower_room) (defBody s_lower_room) (defScope s_lower_room) .none kV18 dc18 pm18 an18 cd18 ct18), sl18⟩)
    (c18 : PySem.W.codeIn K cd18 "lower_room" = true)
    (k18 : PySem.W.keepIn K (.ref f18) = true)
    (a19 : PySem.W.nsIn K mainGlobals "shortened" = some (some (.ref f19)))
    (l19 : K.lookup f19 = some ⟨oc19, od19, .func (PySem.W.fnOf "shortened" "shortened" (defArgs s_shortened) (defBody s_shortened) (defScope s_shortened) .none kV19 dc19 pm19 an19 cd19 ct19), sl19⟩)
    (c19 : PySem.W.codeIn K cd19 "shortened" = true)
    (k19 : PySem.W.keepIn K (.ref f19) = true)
    (a20 : PySem.W.nsIn K mainGlobals "put_together" = some (some (.ref f20)))
    (l20 : K.lookup f20 = some ⟨oc20, od20, .func (PySem.W.fnOf "put_together" "put_together" (defArgs s_put_together) (defBody s_put_together) (defScope s_put_together) .none kV20 dc20 pm20 an20 cd20 ct20), sl20⟩)
    (c20 : PySem.W.codeIn K cd20 "put_together" = true)
    (k20 : PySem.W.keepIn K (.ref f20) = true)
    (a21 : PySem.W.nsIn K mainGlobals "parts" = some (some (.ref f21)))
    (l21 : K.lookup f21 = some ⟨oc21, od21, .func (PySem.W.fnOf "parts" "parts" (defArgs s_parts) (defBody s_parts) (defScope s_parts) .none kV21 dc21 pm21 an21 cd21 ct21), sl21⟩)
    (c21 : PySem.W.codeIn K cd21 "parts" = true)
    (k21 : PySem.W.keepIn K (.ref f21) = true)
    (a22 : PySem.W.nsIn K mainGlobals "told_by" = some (some (.ref f22)))
    (l22 : K.lookup f22 = some ⟨oc22, od22, .func (PySem.W.fnOf "told_by" "told_by" (defArgs s_told_by) (defBody s_told_by) (defScope s_told_by) .none kV22 dc22 pm22 an22 cd22 ct22), sl22⟩)
    (c22 : PySem.W.codeIn K cd22 "told_by" = true)
    (k22 : PySem.W.keepIn K (.ref f22) = true)
    (a23 : PySem.W.nsIn K mainGlobals "part_room" = some (some (.ref f23)))
    (l23 : K.lookup f23 = some ⟨oc23, od23, .func (PySem.W.fnOf "part_room" "part_room" (defArgs s_part_room) (defBody s_part_room) (defScope s_part_room) .none kV23 dc23 pm23 an23 cd23 ct23), sl23⟩)
    (c23 : PySem.W.codeIn K cd23 "part_room" = true)
    (k23 : PySem.W.keepIn K (.ref f23) = true)
    (a24 : PySem.W.nsIn K mainGlobals "_law_pot" = some (some (.ref f24)))
    (l24 : K.lookup f24 = some ⟨oc24, od24, .func (PySem.W.fnOf "_law_pot" "_law_pot" (defArgs s_law_pot) (defBody s_law_pot) (defScope s_law_pot) .none kV24 dc24 pm24 an24 cd24 ct24), sl24⟩)
    (c24 : PySem.W.codeIn K cd24 "_law_pot" = true)
    (k24 : PySem.W.keepIn K (.ref f24) = true)
    (a25 : PySem.W.nsIn K mainGlobals "_law_draw" = some (some (.ref f25)))
    (l25 : K.lookup f25 = some ⟨oc25, od25, .func (PySem.W.fnOf "_law_draw" "_law_draw" (defArgs s_law_draw) (defBody s_law_draw) (defScope s_law_draw) .none kV25 dc25 pm25 an25 cd25 ct25), sl25⟩)
    (c25 : PySem.W.codeIn K cd25 "_law_draw" = true)
    (k25 : PySem.W.keepIn K (.ref f25) = true)
    (a26 : PySem.W.nsIn K mainGlobals "_law_pick" = some (some (.ref f26)))
    (l26 : K.lookup f26 = some ⟨oc26, od26, .func (PySem.W.fnOf "_law_pick" "_law_pick" (defArgs s_law_pick) (defBody s_law_pick) (defScope s_law_pick) .none kV26 dc26 pm26 an26 cd26 ct26), sl26⟩)
    (c26 : PySem.W.codeIn K cd26 "_law_pick" = true)
    (k26 : PySem.W.keepIn K (.ref f26) = true)
    (a27 : PySem.W.nsIn K mainGlobals "_law_word" = some (some (.ref f27)))
    (l27 : K.lookup f27 = some ⟨oc27, od27, .func (PySem.W.fnOf "_law_word" "_law_word" (defArgs s_law_word) (defBody s_law_word) (defScope s_law_word) .none kV27 dc27 pm27 an27 cd27 ct27), sl27⟩)
    (c27 : PySem.W.codeIn K cd27 "_law_word" = true)
    (k27 : PySem.W.keepIn K (.ref f27) = true)
    (a28 : PySem.W.nsIn K mainGlobals "_law_span" = some (some (.ref f28)))
    (l28 : K.lookup f28 = some ⟨oc28, od28, .func (PySem.W.fnOf "_law_span" "_law_span" (defArgs s_law_span) (defBody s_law_span) (defScope s_law_span) .none kV28 dc28 pm28 an28 cd28 ct28), sl28⟩)
    (c28 : PySem.W.codeIn K cd28 "_law_span" = true)
    (k28 : PySem.W.keepIn K (.ref f28) = true)
    (a29 : PySem.W.nsIn K mainGlobals "_law_led" = some (some (.ref f29)))
    (l29 : K.lookup f29 = some ⟨oc29, od29, .func (PySem.W.fnOf "_law_led" "_law_led" (defArgs s_law_led) (defBody s_law_led) (defScope s_law_led) .none kV29 dc29 pm29 an29 cd29 ct29), sl29⟩)
    (c29 : PySem.W.codeIn K cd29 "_law_led" = true)
    (k29 : PySem.W.keepIn K (.ref f29) = true)
    (a30 : PySem.W.nsIn K mainGlobals "_law_sequence" = some (some (.ref f30)))
    (l30 : K.lookup f30 = some ⟨oc30, od30, .func (PySem.W.fnOf "_law_sequence" "_law_sequence" (defArgs s_law_sequence) (defBody s_law_sequence) (defScope s_law_sequence) .none kV30 dc30 pm30 an30 cd30 ct30), sl30⟩)
    (c30 : PySem.W.codeIn K cd30 "_law_sequence" = true)
    (k30 : PySem.W.keepIn K (.ref f30) = true)
    (a31 : PySem.W.nsIn K mainGlobals "_law_pieces" = some (some (.ref f31)))
    (l31 : K.lookup f31 = some ⟨oc31, od31, .func (PySem.W.fnOf "_law_pieces" "_law_pieces" (defArgs s_law_pieces) (defBody s_law_pieces) (defScope s_law_pieces) .none kV31 dc31 pm31 an31 cd31 ct31), sl31⟩)
    (c31 : PySem.W.codeIn K cd31 "_law_pieces" = true)
    (k31 : PySem.W.keepIn K (.ref f31) = true)
    (a32 : PySem.W.nsIn K mainGlobals "_law_beside" = some (some (.ref f32)))
    (l32 : K.lookup f32 = some ⟨oc32, od32, .func (PySem.W.fnOf "_law_beside" "_law_beside" (defArgs s_law_beside) (defBody s_law_beside) (defScope s_law_beside) .none kV32 dc32 pm32 an32 cd32 ct32), sl32⟩)
    (c32 : PySem.W.codeIn K cd32 "_law_beside" = true)
    (k32 : PySem.W.keepIn K (.ref f32) = true)
    (a33 : PySem.W.nsIn K mainGlobals "_law_room" = some (some (.ref f33)))
    (l33 : K.lookup f33 = some ⟨oc33, od33, .func (PySem.W.fnOf "_law_room" "_law_room" (defArgs s_law_room) (defBody s_law_room) (defScope s_law_room) .none kV33 dc33 pm33 an33 cd33 ct33), sl33⟩)
    (c33 : PySem.W.codeIn K cd33 "_law_room" = true)
    (k33 : PySem.W.keepIn K (.ref f33) = true)
    (a34 : PySem.W.nsIn K mainGlobals "_law_part_words" = some (some (.ref f34)))
    (l34 : K.lookup f34 = some ⟨oc34, od34, .func (PySem.W.fnOf "_law_part_words" "_law_part_words" (defArgs s_law_part_words) (defBody s_law_part_words) (defScope s_law_part_words) .none kV34 dc34 pm34 an34 cd34 ct34), sl34⟩)
    (c34 : PySem.W.codeIn K cd34 "_law_part_words" = true)
    (k34 : PySem.W.keepIn K (.ref f34) = true)
    (a35 : PySem.W.nsIn K mainGlobals "_law_right" = some (some (.ref f35)))
    (l35 : K.lookup f35 = some ⟨oc35, od35, .func (PySem.W.fnOf "_law_right" "_law_right" (defArgs s_law_right) (defBody s_law_right) (defScope s_law_right) .none kV35 dc35 pm35 an35 cd35 ct35), sl35⟩)
    (c35 : PySem.W.codeIn K cd35 "_law_right" = true)
    (k35 : PySem.W.keepIn K (.ref f35) = true)
    (a36 : PySem.W.nsIn K mainGlobals "law" = some (some (.ref f36)))
    (l36 : K.lookup f36 = some ⟨oc36, od36, .func (PySem.W.fnOf "law" "law" (defArgs s_law) (defBody s_law) (defScope s_law) .none kV36 dc36 pm36 an36 cd36 ct36), sl36⟩)
    (c36 : PySem.W.codeIn K cd36 "law" = true)
    (k36 : PySem.W.keepIn K (.ref f36) = true)
    (am1 : PySem.W.findIn K (.ref C) "__init__" = some (some (.ref fm1)))
    (im1 : PySem.W.isFn K (.ref fm1) = true)
    (lm1 : K.lookup fm1 = some ⟨ocm1, odm1, .func (PySem.W.fnOf "__init__" "Room.__init__" (defArgs s_Room___init__) (defBody s_Room___init__) (defScope s_Room___init__) .none kVm1 dcm1 pmm1 anm1 cdm1 ctm1), slm1⟩)
    (cm1 : PySem.W.codeIn K cdm1 "Room.__init__" = true)
    (km1 : PySem.W.keepIn K (.ref fm1) = true)
    (am2 : PySem.W.findIn K (.ref C) "places" = some (some (.ref prm2)))
    (gm2 : PySem.W.specialIn K (.ref prm2) "__get__" = some (some (.builtin "property.__get__")))
    (um2 : PySem.W.takesIn K (.ref prm2) = some true)
    (rm2 : PySem.W.recIn K prm2 "property" = some (.ref fm2 :: rem2))
    (lm2 : K.lookup fm2 = some ⟨ocm2, odm2, .func (PySem.W.fnOf "places" "Room.places" (defArgs s_Room_places) (defBody s_Room_places) (defScope s_Room_places) .none kVm2 dcm2 pmm2 anm2 cdm2 ctm2), slm2⟩)
    (cm2 : PySem.W.codeIn K cdm2 "Room.places" = true)
    (km2 : PySem.W.keepIn K (.ref fm2) = true)
    (am3 : PySem.W.findIn K (.ref C) "dimension" = some (some (.ref prm3)))
    (gm3 : PySem.W.specialIn K (.ref prm3) "__get__" = some (some (.builtin "property.__get__")))
    (um3 : PySem.W.takesIn K (.ref prm3) = some true)
    (rm3 : PySem.W.recIn K prm3 "property" = some (.ref fm3 :: rem3))
    (lm3 : K.lookup fm3 = some ⟨ocm3, odm3, .func (PySem.W.fnOf "dimension" "Room.dimension" (defArgs s_Room_dimension) (defBody s_Room_dimension) (defScope s_Room_dimension) .none kVm3 dcm3 pmm3 anm3 cdm3 ctm3), slm3⟩)
    (cm3 : PySem.W.codeIn K cdm3 "Room.dimension" = true)
    (km3 : PySem.W.keepIn K (.ref fm3) = true)
    (am4 : PySem.W.findIn K (.ref C) "basis" = some (some (.ref fm4)))
    (im4 : PySem.W.isFn K (.ref fm4) = true)
    (lm4 : K.lookup fm4 = some ⟨ocm4, odm4, .func (PySem.W.fnOf "basis" "Room.basis" (defArgs s_Room_basis) (defBody s_Room_basis) (defScope s_Room_basis) .none kVm4 dcm4 pmm4 anm4 cdm4 ctm4), slm4⟩)
    (cm4 : PySem.W.codeIn K cdm4 "Room.basis" = true)
    (km4 : PySem.W.keepIn K (.ref fm4) = true)
    (am5 : PySem.W.findIn K (.ref C) "has" = some (some (.ref fm5)))
    (im5 : PySem.W.isFn K (.ref fm5) = true)
    (lm5 : K.lookup fm5 = some ⟨ocm5, odm5, .func (PySem.W.fnOf "has" "Room.has" (defArgs s_Room_has) (defBody s_Room_has) (defScope s_Room_has) .none kVm5 dcm5 pmm5 anm5 cdm5 ctm5), slm5⟩)
    (cm5 : PySem.W.codeIn K cdm5 "Room.has" = true)
    (km5 : PySem.W.keepIn K (.ref fm5) = true)
    (am6 : PySem.W.findIn K (.ref C) "words" = some (some (.ref fm6)))
    (im6 : PySem.W.isFn K (.ref fm6) = true)
    (lm6 : K.lookup fm6 = some ⟨ocm6, odm6, .func (PySem.W.fnOf "words" "Room.words" (defArgs s_Room_words) (defBody s_Room_words) (defScope s_Room_words) .none kVm6 dcm6 pmm6 anm6 cdm6 ctm6), slm6⟩)
    (cm6 : PySem.W.codeIn K cdm6 "Room.words" = true)
    (km6 : PySem.W.keepIn K (.ref fm6) = true)
    (am7 : PySem.W.findIn K (.ref C) "__eq__" = some (some (.ref fm7)))
    (im7 : PySem.W.isFn K (.ref fm7) = true)
    (lm7 : K.lookup fm7 = some ⟨ocm7, odm7, .func (PySem.W.fnOf "__eq__" "Room.__eq__" (defArgs s_Room___eq__) (defBody s_Room___eq__) (defScope s_Room___eq__) .none kVm7 dcm7 pmm7 anm7 cdm7 ctm7), slm7⟩)
    (cm7 : PySem.W.codeIn K cdm7 "Room.__eq__" = true)
    (km7 : PySem.W.keepIn K (.ref fm7) = true)
    (am8 : PySem.W.findIn K (.ref C) "__repr__" = some (some (.ref fm8)))
    (im8 : PySem.W.isFn K (.ref fm8) = true)
    (lm8 : K.lookup fm8 = some ⟨ocm8, odm8, .func (PySem.W.fnOf "__repr__" "Room.__repr__" (defArgs s_Room___repr__) (defBody s_Room___repr__) (defScope s_Room___repr__) .none kVm8 dcm8 pmm8 anm8 cdm8 ctm8), slm8⟩)
    (cm8 : PySem.W.codeIn K cdm8 "Room.__repr__" = true)
    (km8 : PySem.W.keepIn K (.ref fm8) = true)
    (lT : K.lookup T = some ⟨oT, dT, .seq [Value.int 24 tT].toArray nT, sT⟩)
    (v_MOST_DIMENSION : PySem.W.nsIn K mainGlobals "MOST_DIMENSION" = some (some (.int 8 t_MOST_DIMENSION)))
    (v_MOST_PLACES : PySem.W.nsIn K mainGlobals "MOST_PLACES" = some (some (.int 24 t_MOST_PLACES)))
    (v_MOST_WORDS : PySem.W.nsIn K mainGlobals "MOST_WORDS" = some (some (.int 48 t_MOST_WORDS)))
    (z_abs : PySem.W.nsIn K mainGlobals "abs" = some none)
    (z_all : PySem.W.nsIn K mainGlobals "all" = some none)
    (z_bool : PySem.W.nsIn K mainGlobals "bool" = some none)
    (z_divmod : PySem.W.nsIn K mainGlobals "divmod" = some none)
    (z_enumerate : PySem.W.nsIn K mainGlobals "enumerate" = some none)
    (z_int : PySem.W.nsIn K mainGlobals "int" = some none)
    (z_isinstance : PySem.W.nsIn K mainGlobals "isinstance" = some none)
    (z_len : PySem.W.nsIn K mainGlobals "len" = some none)
    (z_list : PySem.W.nsIn K mainGlobals "list" = some none)
    (z_max : PySem.W.nsIn K mainGlobals "max" = some none)
    (z_range : PySem.W.nsIn K mainGlobals "range" = some none)
    (z_set : PySem.W.nsIn K mainGlobals "set" = some none)
    (z_sorted : PySem.W.nsIn K mainGlobals "sorted" = some none)
    (z_sum : PySem.W.nsIn K mainGlobals "sum" = some none)
    (z_tuple : PySem.W.nsIn K mainGlobals "tuple" = some none)
    (pg : PySem.W.plainGet K C Str.empty = true)
    (hd : PySem.W.hasDictIn K C = true)
    (po : PySem.W.plainOver K C = true)
    (sa : PySem.W.findIn K (.ref C) "__setattr__" = some (some (.builtin "object.__setattr__")))
    (mk : PySem.W.makesIn K C = true)
    (kc : PySem.W.keepIn K (.ref C) = true)
    (nP : PySem.W.findIn K (.ref C) "_places" = some none)
    (nB : PySem.W.findIn K (.ref C) "_basis" = some none)
    (ca : PySem.W.findIn K (.ref C) "__class__" = some (some (.builtin "object.__class__")))
    (cn : PySem.W.specialIn K (.builtin "object.__class__") "__get__" = some (some (.builtin "getset_descriptor.__get__")))
    (ct : PySem.W.takesIn K (.builtin "object.__class__") = some true)
    (cm : PySem.W.mroIn K C (.type "object") = some true)
    (ne : PySem.W.findIn K (.ref C) "__ne__" = some (some (.builtin "object.__ne__")))
    : ∃ fd : FuncData, (∀ (s : Shared) (v : Value), BindsTo s fd ⟨[v], []⟩ [("_law_script", v)]) ∧ ∀ base : Heap, K.In base → base.Ns mainGlobals mg → GnOk l.prog w K mg base 12 fa fd ["_law_script"] (sp_law K) := by
  have e := hfa.symm.trans (PySem.W.mg_of X G a36)
  cases e
  have F1 := fun_mk (st := s_is_integer) l1 c1 k1
  have b1 := F1.binds (ps := ["value"]) fun _ _ _ _ _ _ us hl => match us, hl with | [_], _ => rfl
  have g1 := PySem.W.mg_of X G a1
  have F2 := fun_mk (st := s_is_count) l2 c2 k2
  have b2 := F2.binds (ps := ["value"]) fun _ _ _ _ _ _ us hl => match us, hl with | [_], _ => rfl
  have g2 := PySem.W.mg_of X G a2
  have F3 := fun_mk (st := s_is_list) l3 c3 k3
  have b3 := F3.binds (ps := ["value"]) fun _ _ _ _ _ _ us hl => match us, hl with | [_], _ => rfl
  have g3 := PySem.W.mg_of X G a3
  have F4 := fun_mk (st := s_is_places) l4 c4 k4
  have b4 := F4.binds (ps := ["value"]) fun _ _ _ _ _ _ us hl => match us, hl with | [_], _ => rfl
  have g4 := PySem.W.mg_of X G a4
  have F5 := fun_mk (st := s_check_places) l5 c5 k5
  have b5 := F5.binds (ps := ["places"]) fun _ _ _ _ _ _ us hl => match us, hl with | [_], _ => rfl
  have g5 := PySem.W.mg_of X G a5
  have F6 := fun_mk (st := s_is_word) l6 c6 k6
  have b6 := F6.binds (ps := ["places", "value"]) fun _ _ _ _ _ _ us hl => match us, hl with | [_, _], _ => rfl
  have g6 := PySem.W.mg_of X G a6
  have F7 : FunD K "check_word" "check_word" (defArgs s_check_word) (defBody s_check_word) (defScope s_check_word) [.int 24] [] f7 _ := ⟨⟨_, _, _, _, _, _, _, _, _, _, rfl, l7, c7, .inr ⟨by simp, T, _, _, _, rfl, lT, rfl, .cons ⟨_, rfl⟩ .nil⟩, .inl rfl⟩, k7⟩
  obtain ⟨ds7, hv7, b7⟩ := F7.binds1 (ps := ["word", "places"]) 2 1 (by simp) rfl fun _ _ _ _ _ _ _ us its h1 h2 => match us, its, h1, h2 with | [_, _], [_], _, _ => ⟨_, rfl, rfl⟩
  obtain ⟨es7, hw7, c1b7⟩ := F7.binds1 (ps := ["word", "places"]) 1 0 (by simp) rfl fun _ _ _ _ _ _ _ us its h1 h2 => match us, its, h1, h2 with | [_], [_], _, _ => ⟨_, rfl, rfl⟩
  have g7 := PySem.W.mg_of X G a7
  have F8 := fun_mk (st := s_places_of) l8 c8 k8
  have b8 := F8.binds (ps := ["word"]) fun _ _ _ _ _ _ us hl => match us, hl with | [_], _ => rfl
  have g8 := PySem.W.mg_of X G a8
  have F9 := fun_mk (st := s_are_spots) l9 c9 k9
  have b9 := F9.binds (ps := ["places", "value"]) fun _ _ _ _ _ _ us hl => match us, hl with | [_, _], _ => rfl
  have g9 := PySem.W.mg_of X G a9
  have F10 := fun_mk (st := s_word_of) l10 c10 k10
  have b10 := F10.binds (ps := ["spots"]) fun _ _ _ _ _ _ us hl => match us, hl with | [_], _ => rfl
  have g10 := PySem.W.mg_of X G a10
  have F11 := fun_mk (st := s_highest) l11 c11 k11
  have b11 := F11.binds (ps := ["word"]) fun _ _ _ _ _ _ us hl => match us, hl with | [_], _ => rfl
  have g11 := PySem.W.mg_of X G a11
  have F12 := fun_mk (st := s_rest_of) l12 c12 k12
  have b12 := F12.binds (ps := ["word", "basis"]) fun _ _ _ _ _ _ us hl => match us, hl with | [_, _], _ => rfl
  have g12 := PySem.W.mg_of X G a12
  have F13 := fun_mk (st := s_put_in) l13 c13 k13
  have b13 := F13.binds (ps := ["rest", "basis"]) fun _ _ _ _ _ _ us hl => match us, hl with | [_, _], _ => rfl
  have g13 := PySem.W.mg_of X G a13
  have F14 := fun_mk (st := s_plain_basis) l14 c14 k14
  have b14 := F14.binds (ps := ["words"]) fun _ _ _ _ _ _ us hl => match us, hl with | [_], _ => rfl
  have g14 := PySem.W.mg_of X G a14
  have F15 := fun_mk (st := s_sums_of) l15 c15 k15
  have b15 := F15.binds (ps := ["basis"]) fun _ _ _ _ _ _ us hl => match us, hl with | [_], _ => rfl
  have g15 := PySem.W.mg_of X G a15
  have F16 := fun_mk (st := s_check_words) l16 c16 k16
  have b16 := F16.binds (ps := ["places", "words"]) fun _ _ _ _ _ _ us hl => match us, hl with | [_, _], _ => rfl
  have g16 := PySem.W.mg_of X G a16
  have F17 := fun_mk (st := s_check_room) l17 c17 k17
  have b17 := F17.binds (ps := ["room"]) fun _ _ _ _ _ _ us hl => match us, hl with | [_], _ => rfl
  have g17 := PySem.W.mg_of X G a17
  have F18 := fun_mk (st := s_lower_room) l18 c18 k18
  have b18 := F18.binds (ps := ["places", "doubled"]) fun _ _ _ _ _ _ us hl => match us, hl with | [_, _], _ => rfl
  have g18 := PySem.W.mg_of X G a18
  have F19 := fun_mk (st := s_shortened) l19 c19 k19
  have b19 := F19.binds (ps := ["room", "word"]) fun _ _ _ _ _ _ us hl => match us, hl with | [_, _], _ => rfl
  have g19 := PySem.W.mg_of X G a19
  have F20 := fun_mk (st := s_put_together) l20 c20 k20
  have b20 := F20.binds (ps := ["lots", "word"]) fun _ _ _ _ _ _ us hl => match us, hl with | [_, _], _ => rfl
  have g20 := PySem.W.mg_of X G a20
  have F21 := fun_mk (st := s_parts) l21 c21 k21
  have b21 := F21.binds (ps := ["room"]) fun _ _ _ _ _ _ us hl => match us, hl with | [_], _ => rfl
  have g21 := PySem.W.mg_of X G a21
  have F22 := fun_mk (st := s_told_by) l22 c22 k22
  have b22 := F22.binds (ps := ["word", "spots"]) fun _ _ _ _ _ _ us hl => match us, hl with | [_, _], _ => rfl
  have g22 := PySem.W.mg_of X G a22
  have F23 := fun_mk (st := s_part_room) l23 c23 k23
  have b23 := F23.binds (ps := ["room", "spots"]) fun _ _ _ _ _ _ us hl => match us, hl with | [_, _], _ => rfl
  have g23 := PySem.W.mg_of X G a23
  have F24 := fun_mk (st := s_law_pot) l24 c24 k24
  have b24 := F24.binds (ps := ["_law_script", "_law_k"]) fun _ _ _ _ _ _ us hl => match us, hl with | [_, _], _ => rfl
  have g24 := PySem.W.mg_of X G a24
  have F25 := fun_mk (st := s_law_draw) l25 c25 k25
  have b25 := F25.binds (ps := ["_law_pot_here", "_law_size"]) fun _ _ _ _ _ _ us hl => match us, hl with | [_, _], _ => rfl
  have g25 := PySem.W.mg_of X G a25
  have F26 := fun_mk (st := s_law_pick) l26 c26 k26
  have b26 := F26.binds (ps := ["_law_pot_here", "_law_some"]) fun _ _ _ _ _ _ us hl => match us, hl with | [_, _], _ => rfl
  have g26 := PySem.W.mg_of X G a26
  have F27 := fun_mk (st := s_law_word) l27 c27 k27
  have b27 := F27.binds (ps := ["_law_spots"]) fun _ _ _ _ _ _ us hl => match us, hl with | [_], _ => rfl
  have g27 := PySem.W.mg_of X G a27
  have F28 := fun_mk (st := s_law_span) l28 c28 k28
  have b28 := F28.binds (ps := ["_law_words"]) fun _ _ _ _ _ _ us hl => match us, hl with | [_], _ => rfl
  have g28 := PySem.W.mg_of X G a28
  have F29 := fun_mk (st := s_law_led) l29 c29 k29
  have b29 := F29.binds (ps := ["_law_word_here", "_law_sequence_here"]) fun _ _ _ _ _ _ us hl => match us, hl with | [_, _], _ => rfl
  have g29 := PySem.W.mg_of X G a29
  have F30 := fun_mk (st := s_law_sequence) l30 c30 k30
  have b30 := F30.binds (ps := ["_law_pot_here", "_law_places"]) fun _ _ _ _ _ _ us hl => match us, hl with | [_, _], _ => rfl
  have g30 := PySem.W.mg_of X G a30
  have F31 := fun_mk (st := s_law_pieces) l31 c31 k31
  have b31 := F31.binds (ps := []) fun _ _ _ _ _ _ us hl => match us, hl with | [], _ => rfl
  have g31 := PySem.W.mg_of X G a31
  have F32 := fun_mk (st := s_law_beside) l32 c32 k32
  have b32 := F32.binds (ps := ["_law_pot_here", "_law_names", "_law_most"]) fun _ _ _ _ _ _ us hl => match us, hl with | [_, _, _], _ => rfl
  have g32 := PySem.W.mg_of X G a32
  have F33 := fun_mk (st := s_law_room) l33 c33 k33
  have b33 := F33.binds (ps := ["_law_pot_here", "_law_names", "_law_most"]) fun _ _ _ _ _ _ us hl => match us, hl with | [_, _, _], _ => rfl
  have g33 := PySem.W.mg_of X G a33
  have F34 := fun_mk (st := s_law_part_words) l34 c34 k34
  have b34 := F34.binds (ps := ["_law_words", "_law_spots"]) fun _ _ _ _ _ _ us hl => match us, hl with | [_, _], _ => rfl
  have g34 := PySem.W.mg_of X G a34
  have F35 := fun_mk (st := s_law_right) l35 c35 k35
  have b35 := F35.binds (ps := ["_law_pot_here"]) fun _ _ _ _ _ _ us hl => match us, hl with | [_], _ => rfl
  have g35 := PySem.W.mg_of X G a35
  have F36 := fun_mk (st := s_law) l36 c36 k36
  have b36 := F36.binds (ps := ["_law_script"]) fun _ _ _ _ _ _ us hl => match us, hl with | [_], _ => rfl
  have g36 := PySem.W.mg_of X G a36
  have Fm1 := fun_mk (st := s_Room___init__) lm1 cm1 km1
  have bm1 := Fm1.binds (ps := ["self", "places", "words"]) fun _ _ _ _ _ _ us hl => match us, hl with | [_, _, _], _ => rfl
  have Fm2 := fun_mk (st := s_Room_places) lm2 cm2 km2
  have bm2 := Fm2.binds (ps := ["self"]) fun _ _ _ _ _ _ us hl => match us, hl with | [_], _ => rfl
  have Fm3 := fun_mk (st := s_Room_dimension) lm3 cm3 km3
  have bm3 := Fm3.binds (ps := ["self"]) fun _ _ _ _ _ _ us hl => match us, hl with | [_], _ => rfl
  have Fm4 := fun_mk (st := s_Room_basis) lm4 cm4 km4
  have bm4 := Fm4.binds (ps := ["self"]) fun _ _ _ _ _ _ us hl => match us, hl with | [_], _ => rfl
  have Fm5 := fun_mk (st := s_Room_has) lm5 cm5 km5
  have bm5 := Fm5.binds (ps := ["self", "word"]) fun _ _ _ _ _ _ us hl => match us, hl with | [_, _], _ => rfl
  have Fm6 := fun_mk (st := s_Room_words) lm6 cm6 km6
  have bm6 := Fm6.binds (ps := ["self"]) fun _ _ _ _ _ _ us hl => match us, hl with | [_], _ => rfl
  have Fm7 := fun_mk (st := s_Room___eq__) lm7 cm7 km7
  have bm7 := Fm7.binds (ps := ["self", "other"]) fun _ _ _ _ _ _ us hl => match us, hl with | [_, _], _ => rfl
  have Fm8 := fun_mk (st := s_Room___repr__) lm8 cm8 km8
  have bm8 := Fm8.binds (ps := ["self"]) fun _ _ _ _ _ _ us hl => match us, hl with | [_], _ => rfl
  have m_abs := PySem.W.mg_none_of X G z_abs
  have m_all := PySem.W.mg_none_of X G z_all
  have m_bool := PySem.W.mg_none_of X G z_bool
  have m_divmod := PySem.W.mg_none_of X G z_divmod
  have m_enumerate := PySem.W.mg_none_of X G z_enumerate
  have m_int := PySem.W.mg_none_of X G z_int
  have m_isinstance := PySem.W.mg_none_of X G z_isinstance
  have m_len := PySem.W.mg_none_of X G z_len
  have m_list := PySem.W.mg_none_of X G z_list
  have m_max := PySem.W.mg_none_of X G z_max
  have m_range := PySem.W.mg_none_of X G z_range
  have m_set := PySem.W.mg_none_of X G z_set
  have m_sorted := PySem.W.mg_none_of X G z_sorted
  have m_sum := PySem.W.mg_none_of X G z_sum
  have m_tuple := PySem.W.mg_none_of X G z_tuple
  have g_MOST_DIMENSION := PySem.W.mg_of X G v_MOST_DIMENSION
  have g_MOST_PLACES := PySem.W.mg_of X G v_MOST_PLACES
  have g_MOST_WORDS := PySem.W.mg_of X G v_MOST_WORDS
  have g_Room := PySem.W.mg_of X G aC
  have RK : RKn K C := ⟨⟨pg, hd, po, sa⟩, nP, nB, ca, cn, ct, cm⟩
  have n_basis : ∀ n b, (rf n b).lookup ("basis" : Str) = none := fun n b => rf_no n b (by decide +kernel) (by decide +kernel)
  have n_words : ∀ n b, (rf n b).lookup ("words" : Str) = none := fun n b => rf_no n b (by decide +kernel) (by decide +kernel)
  have n_has : ∀ n b, (rf n b).lookup ("has" : Str) = none := fun n b => rf_no n b (by decide +kernel) (by decide +kernel)
  refine ⟨PySem.W.fnOf "law" "law" (defArgs s_law) (defBody s_law) (defScope s_law) .none kV36 dc36 pm36 an36 cd36 ct36, fun s v => .of_eq rfl, fun base _ _ => ?_⟩
  have O_is_integer := ok_is_integer (P := l.prog) (w := w) (mg := mg) (base := base) F1 m_isinstance m_int m_bool
  have C_is_integer : Cal l.prog w K mg base "is_integer" 1 ["value"] [] sp_is_integer := ⟨f1, _, [], O_is_integer, g1, k1, b1, .nil⟩
  have O_is_count := ok_is_count (P := l.prog) (w := w) (mg := mg) (base := base) F2 C_is_integer
  have C_is_count : Cal l.prog w K mg base "is_count" 2 ["value"] [] sp_is_count := ⟨f2, _, [], O_is_count, g2, k2, b2, .nil⟩
  have O_is_list := ok_is_list (P := l.prog) (w := w) (mg := mg) (base := base) F3 m_isinstance m_list m_tuple
  have C_is_list : Cal l.prog w K mg base "is_list" 1 ["value"] [] sp_is_list := ⟨f3, _, [], O_is_list, g3, k3, b3, .nil⟩
  have O_is_places := ok_is_places (P := l.prog) (w := w) (mg := mg) (base := base) F4 C_is_integer g_MOST_PLACES
  have C_is_places : Cal l.prog w K mg base "is_places" 2 ["value"] [] sp_is_places := ⟨f4, _, [], O_is_places, g4, k4, b4, .nil⟩
  have O_check_places := ok_check_places (P := l.prog) (w := w) (mg := mg) (base := base) F5 C_is_places
  have C_check_places : Cal l.prog w K mg base "check_places" 3 ["places"] [] sp_check_places := ⟨f5, _, [], O_check_places, g5, k5, b5, .nil⟩
  have O_is_word := ok_is_word (P := l.prog) (w := w) (mg := mg) (base := base) F6 C_check_places C_is_count
  have C_is_word : Cal l.prog w K mg base "is_word" 4 ["places", "value"] [] sp_is_word := ⟨f6, _, [], O_is_word, g6, k6, b6, .nil⟩
  have O_check_word := ok_check_word (P := l.prog) (w := w) (mg := mg) (base := base) F7 C_is_word
  have C_check_word : Cal l.prog w K mg base "check_word" 5 ["word", "places"] [] sp_check_word := ⟨f7, _, ds7, O_check_word, g7, k7, b7, hv7⟩
  have C1_check_word : Cal l.prog w K mg base "check_word" 5 ["word", "places"] [.int 24] sp_check_word := ⟨f7, _, es7, O_check_word, g7, k7, c1b7, hw7⟩
  have O_places_of := ok_places_of (P := l.prog) (w := w) (mg := mg) (base := base) F8 C1_check_word g_MOST_PLACES m_range
  have C_places_of : Cal l.prog w K mg base "places_of" 6 ["word"] [] sp_places_of := ⟨f8, _, [], O_places_of, g8, k8, b8, .nil⟩
  have O_are_spots := ok_are_spots (P := l.prog) (w := w) (mg := mg) (base := base) F9 C_is_list C_is_count m_all m_len m_set
  have C_are_spots : Cal l.prog w K mg base "are_spots" 3 ["places", "value"] [] sp_are_spots := ⟨f9, _, [], O_are_spots, g9, k9, b9, .nil⟩
  have O_word_of := ok_word_of (P := l.prog) (w := w) (mg := mg) (base := base) F10 C_are_spots g_MOST_PLACES m_sum
  have C_word_of : Cal l.prog w K mg base "word_of" 4 ["spots"] [] sp_word_of := ⟨f10, _, [], O_word_of, g10, k10, b10, .nil⟩
  have O_highest := ok_highest (P := l.prog) (w := w) (mg := mg) (base := base) F11
  have C_highest : Cal l.prog w K mg base "highest" 1 ["word"] [] sp_highest := ⟨f11, _, [], O_highest, g11, k11, b11, .nil⟩
  have O_rest_of := ok_rest_of (P := l.prog) (w := w) (mg := mg) (base := base) F12 C_highest
  have C_rest_of : Cal l.prog w K mg base "rest_of" 2 ["word", "basis"] [] sp_rest_of := ⟨f12, _, [], O_rest_of, g12, k12, b12, .nil⟩
  have O_put_in := ok_put_in (P := l.prog) (w := w) (mg := mg) (base := base) F13 C_highest m_sorted
  have C_put_in : Cal l.prog w K mg base "put_in" 2 ["rest", "basis"] [] sp_put_in := ⟨f13, _, [], O_put_in, g13, k13, b13, .nil⟩
  have O_plain_basis := ok_plain_basis (P := l.prog) (w := w) (mg := mg) (base := base) F14 C_rest_of C_put_in
  have C_plain_basis : Cal l.prog w K mg base "plain_basis" 3 ["words"] [] sp_plain_basis := ⟨f14, _, [], O_plain_basis, g14, k14, b14, .nil⟩
  have O_sums_of := ok_sums_of (P := l.prog) (w := w) (mg := mg) (base := base) F15 m_sorted
  have C_sums_of : Cal l.prog w K mg base "sums_of" 1 ["basis"] [] sp_sums_of := ⟨f15, _, [], O_sums_of, g15, k15, b15, .nil⟩
  have O_check_words := ok_check_words (P := l.prog) (w := w) (mg := mg) (base := base) F16 C_is_list C_is_word g_MOST_WORDS m_len m_enumerate
  have C_check_words : Cal l.prog w K mg base "check_words" 5 ["places", "words"] [] sp_check_words := ⟨f16, _, [], O_check_words, g16, k16, b16, .nil⟩
  have O_init := ok_init (P := l.prog) (w := w) (mg := mg) (base := base) Fm1 RK C_check_places C_check_words C_plain_basis
  have MM : Mk K C fm1 := ⟨mk, am1, im1, kc⟩
  have MK_Room : MakC l.prog w K mg base C "Room" 6 ["self", "places", "words"] (sp_init C) := ⟨fm1, _, O_init, MM, g_Room, bm1⟩
  have O_places := ok_places (P := l.prog) (w := w) (mg := mg) (base := base) Fm2 RK
  have P_places : PrpC l.prog w K mg base C "places" 1 (sp_places C) := ⟨prm2, fm2, _, O_places, ⟨am2, gm2, um2, ⟨_, rm2⟩⟩, bm2, RK.cl⟩
  have O_dimension := ok_dimension (P := l.prog) (w := w) (mg := mg) (base := base) Fm3 RK m_len
  have P_dimension : PrpC l.prog w K mg base C "dimension" 1 (sp_dimension C) := ⟨prm3, fm3, _, O_dimension, ⟨am3, gm3, um3, ⟨_, rm3⟩⟩, bm3, RK.cl⟩
  have O_basis := ok_basis (P := l.prog) (w := w) (mg := mg) (base := base) Fm4 RK m_list
  have M_basis : MthC l.prog w K mg base C "basis" 1 ["self"] (sp_basis C) := ⟨fm4, _, O_basis, ⟨am4, im4, km4⟩, bm4, RK.cl⟩
  have O_has := ok_has (P := l.prog) (w := w) (mg := mg) (base := base) Fm5 RK C_check_word C_rest_of
  have M_has : MthC l.prog w K mg base C "has" 6 ["self", "word"] (sp_has C) := ⟨fm5, _, O_has, ⟨am5, im5, km5⟩, bm5, RK.cl⟩
  have O_words := ok_words (P := l.prog) (w := w) (mg := mg) (base := base) Fm6 RK C_sums_of g_MOST_DIMENSION m_len
  have M_words : MthC l.prog w K mg base C "words" 2 ["self"] (sp_words C) := ⟨fm6, _, O_words, ⟨am6, im6, km6⟩, bm6, RK.cl⟩
  have O_eq := ok_eq (P := l.prog) (w := w) (mg := mg) (base := base) Fm7 RK g_Room m_isinstance
  have EC_Room : EqC l.prog w K mg base C 1 (sp_eq K C) := ⟨fm7, _, O_eq, am7, im7, bm7, ne, cm⟩
  have O_repr := ok_repr (P := l.prog) (w := w) (mg := mg) (base := base) Fm8 RK
  have O_check_room := ok_check_room (P := l.prog) (w := w) (mg := mg) (base := base) F17 RK g_Room m_isinstance
  have C_check_room : Cal l.prog w K mg base "check_room" 1 ["room"] [] (sp_check_room C) := ⟨f17, _, [], O_check_room, g17, k17, b17, .nil⟩
  have O_lower_room := ok_lower_room (P := l.prog) (w := w) (mg := mg) (base := base) F18 C_plain_basis MK_Room
  have C_lower_room : Cal l.prog w K mg base "lower_room" 8 ["places", "doubled"] [] (sp_lower_room C) := ⟨f18, _, [], O_lower_room, g18, k18, b18, .nil⟩
  have O_shortened := ok_shortened (P := l.prog) (w := w) (mg := mg) (base := base) F19 C_check_room C_check_word C_lower_room M_basis P_places n_basis
  have C_shortened : Cal l.prog w K mg base "shortened" 9 ["room", "word"] [] (sp_shortened C) := ⟨f19, _, [], O_shortened, g19, k19, b19, .nil⟩
  have O_put_together := ok_put_together (P := l.prog) (w := w) (mg := mg) (base := base) F20 m_sum
  have C_put_together : Cal l.prog w K mg base "put_together" 1 ["lots", "word"] [] sp_put := ⟨f20, _, [], O_put_together, g20, k20, b20, .nil⟩
  have O_parts := ok_parts (P := l.prog) (w := w) (mg := mg) (base := base) F21 C_check_room C_places_of C_put_together M_basis P_places RK m_range m_sorted n_basis
  have C_parts : Cal l.prog w K mg base "parts" 7 ["room"] [] (sp_parts C) := ⟨f21, _, [], O_parts, g21, k21, b21, .nil⟩
  have O_told_by := ok_told_by (P := l.prog) (w := w) (mg := mg) (base := base) F22 m_enumerate m_sum
  have C_told_by : Cal l.prog w K mg base "told_by" 1 ["word", "spots"] [] sp_told_by := ⟨f22, _, [], O_told_by, g22, k22, b22, .nil⟩
  have O_part_room := ok_part_room (P := l.prog) (w := w) (mg := mg) (base := base) F23 C_are_spots C_check_room C_shortened C_told_by C_word_of MK_Room M_basis P_places m_len n_basis
  have C_part_room : Cal l.prog w K mg base "part_room" 10 ["room", "spots"] [] (sp_part_room C) := ⟨f23, _, [], O_part_room, g23, k23, b23, .nil⟩
  have K_part_room_spots_room : CalK l.prog w K mg base "part_room" 10 ["room", "spots"] ["spots", "room"] kw2 (sp_part_room C) := by
    exact ⟨f23, _, fun us ws => ws.reverse, O_part_room, g23, k23, ⟨fun s us ws X h1 h2 => match us, ws, h1, h2 with | [], [_, _], _, _ => .of_eq rfl, fun r1 r2 => vals_rev r2⟩⟩
  have O_law_pot := ok_law_pot (P := l.prog) (w := w) (mg := mg) (base := base) F24 m_len m_abs m_max m_int
  have C_law_pot : Cal l.prog w K mg base "_law_pot" 1 ["_law_script", "_law_k"] [] (sp_pot K) := ⟨f24, _, [], O_law_pot, g24, k24, b24, .nil⟩
  have O_law_draw := ok_law_draw (P := l.prog) (w := w) (mg := mg) (base := base) F25 m_divmod m_int
  have C_law_draw : Cal l.prog w K mg base "_law_draw" 1 ["_law_pot_here", "_law_size"] [] sp_draw := ⟨f25, _, [], O_law_draw, g25, k25, b25, .nil⟩
  have O_law_pick := ok_law_pick (P := l.prog) (w := w) (mg := mg) (base := base) F26 C_law_draw m_len
  have C_law_pick : Cal l.prog w K mg base "_law_pick" 2 ["_law_pot_here", "_law_some"] [] sp_pick71 := ⟨f26, _, [], O_law_pick, g26, k26, b26, .nil⟩
  have O_law_word := ok_law_word (P := l.prog) (w := w) (mg := mg) (base := base) F27 m_sum
  have C_law_word : Cal l.prog w K mg base "_law_word" 1 ["_law_spots"] [] sp_word71 := ⟨f27, _, [], O_law_word, g27, k27, b27, .nil⟩
  have O_law_span := ok_law_span (P := l.prog) (w := w) (mg := mg) (base := base) F28 m_sorted
  have C_law_span : Cal l.prog w K mg base "_law_span" 1 ["_law_words"] [] sp_nspanL := ⟨f28, _, [], O_law_span, g28, k28, b28, .nil⟩
  have O_law_led := ok_law_led (P := l.prog) (w := w) (mg := mg) (base := base) F29 C_law_word m_int m_len m_range
  have C_law_led : Cal l.prog w K mg base "_law_led" 2 ["_law_word_here", "_law_sequence_here"] [] sp_lledG := ⟨f29, _, [], O_law_led, g29, k29, b29, .nil⟩
  have O_law_sequence := ok_law_sequence (P := l.prog) (w := w) (mg := mg) (base := base) F30 C_law_draw m_len m_list m_range
  have C_law_sequence : Cal l.prog w K mg base "_law_sequence" 2 ["_law_pot_here", "_law_places"] [] sp_lseq := ⟨f30, _, [], O_law_sequence, g30, k30, b30, .nil⟩
  have O_law_pieces := ok_law_pieces (P := l.prog) (w := w) (mg := mg) (base := base) F31
  have C_law_pieces : Cal l.prog w K mg base "_law_pieces" 1 [] [] sp_pieces := ⟨f31, _, [], O_law_pieces, g31, k31, b31, .nil⟩
  have O_law_beside := ok_law_beside (P := l.prog) (w := w) (mg := mg) (base := base) F32 C_law_pick C_law_pieces m_range
  have C_law_beside : Cal l.prog w K mg base "_law_beside" 3 ["_law_pot_here", "_law_names", "_law_most"] [] sp_beside71 := ⟨f32, _, [], O_law_beside, g32, k32, b32, .nil⟩
  have O_law_room := ok_law_room (P := l.prog) (w := w) (mg := mg) (base := base) F33 C_law_beside C_law_led C_law_sequence m_sorted
  have C_law_room : Cal l.prog w K mg base "_law_room" 4 ["_law_pot_here", "_law_names", "_law_most"] [] sp_room71 := ⟨f33, _, [], O_law_room, g33, k33, b33, .nil⟩
  have O_law_part_words := ok_law_part_words (P := l.prog) (w := w) (mg := mg) (base := base) F34 C_law_word m_int m_len m_range m_sorted m_sum
  have C_law_part_words : Cal l.prog w K mg base "_law_part_words" 2 ["_law_words", "_law_spots"] [] sp_lpw72 := ⟨f34, _, [], O_law_part_words, g34, k34, b34, .nil⟩
  have O_law_right := ok_law_right (P := l.prog) (w := w) (mg := mg) (base := base) F35 C_law_draw C_law_led C_law_part_words C_law_room C_law_sequence C_law_span C_part_room C_parts EC_Room K_part_room_spots_room MK_Room M_basis P_dimension P_places RK m_len m_list m_range m_tuple n_basis
  have C_law_right : Cal l.prog w K mg base "_law_right" 11 ["_law_pot_here"] [] sp_right := ⟨f35, _, [], O_law_right, g35, k35, b35, .nil⟩
  exact ok_law F36 C_law_pot C_law_right
section
end
end K72
open PySem PySem.W PyProof.Rows
set_option Elab.async false
set_option maxRecDepth 100000 in
set_option maxHeartbeats 0 in
theorem PySem.Challenge.cw_owncontraries_k72_whole_part_rooms_holds : PySem.Challenge.rw_owncontraries_k72_whole_part_rooms.Holds := by
  w_on; o_law; k_head; (case hw => w_witness2)
  k_fill
  refine Vf.walk_gn (l := PySem.Challenge.rw_owncontraries_k72_whole_part_rooms) (n := 63) (k := 12) (x := "_law_script") (sp := fun w => (Vf.sp_law _)) rfl (by decide) rfl ⟨rfl, by decide, by decide⟩ (fun w h Y => PySem.W.kIn_of Y) ?F (fun _ _ a ns _ _ _ hS => ⟨a, ns, rfl, hS, fun _ => rfl⟩)
  case F =>
    intro w mg fa h KX G hmg
    refine' K72.all_mk KX G hmg ?aC ?a1 ?l1 ?c1 ?k1 ?a2 ?l2 ?c2 ?k2 ?a3 ?l3 ?c3 ?k3 ?a4 ?l4 ?c4 ?k4 ?a5 ?l5 ?c5 ?k5 ?a6 ?l6 ?c6 ?k6 ?a7 ?l7 ?c7 ?k7 ?a8 ?l8 ?c8 ?k8 ?a9 ?l9 ?c9 ?k9 ?a10 ?l10 ?c10 ?k10 ?a11 ?l11 ?c11 ?k11 ?a12 ?l12 ?c12 ?k12 ?a13 ?l13 ?c13 ?k13 ?a14 ?l14 ?c14 ?k14 ?a15 ?l15 ?c15 ?k15 ?a16 ?l16 ?c16 ?k16 ?a17 ?l17 ?c17 ?k17 ?a18 ?l18 ?c18 ?k18 ?a19 ?l19 ?c19 ?k19 ?a20 ?l20 ?c20 ?k20 ?a21 ?l21 ?c21 ?k21 ?a22 ?l22 ?c22 ?k22 ?a23 ?l23 ?c23 ?k23 ?a24 ?l24 ?c24 ?k24 ?a25 ?l25 ?c25 ?k25 ?a26 ?l26 ?c26 ?k26 ?a27 ?l27 ?c27 ?k27 ?a28 ?l28 ?c28 ?k28 ?a29 ?l29 ?c29 ?k29 ?a30 ?l30 ?c30 ?k30 ?a31 ?l31 ?c31 ?k31 ?a32 ?l32 ?c32 ?k32 ?a33 ?l33 ?c33 ?k33 ?a34 ?l34 ?c34 ?k34 ?a35 ?l35 ?c35 ?k35 ?a36 ?l36 ?c36 ?k36 ?am1 ?im1 ?lm1 ?cm1 ?km1 ?am2 ?gm2 ?um2 ?rm2 ?lm2 ?cm2 ?km2 ?am3 ?gm3 ?um3 ?rm3 ?lm3 ?cm3 ?km3 ?am4 ?im4 ?lm4 ?cm4 ?km4 ?am5 ?im5 ?lm5 ?cm5 ?km5 ?am6 ?im6 ?lm6 ?cm6 ?km6 ?am7 ?im7 ?lm7 ?cm7 ?km7 ?am8 ?im8 ?lm8 ?cm8 ?km8 ?lT ?v_MOST_DIMENSION ?v_MOST_PLACES ?v_MOST_WORDS ?z_abs ?z_all ?z_bool ?z_divmod ?z_enumerate ?z_int ?z_isinstance ?z_len ?z_list ?z_max ?z_range ?z_set ?z_sorted ?z_sum ?z_tuple ?pg ?hd ?po ?sa ?mk ?kc ?nP ?nB ?ca ?cn ?ct ?cm ?ne
    (case aC => k_is)
    (case a1 => k_is)
    (case l1 => k_is)
    (case c1 => k_is)
    (case k1 => k_is)
    (case a2 => k_is)
    (case l2 => k_is)
    (case c2 => k_is)
    (case k2 => k_is)
    (case a3 => k_is)
    (case l3 => k_is)
    (case c3 => k_is)
    (case k3 => k_is)
    (case a4 => k_is)
    (case l4 => k_is)
    (case c4 => k_is)
    (case k4 => k_is)
    (case a5 => k_is)
    (case l5 => k_is)
    (case c5 => k_is)
    (case k5 => k_is)
    (case a6 => k_is)
    (case l6 => k_is)
    (case c6 => k_is)
    (case k6 => k_is)
    (case a7 => k_is)
    (case l7 => k_is)
    (case c7 => k_is)
    (case k7 => k_is)
    (case a8 => k_is)
    (case l8 => k_is)
    (case c8 => k_is)
    (case k8 => k_is)
    (case a9 => k_is)
    (case l9 => k_is)
    (case c9 => k_is)
    (case k9 => k_is)
    (case a10 => k_is)
    (case l10 => k_is)
    (case c10 => k_is)
    (case k10 => k_is)
    (case a11 => k_is)
    (case l11 => k_is)
    (case c11 => k_is)
    (case k11 => k_is)
    (case a12 => k_is)
    (case l12 => k_is)
    (case c12 => k_is)
    (case k12 => k_is)
    (case a13 => k_is)
    (case l13 => k_is)
    (case c13 => k_is)
    (case k13 => k_is)
    (case a14 => k_is)
    (case l14 => k_is)
    (case c14 => k_is)
    (case k14 => k_is)
    (case a15 => k_is)
    (case l15 => k_is)
    (case c15 => k_is)
    (case k15 => k_is)
    (case a16 => k_is)
    (case l16 => k_is)
    (case c16 => k_is)
    (case k16 => k_is)
    (case a17 => k_is)
    (case l17 => k_is)
    (case c17 => k_is)
    (case k17 => k_is)
    (case a18 => k_is)
    (case l18 => k_is)
    (case c18 => k_is)
    (case k18 => k_is)
    (case a19 => k_is)
    (case l19 => k_is)
    (case c19 => k_is)
    (case k19 => k_is)
    (case a20 => k_is)
    (case l20 => k_is)
    (case c20 => k_is)
    (case k20 => k_is)
    (case a21 => k_is)
    (case l21 => k_is)
    (case c21 => k_is)
    (case k21 => k_is)
    (case a22 => k_is)
    (case l22 => k_is)
    (case c22 => k_is)
    (case k22 => k_is)
    (case a23 => k_is)
    (case l23 => k_is)
    (case c23 => k_is)
    (case k23 => k_is)
    (case a24 => k_is)
    (case l24 => k_is)
    (case c24 => k_is)
    (case k24 => k_is)
    (case a25 => k_is)
    (case l25 => k_is)
    (case c25 => k_is)
    (case k25 => k_is)
    (case a26 => k_is)
    (case l26 => k_is)
    (case c26 => k_is)
    (case k26 => k_is)
    (case a27 => k_is)
    (case l27 => k_is)
    (case c27 => k_is)
    (case k27 => k_is)
    (case a28 => k_is)
    (case l28 => k_is)
    (case c28 => k_is)
    (case k28 => k_is)
    (case a29 => k_is)
    (case l29 => k_is)
    (case c29 => k_is)
    (case k29 => k_is)
    (case a30 => k_is)
    (case l30 => k_is)
    (case c30 => k_is)
    (case k30 => k_is)
    (case a31 => k_is)
    (case l31 => k_is)
    (case c31 => k_is)
    (case k31 => k_is)
    (case a32 => k_is)
    (case l32 => k_is)
    (case c32 => k_is)
    (case k32 => k_is)
    (case a33 => k_is)
    (case l33 => k_is)
    (case c33 => k_is)
    (case k33 => k_is)
    (case a34 => k_is)
    (case l34 => k_is)
    (case c34 => k_is)
    (case k34 => k_is)
    (case a35 => k_is)
    (case l35 => k_is)
    (case c35 => k_is)
    (case k35 => k_is)
    (case a36 => k_is)
    (case l36 => k_is)
    (case c36 => k_is)
    (case k36 => k_is)
    (case am1 => k_is)
    (case im1 => k_is)
    (case lm1 => k_is)
    (case cm1 => k_is)
    (case km1 => k_is)
    (case am2 => k_is)
    (case gm2 => k_is)
    (case um2 => k_is)
    (case rm2 => k_is)
    (case lm2 => k_is)
    (case cm2 => k_is)
    (case km2 => k_is)
    (case am3 => k_is)
    (case gm3 => k_is)
    (case um3 => k_is)
    (case rm3 => k_is)
    (case lm3 => k_is)
    (case cm3 => k_is)
    (case km3 => k_is)
    (case am4 => k_is)
    (case im4 => k_is)
    (case lm4 => k_is)
    (case cm4 => k_is)
    (case km4 => k_is)
    (case am5 => k_is)
    (case im5 => k_is)
    (case lm5 => k_is)
    (case cm5 => k_is)
    (case km5 => k_is)
    (case am6 => k_is)
    (case im6 => k_is)
    (case lm6 => k_is)
    (case cm6 => k_is)
    (case km6 => k_is)
    (case am7 => k_is)
    (case im7 => k_is)
    (case lm7 => k_is)
    (case cm7 => k_is)
    (case km7 => k_is)
    (case am8 => k_is)
    (case im8 => k_is)
    (case lm8 => k_is)
    (case cm8 => k_is)
    (case km8 => k_is)
    (case lT => k_is)
    (case v_MOST_DIMENSION => k_is)
    (case v_MOST_PLACES => k_is)
    (case v_MOST_WORDS => k_is)
    (case z_abs => k_is)
    (case z_all => k_is)
    (case z_bool => k_is)
    (case z_divmod => k_is)
    (case z_enumerate => k_is)
    (case z_int => k_is)
    (case z_isinstance => k_is)
    (case z_len => k_is)
    (case z_list => k_is)
    (case z_max => k_is)
    (case z_range => k_is)
    (case z_set => k_is)
    (case z_sorted => k_is)
    (case z_sum => k_is)
    (case z_tuple => k_is)
    (case pg => k_is)
    (case hd => k_is)
    (case po => k_is)
    (case sa => k_is)
    (case mk => k_is)
    (case kc => k_is)
    (case nP => k_is)
    (case nB => k_is)
    (case ca => k_is)
    (case cn => k_is)
    (case ct => k_is)
    (case cm => k_is)
    (case ne => k_is)
