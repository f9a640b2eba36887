import PyProof.Rows.All
import Wide.All
import OpenK.AllK
import Wide.FinOn
import PyProof.ReprRoads
import HandS.ForExc
import HandS.ForMost
import HandS.Wide
import HandS.EndBits
import HandS.ExcInit
import HandS.ExcField
import HandS.ExcIs
import HandS.IsInst
import HandS.MakeKwOnly
import KE.KExcIs
import PyProof.StrLawsRepr
import HandS.Evl
import PySem.Challenge.RW_splicedfilms_k01_errors
set_option Elab.async false
set_option linter.all false
set_option maxRecDepth 100000
set_option maxHeartbeats 8000000
namespace Sf
open PySem PySem.Spec PyProof.Rows L2

/-! ### repr of data -/
mutual
theorem Dp.noDict {K : PySem.W.Frag} {H : Hp} : ∀ (d : PyData) (v : V), Dp K H v d → d.hasDict = false
  | .none, _, h => by simp only [PyData.hasDict]
  | .bool _, _, h => by simp only [PyData.hasDict]
  | .int _, _, h => by simp only [PyData.hasDict]
  | .str _, _, h => by simp only [PyData.hasDict]
  | .list ds, _, h => by
    cases h with
    | lst _ a => simp only [PyData.hasDict]; exact DpAll.noDict ds _ a
  | .tuple ds, _, h => by
    cases h with
    | tup _ a => simp only [PyData.hasDict]; exact DpAll.noDict ds _ a
  | .dict _, _, h => by cases h
theorem DpAll.noDict {K : PySem.W.Frag} {H : Hp} : ∀ (ds : List PyData) (vs : List V), DpAll K H vs ds → PyData.hasDictAll ds = false
  | [], _, h => by simp only [PyData.hasDictAll]
  | d :: ds, _, h => by
    cases h with
    | cons a b => simp only [PyData.hasDictAll, Dp.noDict d _ a, DpAll.noDict ds _ b, Bool.or_self]
end
def rRepr (K : PySem.W.Frag) : List V → Hp → VK → Prop := fun xs H Q =>
  ∃ x d, xs = [x] ∧ Dp K H x d ∧ d.showable = true ∧ d.shown.length ≤ sizeLine ∧ d.depth ≤ 60 ∧ Q (.str d.shown) H
theorem call_repr {X : Cx} (hg : X.A.guards = some []) (hu : X.A.units + 64 < cLine) : CallR X (.builtin "repr") (rRepr X.K) := by
  intro pins s σ H xs us Q I r h
  obtain ⟨x, d, rfl, hd, hs, hz, hdep, q⟩ := h
  obtain ⟨u, rfl, ru⟩ := vals1 r
  obtain ⟨as, rd⟩ := Dp.reads I d x u hd ru
  have nd := Dp.noDict d x hd
  cases rd with
  | none => simp only [PyData.shown] at q; exact PySem.P.repr_of_none ⟨.str _, H, I.tok _, ⟨_, rfl⟩, q⟩
  | bool b => simp only [PyData.shown] at q; exact PySem.P.repr_of_bool ⟨.str _, H, I.tok _, ⟨_, rfl⟩, q⟩
  | int i t => simp only [PyData.shown] at q; exact PySem.P.repr_of_int (by simpa [PyData.showable] using hs) ⟨.str _, H, I.tok _, ⟨_, rfl⟩, q⟩
  | str y t => simp only [PyData.shown] at q hz; exact PySem.P.repr_of_str ⟨.str _, H, I.tok _, ⟨_, rfl⟩, q⟩ hz
  | list h1 h2 h3 h4 =>
    exact repr_of_reads' (.list h1 h2 h3 h4) hs (fun z => by rw [nd] at z; cases z) hg (by omega) (fun _ _ e => e)
      (fun h' u tk k => ⟨.str _, H, I.kept (t' := tk) k, ⟨_, rfl⟩, q⟩) hz
  | tuple h1 h2 h3 h4 =>
    exact repr_of_reads' (.tuple h1 h2 h3 h4) hs (fun z => by rw [nd] at z; cases z) hg (by omega) (fun _ _ e => e)
      (fun h' u tk k => ⟨.str _, H, I.kept (t' := tk) k, ⟨_, rfl⟩, q⟩) hz
  | dict h1 h2 h3 h4 h5 => cases hd

/-! ### defs that run where no repr is under way -/
/-- FnOk's like, for stacks without a guard; nothing is let out -/
structure Gd (P : Program) (w : World) (K : PySem.W.Frag) (mg : Str → Option Value) (base : Heap) (k : Nat) (f : Addr) (fd : FuncData) (ps : List Str) (sp : Sp) : Prop where
  size : ∀ vs H Q E, sp vs H Q E → vs.length = ps.length
  go : ∀ (A : Around) (outer : List Env) (s : Shared) (H : Hp) (args : Args) (us : List Value) (vs : List V) (Q : VK) (E : XK), A.guards = some [] → Room k A →
    Env0 P w K mg base A outer s H → BindsTo s fd args (ps.zip us) → Vals vs us → sp vs H Q E → codeAny (model P w) A (.call (.ref f) args) (CR CX0 outer P w H s Q E) s
section
variable {P : Program} {w : World} {K : PySem.W.Frag} {mg : Str → Option Value} {base : Heap}
theorem gd_of {k : Nat} {f : Addr} {fd : FuncData} {ps : List Str} {sp : Sp} (F : FnOk P w K mg base CX0 k f fd ps sp) : Gd P w K mg base k f fd ps sp :=
  ⟨F.len, fun A outer s H args us vs Q E _ hr => F.run A outer s H args us vs Q E hr⟩
theorem gd_mono {j k : Nat} {f : Addr} {fd : FuncData} {ps : List Str} {sp : Sp} (F : Gd P w K mg base j f fd ps sp) (h : j ≤ k) : Gd P w K mg base k f fd ps sp :=
  ⟨F.size, fun A outer s H args us vs Q E hg hr => F.go A outer s H args us vs Q E hg (hr.mono h)⟩
theorem okG {x qual : Str} {st : Stmt} {f : Addr} {fd : FuncData} {N ps : List Str} {k : Nat} {sp : Sp} (F : Fun K x qual st f fd) (S : FnScope N ps (defScope st)) (len : ∀ vs H Q E, sp vs H Q E → vs.length = ps.length)
    (body : ∀ (cdv : Value) (A : Around) (outer : List Env) (s : Shared) (H : Hp) (vs : List V) (Q : VK) (E : XK), (A.deeper (envOfC qual (defScope st) s.heap.objs.size f cdv)).guards = some [] →
      Room k (A.deeper (envOfC qual (defScope st) s.heap.objs.size f cdv)) → sp vs H Q E →
      ∃ t, PSs (cxOf CX0 P w K mg base N qual (defScope st) f cdv A outer s H E).nox (defBody st) t ∧ t { nx := fun _ H' => Q .non H', rt := Q } (start N vs) H) : Gd P w K mg base (k + 1) f fd ps sp := by
  obtain ⟨oc, od, kV, doc, pm, an, cdv, ct, osl, e, lk, hcd⟩ := F.ex
  subst e
  refine ⟨len, ?_⟩
  intro A outer s H args us vs Q E hg hr e0 hb r hsp
  have size := len _ _ _ _ hsp
  have old : ∀ b o, base.get? b = some o → s.heap.get? b = some o := fun b o z => (e0.bs b o z).1
  have KX : K.In s.heap := e0.mod.kin.keeps old
  have kinds : ∀ y ∈ ps.zip us, (defScope st).names.lookup y.1 = some .local ∨ ((defScope st).names.lookup y.1 = some .cell ∧ ((cellsFrom (s.heap.objs.size + 1) (defScope st).names []).lookup y.1).isSome = true) := by
    intro y hy
    obtain ⟨n, v⟩ := y
    cases S.par n (List.of_mem_zip hy).1 with
    | inl q => exact .inl q
    | inr q => exact .inr ⟨q, PySem.W.cellsFrom_some _ _ _ (.inl q)⟩
  apply codeAny_call_function hr.depth (KX _ _ lk) rfl S.co S.gen rfl (PySem.W.codeRec_of KX hcd)
  apply hb
  apply wpAny_newFunctionEnv_cells S.kind kinds
  intro env he s1 x
  subst he
  refine ⟨(e0.mod.nolimit.keeps old).keeps x.toInCall.keep, codeAny_func ?_⟩
  obtain ⟨t, ht, hq⟩ := body cdv A outer s H vs Q E (by exact hg) (hr.deeper _) hsp
  have I := inv_start (CX := CX0) (f := f) (cd := cdv) (qual := qual) (outer := outer) (E := E) S hr.hd e0 size r x
  apply wpAny_mono (ht.nox.run [] s1 (start N vs) H _ I hq)
  · intro fl s' hs
    cases fl with
    | ret u => exact let ⟨v, _, H', J, rv, q⟩ := hs; ⟨v, H', J.os, J.bare, J.base, J.hok, rv, q⟩
    | next => exact let ⟨_, H', J, q⟩ := hs; ⟨V.non, H', J.os, J.bare, J.base, J.hok, rfl, q⟩
    | brk => exact let ⟨_, _, _, q⟩ := hs; q.elim
    | cont => exact let ⟨_, _, _, q⟩ := hs; q.elim
  · exact fun _ _ z => z
end
section
variable {X : Cx} {k : Nat} {f : Addr} {fd : FuncData} {ps : List Str} {sp : Sp} {x : Str} {p pos : Pos} {e : Expr} {es : List Expr} {t : TA}
/-- the call of such a def -/
theorem pe_callG (hG : X.A.guards = some []) (F : Gd X.prog X.w X.K X.mg X.base k f fd ps sp) (hr : Room k X.A) (hg : Gl X x) (hm : X.mg x = some (.ref f)) (hk : PySem.W.keepIn X.K (.ref f) = true) (hb : Binds X.K fd ps [])
    (ha : PA X (e :: es) t) (hdb : (x == ("__debug__" : Str)) = false := by decide) (he : starEach (e :: es) X.env = (false, eval e X.env) :: starEach es X.env := by rfl) (hpl : (backTo pos (starEach es X.env)).any (·.1) = false := by rfl) :
    PE X (.Call (.Name x p) (e :: es) [] pos) (tCall sp [] E0 t) := by
  constructor
  intro pins s σ H Q I h
  apply wpAny_Call_Name_kw (ld_glob I hg hm ?_ hdb)
  apply PySem.W.callWith_K (h₀ := X.base) I.ok.mod.kin hk (thn (ha.run pos pins s σ H _ I h) ?_) he hpl
  rintro us s1 ⟨vs, H1, I1, r, q⟩
  refine ⟨I1.kIn, ?_⟩
  rw [List.append_nil] at q
  have l := F.size _ _ _ _ q
  have b := hb s1 us I1.kIn (by rw [List.append_nil, ← r.length]; exact l)
  rw [List.append_nil] at b
  apply wpAny_call
  apply codeAny_mono (F.go X.A X.stack s1 H1 ⟨us, []⟩ us vs Q E0 hG hr I1.env0 b r q)
  intro res s' hq
  cases res with
  | error er => exact False.elim hq
  | ok fl =>
    cases fl with
    | ret u => exact I1.after hq
    | next => exact hq.elim
    | brk => exact hq.elim
    | cont => exact hq.elim
end

/-! ### the end of a law whose def runs where no repr is under way -/
/-- the law's call, over an abstract heap that tracks the script alone -/
theorem law_at {P : Program} {w : World} {K : PySem.W.Frag} {mg mb : Str → Option Value} {k : Nat} {fa a : Addr} {fd : FuncData} {x : Str} {sp : Sp} {s₁ : Shared} {vs : List Value} (H : Hp)
    (KX : K.In s₁.heap) (gl : s₁.heap.Ns mainGlobals mg) (hb : s₁.heap.Ns builtinsNs mb) (hbb : ∀ x : Str, x ≠ "__name__" → mb x = bootBuiltins x) (hlim : s₁.heap.NoLimit) (hg : s₁.gens = #[])
    (ha : s₁.heap.get? a = some { cls := .type "list", data := .seq vs.toArray }) (hr : Room k callerA)
    (F : ∀ base : Heap, K.In base → base.Ns mainGlobals mg → Gd P w K mg base k fa fd [x] sp) (hbind : ∀ (s : Shared) (u : Value), BindsTo s fd ⟨[u], []⟩ [(x, u)])
    (only : Only H) (lone : ∀ b u, H b = some u → b = a ∧ K.lookup a = none) (hok : HOk P w H s₁.heap) (hsp : sp [.ref a] H (fun v _ => v = .bl true) E0) :
    codeAny (model P w) callerA (.call (.ref fa) ⟨[.ref a], []⟩) (fun r s' => r = .ok (.ret (.bool true)) ∧ OldK s₁.heap s'.heap ∧ s'.os = s₁.os ∧ AllBare s'.gens) s₁ := by
  have isK : ∀ b o, K.lookup b = some o → H b = none := by
    intro b o e
    cases q : H b with
    | none => rfl
    | some u =>
      obtain ⟨z, n⟩ := lone b u q
      rw [z, n] at e
      cases e
  have isD : ∀ b o es ep, s₁.heap.get? b = some o → o.data = .dict es ep → H b = none := by
    intro b o es ep e d
    cases q : H b with
    | none => rfl
    | some u =>
      rw [(lone b u q).1, ha] at e
      cases e
      cases d
  have ns : ∀ {b : Addr} {m : Str → Option Value}, s₁.heap.Ns b m → (hidT s₁.heap H).Ns b m := by
    rintro b m ⟨o, es, ep, e, d, r⟩
    exact ⟨o, es, ep, hidT_get e (isD b o es ep e d), d, r⟩
  have kin : K.In (hidT s₁.heap H) := fun b o e => hidT_get (KX b o e) (isK b o e)
  obtain ⟨mc, l1, l2⟩ := hlim
  have e0 : Env0 P w K mg (hidT s₁.heap H) callerA [] s₁ H := {
    frames := rfl
    mod := ⟨kin, ns gl, ⟨mb, ns hb, hbb⟩, ⟨mc, ns l1, l2⟩⟩
    bs := fun b o e => of_hidT e
    bsz := Nat.le_of_eq (hidT_size _ _)
    funs := trivial
    frf := fun b z => (List.not_mem_nil z).elim
    hok := hok
    bare := .of_eq hg }
  have run := (F _ kin (ns gl)).go callerA [] s₁ H ⟨[.ref a], []⟩ [.ref a] [.ref a] _ _ rfl hr e0 (hbind s₁ (.ref a)) (.cons rfl .nil) hsp
  apply codeAny_mono run
  intro r s' h
  cases r with
  | error er => exact h.elim
  | ok fl =>
    cases fl with
    | next => exact h.elim
    | brk => exact h.elim
    | cont => exact h.elim
    | ret u =>
      obtain ⟨v, H', os, bare, un, hok', r', q⟩ := h
      have q : v = V.bl true := q
      subst q
      have r' : u = Value.bool true := r'
      subst r'
      refine ⟨rfl, OldK.of_keep ?_, os, bare⟩
      intro b o e
      cases q : H b with
      | none => exact un.keep b o e q (List.not_mem_nil) (List.not_mem_nil)
      | some u =>
        rcases only b with z | ⟨ob, xs, z⟩
        · rw [q] at z
          cases z
        · have z2 := (hok' b _ (un.frzs b ob _ z)).1
          rw [(hok b _ z).1] at e
          cases e
          exact z2
theorem law_any {P : Program} {w : World} {K : PySem.W.Frag} {mg mb : Str → Option Value} {k : Nat} {fa a : Addr} {fd : FuncData} {x : Str} {sp : Sp} {s₁ : Shared} {vs : List Value} {ns : List Int}
    (KX : K.In s₁.heap) (gl : s₁.heap.Ns mainGlobals mg) (hb : s₁.heap.Ns builtinsNs mb) (hbb : ∀ x : Str, x ≠ "__name__" → mb x = bootBuiltins x) (hlim : s₁.heap.NoLimit) (hg : s₁.gens = #[])
    (ha : s₁.heap.get? a = some { cls := .type "list", data := .seq vs.toArray }) (hi : IntsAre vs ns) (hl : ns.length ≤ sizeLine) (hr : Room k callerA)
    (F : ∀ base : Heap, K.In base → base.Ns mainGlobals mg → Gd P w K mg base k fa fd [x] sp) (hbind : ∀ (s : Shared) (u : Value), BindsTo s fd ⟨[u], []⟩ [(x, u)])
    (hsp : ∀ H : Hp, Only H → SqL K H a (ns.map V.int) → sp [.ref a] H (fun v _ => v = .bl true) E0) :
    codeAny (model P w) callerA (.call (.ref fa) ⟨[.ref a], []⟩) (fun r s' => r = .ok (.ret (.bool true)) ∧ OldK s₁.heap s'.heap ∧ s'.os = s₁.os ∧ AllBare s'.gens) s₁ := by
  have rv := vals_ints hi
  have len : vs.length = ns.length := hi.length
  cases hk : K.lookup a with
  | some o =>
    have e := KX a o hk
    rw [ha] at e
    cases e
    have sq : SqL K (fun _ => none) a (ns.map V.int) := .inr ⟨_, vs.toArray, _, hk, rfl, rfl, rfl, by rw [List.size_toArray, len]; exact hl, by simpa using rv⟩
    exact law_at (fun _ => none) KX gl hb hbb hlim hg ha hr F hbind (fun _ => .inl rfl) (fun _ _ z => by cases z) (fun b u z => by cases z) (hsp _ (fun _ => .inl rfl) sq)
  | none =>
    let frozen : HO := .frz { cls := .type "list", data := .seq vs.toArray } (.lst (ns.map V.int))
    let H : Hp := fun b => if b = a then some frozen else none
    have at_a : H a = some frozen := if_pos rfl
    have none_else : ∀ b, b ≠ a → H b = none := fun b n => if_neg n
    have one : ∀ b u, H b = some u → b = a ∧ u = frozen := by
      intro b u z
      by_cases n : b = a
      · subst n
        rw [at_a] at z
        exact ⟨rfl, (Option.some.inj z).symm⟩
      · rw [none_else b n] at z
        cases z
    have only : Only H := by
      intro b
      by_cases n : b = a
      · subst n
        exact .inr ⟨_, _, at_a⟩
      · exact .inl (none_else b n)
    refine law_at H KX gl hb hbb hlim hg ha hr F hbind only (fun b u z => ⟨(one b u z).1, hk⟩) ?_ (hsp H only (.inl (.inr ⟨_, at_a⟩)))
    intro b u z
    obtain ⟨e1, e2⟩ := one b u z
    subst e1 e2
    exact ⟨ha, by rw [List.length_map]; exact hl, vs, _, rv, ha⟩
theorem walkG {l : PySem.W.OpenLaw} {n k : Nat} {q : Program} {loose : List Str} {XP : (Str → Option Value) → Heap → Prop} {YP : World → Heap → Prop} {d : DefRec} {K : Params → PySem.W.Frag} {sp : PySem.W.Frag → Sp} {x : Str}
    (hn : l.most = some n) (hn2 : n ≤ sizeLine) (hdf : d.params.defaults = []) (hr : Room k callerA) (hY : ∀ (w : World) (h : Heap), YP w h → (K w.params).In h)
    (F : ∀ (w : World) (mg : Str → Option Value) (fa : Addr) (h : Heap), (K w.params).In h → h.Ns mainGlobals mg → mg d.name = some (.ref fa) →
      ∃ fd : FuncData, (∀ (s : Shared) (u : Value), BindsTo s fd ⟨[u], []⟩ [(x, u)]) ∧ ∀ base : Heap, (K w.params).In base → base.Ns mainGlobals mg → Gd l.prog w (K w.params) mg base k fa fd [x] (sp (K w.params)))
    (hsp : ∀ (K : PySem.W.Frag) (H : Hp) (a : Addr) (ns : List Int), ns.length ≤ n → (∀ z ∈ ns, Builtin.Int.intBits z ≤ 1048576) → SqL K H a (ns.map V.int) → sp K [.ref a] H (fun v _ => v = .bl true) E0) :
    PySem.W.WalkO q loose XP YP l.row.toRowW d [] (fun f vs => PySem.call f vs) := by
  apply Att.attach_callB hn hdf
  intro w s₀ s₁ mg mb fa o pm cd doc a vs ns G Y ho hd hcd hmg hobj hints hlen hbits hg
  have KX := hY w _ Y
  obtain ⟨fd, hb, hF⟩ := F w mg fa _ KX G.T.g hmg
  exact law_any KX G.T.g G.T.b G.T.builtins G.T.nolimit hg hobj hints (Nat.le_trans hlen hn2) hr hF hb fun H _ hS => hsp _ H a ns hlen hbits hS
end Sf

namespace Sf
open PySem PySem.Spec PyProof.Rows L2
/-! ### numbers of any size -/
def CMulX (i j : Int) : Prop := Builtin.Int.intBits i + Builtin.Int.intBits j ≤ 100000000
def CPowX (i j : Int) : Prop := 0 ≤ j ∧ (Builtin.Int.intBits i : Int) * j ≤ 100000000
section
variable {X : Cx}
theorem op_mulX : OpR X (binaryOp .Mult) (rI CMulX fun i j => .int (i * j)) := opI fun i j _ _ _ _ _ hc q => mul_int q (by
  unfold IntMulOk
  intro z
  rw [Bool.and_eq_true] at z
  have z2 := z.2
  unfold Builtin.Int.intTooBig at z2
  have z3 := of_decide_eq_true z2
  have e : bitsLine = 134217728 := by decide
  have hc' : Builtin.Int.intBits i + Builtin.Int.intBits j ≤ 100000000 := hc
  rw [e] at z3
  omega)
theorem op_powX : OpR X (binaryOp .Pow) (rI CPowX fun i j => .int (i ^ j.toNat)) := opI fun i j _ _ _ _ _ hc q => pow_int hc.1 (by
  exact Int.le_trans hc.2 (by decide)) q
end

theorem bits_le {x : Int} {n : Nat} (h : x.natAbs < 2 ^ n) : Builtin.Int.intBits x ≤ n := by
  unfold Builtin.Int.intBits
  split
  · exact Nat.zero_le _
  · rename_i hx
    have x0 : x.natAbs ≠ 0 := fun z => hx (by rw [Int.natAbs_eq_zero.mp z]; rfl)
    have := (Nat.log2_lt x0).mpr h
    omega
theorem bits_in {x : Int} {n : Nat} (h0 : 0 ≤ x) (h : x < 2 ^ n) : Builtin.Int.intBits x ≤ n := by
  apply bits_le
  have e : (x.natAbs : Int) = x := Int.natAbs_of_nonneg h0
  have e2 : ((2 ^ n : Nat) : Int) = 2 ^ n := by simp
  omega
theorem pow_ok {x j : Int} {n : Nat} (h0 : 0 ≤ x) (h : x < 2 ^ n) (hj : 0 ≤ j) (hn : (n : Int) * j ≤ 100000000) : (Builtin.Int.intBits x : Int) * j ≤ 100000000 :=
  Int.le_trans (Int.mul_le_mul_of_nonneg_right (by have := bits_in h0 h; omega) hj) hn

/-! ### where draws come from: three numbers in a list -/
/-- at a the sack, behind at most n draws -/
def Sk (n : Nat) (H : Hp) (a : Addr) : Prop := ∃ p q r : Int, H a = some (.lst [.int p, .int q, .int r]) ∧ 0 ≤ q ∧ q < 2 ^ 90 ∧ 0 ≤ r ∧ r ≤ n
/-- all but what stands at a is as it was -/
def Kp (a : Addr) (H H' : Hp) : Prop := ∀ b o, b ≠ a → H b = some o → H' b = some o
theorem Kp.refl (a : Addr) (H : Hp) : Kp a H H := fun _ _ _ h => h
theorem Kp.trans {a : Addr} {H H1 H2 : Hp} (x : Kp a H H1) (y : Kp a H1 H2) : Kp a H H2 := fun b o n h => y b o n (x b o n h)
theorem Sk.mono {n m : Nat} {H : Hp} {a : Addr} (h : Sk n H a) (l : n ≤ m) : Sk m H a := by
  obtain ⟨p, q, r, e, h1, h2, h3, h4⟩ := h
  exact ⟨p, q, r, e, h1, h2, h3, by omega⟩
def spCoin : Sp := fun vs H Q _ => ∃ (a : Addr) (n : Nat) (m : Int), vs = [.ref a, .int m] ∧ Sk n H a ∧ n ≤ 1000000000 ∧ 0 < m ∧ m < 2 ^ 200 ∧
  ∀ z H', 0 ≤ z → z < m → Sk (n + 1) H' a → Kp a H H' → Q (.int z) H'
/-- a def that can be called: its promise, how its arguments bind -/
structure Cal (P : Program) (w : World) (K : PySem.W.Frag) (mg : Str → Option Value) (base : Heap) (k : Nat) (f : Addr) (fd : FuncData) (ps : List Str) (sp : Sp) : Prop where
  ok : FnOk P w K mg base CX0 k f fd ps sp
  binds : Binds K fd ps []
structure CalG (P : Program) (w : World) (K : PySem.W.Frag) (mg : Str → Option Value) (base : Heap) (k : Nat) (f : Addr) (fd : FuncData) (ps : List Str) (sp : Sp) : Prop where
  go : Gd P w K mg base k f fd ps sp
  binds : Binds K fd ps []
end Sf

namespace Sf
open PySem PySem.Spec PySem.Calls L2 PySem.HandSPX
/-! ### an own error class called with a keyword -/
section
variable {prog : Program} {w : World} {A : Around} {E : Value → Shared → Prop} {R : Result → Shared → Prop} {h : Heap} {g : Array GenState} {d : Drawn} {t : Nat} {os : OsState}
variable {nm q : Str} {C N : Addr} {bs bm bmB : List Value} {hdct : Bool} {sn : List Str} {sub : List Value} {ab : Bool} {col : Option Bool} {dd : Option Addr} {k0 k1 k2 k3 k5 : Option Value} {B newId initId : String}
theorem newK (F : ExcBaseFacts B newId initId bmB) (hT : ∀ Y : String, bm.contains (.type Y) = bmB.contains (.type Y)) {kw : List (Str × Value)}
    (hC : h.get? C = some (excClassObj nm q C N bs bm hdct sn sub ab col dd k0 k1 k2 k3 k5 newId))
    (hq : R (.ok (.ret (.ref (h.objs.size + 1)))) ⟨(h.push (W.kdv_tup [])).push (excO C h.objs.size), g, d, t, os⟩) :
    codeAny (model prog w) A (.builtin newId ⟨[.ref C], kw⟩) R ⟨h, g, d, t, os⟩ := by
  have ends := F.ends
  have isB : (Value.ref C :: bm).contains (.type B) = true := by rw [List.contains_cons, hT, F.hasB, Bool.or_true]
  have noA : (Value.ref C :: bm).contains (.type "AttributeError") = false := by rw [List.contains_cons, hT, F.noAttr]; rfl
  have noN : (Value.ref C :: bm).contains (.type "NameError") = false := by rw [List.contains_cons, hT, F.noName]; rfl
  apply codeAny_builtinAt F.entry
  unfold Builtin.«BaseException.__new__»
  apply wpAt_bind
  show wpAt _ _ _ (stack >>= _) _ _ _
  refine wpAt_bind (wpAt_stack fun _ _ => wpAt_of_wpAny ?_)
  wp_walk
  apply wpAt_of_wpAny
  rw [F.owner]
  repeat (first | with_reducible refine wpAny_madeHere_exc F.canon hC ?_ | with_reducible refine wpAny_loadPart_at hC ?_ | (with_reducible refine wpAny_isSubtype_exc hC ?_; (first | rw [isB] | rw [noA] | rw [noN])) | wp_step)
  show R _ _
  rw [Heap.size_push]
  exact hq
theorem checkK (F : ExcBaseFacts B newId initId bmB) (hT : ∀ Y : String, bm.contains (.type Y) = bmB.contains (.type Y)) {kw : List (Str × Value)} {M : Model} {Q : Unit → Shared → Prop}
    (hC : h.get? C = some (excClassObj nm q C N bs bm hdct sn sub ab col dd k0 k1 k2 k3 k5 newId)) (hq : Q () ⟨h, g, d, t, os⟩) : wpAny M A (checkBuiltinCall newId ⟨[.ref C], kw⟩) Q E ⟨h, g, d, t, os⟩ := by
  have isB : (Value.ref C :: bm).contains (.type B) = true := by rw [List.contains_cons, hT, F.hasB, Bool.or_true]
  have star := F.noStar
  simp only [checkBuiltinCall, F.newKind, F.newSplit, F.newRow]
  repeat (first | refine wpAny_loadPart_at hC ?_ | (refine wpAny_isSubtype_exc hC ?_; rw [isB]) | refine wpAny_staticBase_exc hC ?_ | refine wpAny_madeBy_exc hC ?_ | (simp only [bne_self_eq_false, Bool.false_eq_true, if_false]) | wp_step)
  exact hq
theorem checkTK {M : Model} {kw : List (Str × Value)} {Q : Unit → Shared → Prop} (hC : h.get? C = some (excClassObj nm q C N bs bm hdct sn sub ab col dd k0 k1 k2 k3 k5 newId))
    (hq : Q () ⟨h, g, d, t, os⟩) : wpAny M A (checkBuiltinCall "type.__call__" ⟨[.ref C], kw⟩) Q E ⟨h, g, d, t, os⟩ := by
  have ts := tc_sub
  have ty : (⟨h, g, d, t, os⟩ : Shared).TypeIs (.ref C) "type" := ⟨_, hC, rfl⟩
  simp only [checkBuiltinCall, tc_kind, tc_split]
  repeat (any_goals (first | assumption | with_reducible refine wpAny_loadPart_at hC ?_ | with_reducible refine wpAny_onRaise ?_ | with_reducible refine wpAny_map ?_ | wp_step))
theorem typeK (F : ExcBaseFacts B newId initId bmB) (hT : ∀ Y : String, bm.contains (.type Y) = bmB.contains (.type Y)) {kw : List (Str × Value)} {fI : Addr} {Q : Fin → Shared → Prop}
    (hC : h.get? C = some (excClassObj nm q C N bs bm hdct sn sub ab col dd k0 k1 k2 k3 k5 newId))
    (hi : W.Looks (model prog w) h (typeLookup (.ref C) "__init__") (some (.ref fI))) (hb : ∀ self, W.Looks (model prog w) h (bindSpecial (.ref fI) self) (.ref fI, [self]))
    (hq : codeAny (model prog w) A (.call (.ref fI) ⟨[.ref (h.objs.size + 1)], kw⟩)
      (fun r s' => match r with | .ok (.ret v) => v = .none ∧ Q (.done (.ret (.ref (h.objs.size + 1)))) s' | .ok _ => False | .error e => E e s')
      ⟨(h.push (W.kdv_tup [])).push (excO C h.objs.size), g, d, t, os⟩) :
    wpAny (model prog w) A (Builtin.«type.__call__» ⟨[.ref C], kw⟩) Q E ⟨h, g, d, t, os⟩ := by
  repeat (first | with_reducible refine wpAny_loadPart_at hC ?_ | with_reducible refine wpAny_madeBy_exc hC ?_ | wp_step)
  apply codeAny_call_builtin_code (Code.quiet_builtin _ F.quiet) (checkK F hT hC ?_)
  apply newK F hT hC
  show wpAny _ _ _ _ _ _
  have old : ∀ b o, h.get? b = some o → ((h.push (W.kdv_tup [])).push (excO C h.objs.size)).get? b = some o := fun b o e => Heap.get?_push_of_some _ (Heap.get?_push_of_some _ e)
  have hC2 := old _ _ hC
  have here : ((h.push (W.kdv_tup [])).push (excO C h.objs.size)).get? (h.objs.size + 1) = some (excO C h.objs.size) := by heap_get
  have self : (Value.ref C :: bm).contains (.ref C) = true := by simp
  have look := hi.keeps old
  have bind := (hb (.ref (h.objs.size + 1))).keeps old
  unfold isInstance
  repeat (first | with_reducible refine wpAny_loadPart_at here ?_ | (with_reducible refine wpAny_isSubtype_exc hC2 ?_; rw [self]) | wp_step)
  show wpAny _ _ (typeLookup (.ref C) _) _ _ _
  apply look.at
  apply wpAny_holding (wpAny_bind (bind.at ?_))
  apply wpAny_bind (wpAny_call (codeAny_mono hq ?_))
  intro r s' z
  cases r with
  | error e => exact z
  | ok fl =>
    cases fl with
    | ret v =>
      obtain ⟨rfl, z⟩ := z
      first | exact wpAny_pure (wpAny_pure z) | (wp_walk; exact z)
    | next => exact z.elim
    | brk => exact z.elim
    | cont => exact z.elim
theorem callK (F : ExcBaseFacts B newId initId bmB) (hT : ∀ Y : String, bm.contains (.type Y) = bmB.contains (.type Y)) {kw : List (Str × Value)} {fI : Addr}
    (hC : h.get? C = some (excClassObj nm q C N bs bm hdct sn sub ab col dd k0 k1 k2 k3 k5 newId))
    (hi : W.Looks (model prog w) h (typeLookup (.ref C) "__init__") (some (.ref fI))) (hb : ∀ self, W.Looks (model prog w) h (bindSpecial (.ref fI) self) (.ref fI, [self]))
    (hq : codeAny (model prog w) (A.under (.builtin "type.__call__" ⟨[.ref C], kw⟩)) (.call (.ref fI) ⟨[.ref (h.objs.size + 1)], kw⟩) (W.InitBack (h.objs.size + 1) R)
      ⟨(h.push (W.kdv_tup [])).push (excO C h.objs.size), g, d, t, os⟩) : codeAny (model prog w) A (.call (.ref C) ⟨[], kw⟩) R ⟨h, g, d, t, os⟩ := by
  have lk := tc_lookup
  have bd := tc_bind (.ref C)
  have ty : (⟨h, g, d, t, os⟩ : Shared).TypeIs (.ref C) "type" := ⟨_, hC, rfl⟩
  apply codeAny_of_tree
  show wpAny _ _ (callAny (.ref C) _) _ _ _
  repeat (any_goals (first | assumption | with_reducible refine wpAny_loadPart_at hC ?_ | wp_step))
  refine ⟨rfl, ?_⟩
  apply codeAny_call_builtin_at (Code.quiet_builtin _ (by decide +kernel)) entry_typeCall (checkTK hC (typeK F hT hC hi hb ?_))
  apply codeAny_mono hq
  intro r s' z
  cases r with
  | error e => exact z
  | ok fl => cases fl <;> exact z
end
end Sf
namespace Sf
open PySem PySem.Spec PyProof.Rows L2
/-! ### the readings over it -/
/-- C(k = v, ..), C's __init__ keeping sp -/
def tMkK (C : Addr) (sp : Sp) (gV : List V → List V → List V) (n : Nat) (tk : TA) : L2.St → Hp → XK → Prop := fun σ H Q => tk σ H fun zs H1 => zs.length = n ∧ ∀ a, H1 a = none →
  sp (gV [.ref a] zs) (upd H1 a (exo a C none)) (fun v H2 => v = .non ∧ ∃ (d : Addr) (fs : List (Str × V)), H2 a = some (exo a C (some d)) ∧ H2 d = some (exd d fs) ∧ H1 d = none ∧
    Q (.ref C) (some d) (upd (del H2 a) d (.xd fs))) E0
section
variable {X : Cx} {x : Str} {C fI : Addr} {k : Nat} {fd : FuncData} {ps ks : List Str} {sp : Sp} {g : List Value → List Value → List Value} {gV : List V → List V → List V} {kws : List Keyword} {tk : TA} {p pos : Pos}
theorem pmk_kw (T : OexC X.K C) (iC : PySem.W.findIn X.K (.ref C) "__init__" = some (some (.ref fI))) (tI : PySem.W.typeIn X.K (.ref fI) = some (.type "function"))
    (F1 : FnOk X.prog X.w X.K X.mg X.base CX0 k fI fd ps sp) (hr : Room (k + 1) X.A) (hb : KBn X.K fd ps 1 ks g gV) (hg : Gl X x) (hm : X.mg x = some (.ref C)) (hkw : PK X kws tk)
    (hall : (backToKw pos (keywordEach kws X.env)).all (·.1.isSome) = true := by rfl) (hks : (backToKw pos (keywordEach kws X.env)).filterMap (·.1) = ks := by rfl) (hdb : (x == ("__debug__" : Str)) = false := by decide)
    (hpl : ((backTo pos (starEach [] X.env)).any (·.1) || (backToKw pos (keywordEach kws X.env)).any (·.1.isNone)) = false := by rfl) :
    PMk X (.Call (.Name x p) [] kws pos) (tMkK C sp gV ks.length tk) := by
  intro pins s σ H Q I h
  obtain ⟨nm, q, N, bs, bm, sn, sub, ab, col, dd, k0, k1, k2, k3, k5, hC, hbm⟩ := T.cls
  apply wpAny_Call_Name_kw (ld_glob I hg hm ?_ hdb)
  apply PySem.W.callWith_KW0 (h₀ := X.base) I.ok.mod.kin T.kC hall ?_ hpl
  apply thn (hkw.run pos pins s σ H _ I h)
  rintro ws s1 ⟨zs, H1, I1, rz, len, q1⟩
  refine ⟨I1.kIn, ?_⟩
  rw [hks]
  show wpAny _ _ (call (.ref C) [] (ks.zip ws)) _ _ _
  obtain ⟨hp, g0, dr, t0, os⟩ := s1
  have free : H1 (hp.objs.size + 1) = none := I1.hok.fresh (Nat.le_succ _)
  have want := q1 (hp.objs.size + 1) free
  have old : ∀ b o, hp.get? b = some o → ((hp.push (PySem.W.kdv_tup [])).push (PySem.HandSPX.excO C hp.objs.size)).get? b = some o := fun b o e => Heap.get?_push_of_some _ (Heap.get?_push_of_some _ e)
  have here : ((hp.push (PySem.W.kdv_tup [])).push (PySem.HandSPX.excO C hp.objs.size)).get? (hp.objs.size + 1) = some (PySem.HandSPX.excO C hp.objs.size) := by heap_get
  have I2 := I1.laid (t' := t0) (a := hp.objs.size + 1) (o := exo (hp.objs.size + 1) C none) old (Nat.le_succ _) (exo_ok here)
  have n2 : ws.length = ks.length := by rw [← rz.length]; exact len
  have r2 := hb.rel (Paired.cons (F := RelV) (show RelV (V.ref (hp.objs.size + 1)) (Value.ref (hp.objs.size + 1)) from rfl) .nil) rz
  apply wpAny_call
  apply callK F.excBase_ValueError (fun Y => PySem.HandSPX.refsVE_contains Y bm hbm) (I1.kIn _ _ hC) (PySem.W.looks_findIn I1.kIn iC) (fun self => PySem.W.bind_fn I1.kIn self tI)
  apply codeAny_mono (F1.run _ X.stack _ _ ⟨[Value.ref (hp.objs.size + 1)], ks.zip ws⟩ _ _ _ E0 (hr.make C [] (ks.zip ws)) (I2.env0.make C [] (ks.zip ws)) (hb.to _ [Value.ref (hp.objs.size + 1)] ws I2.kIn rfl n2) r2 want)
  intro r s' hq
  cases r with
  | error er => exact False.elim hq
  | ok fl =>
    cases fl with
    | ret u =>
      obtain ⟨v, H2, os2, bare2, un2, hok2, rv, ev, d, fs, ea, ed, hd1, q2⟩ := hq
      subst ev
      obtain ⟨h2, g2, d2, t2, os'⟩ := s'
      exact ⟨rv, mk_end (raises_own T.exC T.tyC) I1 (Nat.le_succ _) old un2 hok2 os2 bare2 ea ed hd1 q2⟩
    | next => exact hq.elim
    | brk => exact hq.elim
    | cont => exact hq.elim
end
end Sf
namespace Sf
open PySem PySem.Spec PyProof.Rows L2
/-! ### a caught error: isinstance -/
/-- what a class of errors must say, so that isinstance asks its instances rightly -/
structure IsiC (K : PySem.W.Frag) (C : Addr) : Prop where
  cl : (PySem.W.clsIn K C).isSome = true
  ga : PySem.W.findIn K (.ref C) "__getattribute__" = some (some (.builtin "BaseException.__getattribute__"))
  gg : PySem.W.findIn K (.ref C) "__getattr__" = some none
  sub : PySem.W.subIn K (.ref C) (.type "BaseException") = some true
  kl : PySem.W.findIn K (.ref C) "__class__" = some (some (.builtin "object.__class__"))
  sp : PySem.W.specialIn K (.builtin "object.__class__") "__get__" = some (some (.builtin "getset_descriptor.__get__"))
  tk : PySem.W.takesIn K (.builtin "object.__class__") = some true
  ob : PySem.W.mroIn K C (.type "object") = some true
/-- isinstance(e, c), e the error that the suite holds: at a, its class cls, its own dict d -/
def rIsX (K : PySem.W.Frag) (a : Addr) (cls : Value) (d : Option Addr) : List V → Hp → VK → Prop := fun xs H Q => ∃ (C dd : Addr) (fs : List (Str × V)) (c : V) (cv : Value) (b : Bool),
  cls = .ref C ∧ d = some dd ∧ xs = [.ref a, c] ∧ H dd = some (.xd fs) ∧ IsiC K C ∧ (∀ u, RelV c u → u = cv) ∧ PySem.W.kitOne K (.ref C) cv = some b ∧ Q (.bl b) H
theorem call_isX {X : Cx} {a : Addr} {cls : Value} {d : Option Addr} {oe : Obj} {pn : List (Addr × Obj)} (hz : Zc cls d oe) (hf : ∃ vs, oe.data = .fields vs) : CallR (X.suite a ((a, oe) :: pn)) (.builtin "isinstance") (rIsX X.K a cls d) := by
  intro pins s σ H xs us Q I r h
  obtain ⟨C, dd, fs, c, cv, b, ec, ed, rfl, hdd, T, hcv, ek, q⟩ := h
  subst ec
  subst ed
  cases r with
  | cons rx r1 =>
    cases r1 with
    | cons rc r2 =>
      cases r2
      have e1 : _ = Value.ref a := rx
      subst e1
      have e2 := hcv _ rc
      subst e2
      obtain ⟨ha, _⟩ := I.pin (a, oe) (List.mem_append_left _ List.mem_cons_self)
      obtain ⟨vs, hv⟩ := hf
      have ob : ObjOk X.prog X.w H s.heap dd (.xd fs) := I.hok dd _ hdd
      obtain ⟨mA, hns, _⟩ := ob
      obtain ⟨od, ho, _⟩ := lookIn_ns hns
      have J : PySem.W.InstAt s.heap a oe C (some od) := ⟨ha, hz.1, by unfold PySem.W.notCls; rw [hv] <;> rfl, by rw [hz.2]; exact ho⟩
      exact PySem.W.kia_one (PySem.W.kitx_exc T.cl T.ga T.gg T.sub T.kl T.sp T.tk T.ob) I.kIn J ek (fun z => nomatch z) fun t => ⟨.bl b, H, I.kept (t' := t) fun _ _ z => z, rfl, q⟩
/-- a class of errors over FilmError, whose __init__ stands at fI -/
structure ErrC (K : PySem.W.Frag) (C fI : Addr) : Prop where
  oe : OexC K C
  iC : PySem.W.findIn K (.ref C) "__init__" = some (some (.ref fI))
  tI : PySem.W.typeIn K (.ref fI) = some (.type "function")
  no : PySem.W.findIn K (.ref C) "value" = some none
  xf : XfC K C
  isi : IsiC K C
/-- FilmError.__init__(self, value) -/
def spErrInit (K : PySem.W.Frag) : Sp := fun vs H Q _ => ∃ (a C : Addr) (v : V), vs = [.ref a, v] ∧ H a = some (exo a C none) ∧ OexC K C ∧ PySem.W.findIn K (.ref C) "value" = some none ∧
  ∀ dx, H dx = none → dx ≠ a → Q .non (upd (upd H dx (exd dx [(("value" : Str), v)])) a (exo a C (some dx)))
/-- behind the making of an error: its own dict alone is new -/
theorem made_err {H : Hp} {a d : Addr} {o u : HO} {fs : List (Str × V)} (ha : H a = none) (nd : d ≠ a) : upd (del (upd (upd (upd H a o) d (exd d fs)) a u) a) d (.xd fs) = upd H d (.xd fs) := by
  funext b
  by_cases h1 : b = d
  · subst h1
    rw [upd_same, upd_same]
  · rw [upd_ne h1, upd_ne h1]
    by_cases h2 : b = a
    · subst h2
      rw [del_same, ha]
    · rw [del_ne h2, upd_ne h2, upd_ne h1, upd_ne h2]
/-- an error raised: its own dict alone is new -/
theorem err_made {K : PySem.W.Frag} {C fI : Addr} (T : ErrC K C fI) {v : V} {H : Hp} {Q : XK} (k : ∀ d, H d = none → Q (.ref C) (some d) (upd H d (.xd [(("value" : Str), v)]))) : ∀ a, H a = none →
    spErrInit K [.ref a, v] (upd H a (exo a C none)) (fun u H2 => u = .non ∧ ∃ (d : Addr) (fs : List (Str × V)), H2 a = some (exo a C (some d)) ∧ H2 d = some (exd d fs) ∧ H d = none ∧
      Q (.ref C) (some d) (upd (del H2 a) d (.xd fs))) E0 := by
  intro a ha
  refine ⟨a, C, v, rfl, upd_same, T.oe, T.no, fun dx hdx ne => ⟨rfl, dx, [(("value" : Str), v)], upd_same, ?_, ?_, ?_⟩⟩
  · rw [upd_ne ne, upd_same]
  · rw [upd_ne ne] at hdx
    exact hdx
  · rw [made_err ha ne]
    rw [upd_ne ne] at hdx
    exact k dx hdx
/-- e.value in an except suite -/
def tErrV (K : PySem.W.Frag) (a : Addr) (cls : Value) (d : Option Addr) (te : TE) : TE := fun σ H Q => te σ H fun x H1 => x = .ref a ∧ ∃ (C fI dd : Addr) (v : V), cls = .ref C ∧ d = some dd ∧ ErrC K C fI ∧ H1 dd = some (.xd [(("value" : Str), v)]) ∧ Q v H1
theorem pe_errv {X : Cx} {a : Addr} {oe : Obj} {cls : Value} {d : Option Addr} {pn : List (Addr × Obj)} {e : Expr} {te : TE} {pos : Pos} (hz : Zc cls d oe) (hf : ∃ vs, oe.data = .fields vs) (he : PE (X.suite a ((a, oe) :: pn)) e te)
    (hb : attributeBase e "value" X.env (eval e X.env) = eval e X.env := by rfl) : PE (X.suite a ((a, oe) :: pn)) (.Attribute e "value" pos) (tErrV X.K a cls d te) := by
  constructor
  intro pins s σ H Q I h
  apply attr_of hb
  apply thn (he.run pins s σ H _ I h)
  rintro u s1 ⟨x, H1, I1, rx, ex, C, fI, dd, v, ec, ed, T, hdd, q⟩
  subst ex ec ed
  have eu : u = Value.ref a := rx
  subst eu
  obtain ⟨ha, _⟩ := I1.pin (a, oe) (List.mem_append_left _ List.mem_cons_self)
  obtain ⟨vs, hd⟩ := hf
  have ob : ObjOk X.prog X.w H1 s1.heap dd (.xd [(("value" : Str), v)]) := I1.hok dd _ hdd
  obtain ⟨mA, hns, hr⟩ := ob
  obtain ⟨od, ho, hl⟩ := lookIn_ns hns
  have l : List.lookup ("value" : Str) [(("value" : Str), v)] = some v := by simp [List.lookup]
  obtain ⟨u, hu, ru⟩ := RelO.some_of (v := v) (o := mA "value") (by rw [← l]; exact hr "value")
  have J : PySem.W.InstAt s1.heap a oe C (some od) := ⟨ha, hz.1, by unfold PySem.W.notCls; rw [hd] <;> rfl, by rw [hz.2]; exact ho⟩
  exact HandSPX.exc_get I1.kIn J T.xf.ga T.xf.gg T.xf.exC (PySem.W.findObj_own T.xf.hdC T.no rfl (by rw [hl, hu])) (handed_of ru) ⟨v, H1, I1.tok _, ru, q⟩
structure CalX (P : Program) (w : World) (K : PySem.W.Frag) (mg : Str → Option Value) (base : Heap) (k : Nat) (f : Addr) (fd : FuncData) (ps : List Str) (sp : Sp) : Prop where
  ok : FnOk P w K mg base (L2.CX P w) k f fd ps sp
  binds : Binds K fd ps []
theorem upd_old {H : Hp} {d p : Addr} {o u : HO} (h : H d = some o) (n : H p = none) : upd H p u d = some o := (upd_ne (ne_of_none h n)).trans h
theorem free_old {H : Hp} {d p : Addr} {u : HO} (h : upd H p u d = none) : H d = none ∧ d ≠ p := by
  by_cases z : d = p
  · rw [z, upd_same] at h
    cases h
  · rw [upd_ne z] at h
    exact ⟨h, z⟩
theorem same_new {S H : Hp} {p : Addr} {u : HO} (s : Same S H) (n : H p = none) : Same S (upd H p u) := fun b o h => upd_old (s b o h) n
theorem kit_sub {K : PySem.W.Frag} {t : Value} {D : Addr} {b : Bool} (c : PySem.W.isClsIn K D = true) (ty : PySem.W.typeIn K (.ref D) = some (.type "type")) (s : PySem.W.subIn K t (.ref D) = some b) : PySem.W.kitCls K t (.ref D) = some b := by
  have c' : (PySem.W.clsIn K D).isSome = true := c
  have e : ((PySem.W.clsIn K D).isSome && PySem.W.typeIn K (.ref D) == some (.type "type")) = true := by rw [c', ty]; rfl
  show (if ((PySem.W.clsIn K D).isSome && PySem.W.typeIn K (.ref D) == some (.type "type")) = true then PySem.W.subIn K t (.ref D) else none) = some b
  rw [if_pos e]
  exact s
theorem kit_one {K : PySem.W.Frag} {C D : Addr} {b : Bool} (c : PySem.W.isClsIn K D = true) (ty : PySem.W.typeIn K (.ref D) = some (.type "type")) (s : PySem.W.subIn K (.ref C) (.ref D) = some b) (r : C = D → b = true) : PySem.W.kitOne K (.ref C) (.ref D) = some b := by
  unfold PySem.W.kitOne
  split
  · rename_i z
    rw [r (Value.ref.inj (beq_iff_eq.mp z))]
  · exact kit_sub c ty s
theorem kit_exm {K : PySem.W.Frag} {C D : Addr} {b : Bool} (e : PySem.W.subIn K (.ref D) (.type "BaseException") = some true) (c : PySem.W.isClsIn K D = true) (ty : PySem.W.typeIn K (.ref D) = some (.type "type")) (s : PySem.W.subIn K (.ref C) (.ref D) = some b) :
    PySem.W.exmOne K (.ref C) (.ref D) = some b := by
  unfold PySem.W.exmOne
  rw [e, if_pos (by decide)]
  exact kit_sub c ty s
theorem kit_ve {K : PySem.W.Frag} {C : Addr} (s : PySem.W.subIn K (.ref C) (.type "ValueError") = some true) : PySem.W.kitOne K (.ref C) (.type "ValueError") = some true := by
  have e : PySem.W.kitOne K (.ref C) (.type "ValueError") = PySem.W.subIn K (.ref C) (.type "ValueError") := rfl
  rw [e, s]
end Sf

namespace Sf
open PySem PySem.Spec PyProof.Rows L2
/-! ### data: what stays, sizes of what is shown -/
theorem sameL {K : PySem.W.Frag} {S H : Hp} (s : Same S H) {a : Addr} {xs : List V} (h : SqL K S a xs) : SqL K H a xs := s.seq h
theorem sameT {K : PySem.W.Frag} {S H : Hp} (s : Same S H) {a : Addr} {xs : List V} (h : SqT K S a xs) : SqT K H a xs := by
  rcases h with (h | ⟨o, h⟩) | h
  · exact .inl (.inl (s _ _ h))
  · exact .inl (.inr ⟨o, s _ _ h⟩)
  · exact .inr h
mutual
theorem Dp.mono {K : PySem.W.Frag} {S H : Hp} (s : Same S H) : ∀ (d : PyData) (v : V), Dp K S v d → Dp K H v d
  | .none, _, h => by cases h; exact .non
  | .bool _, _, h => by cases h; exact .bl _
  | .int _, _, h => by cases h; exact .int _
  | .str _, _, h => by cases h; exact .str _
  | .list ds, _, h => by cases h with | lst e a => exact .lst (sameL s e) (DpAll.mono s ds _ a)
  | .tuple ds, _, h => by cases h with | tup e a => exact .tup (sameT s e) (DpAll.mono s ds _ a)
  | .dict _, _, h => by cases h
theorem DpAll.mono {K : PySem.W.Frag} {S H : Hp} (s : Same S H) : ∀ (ds : List PyData) (vs : List V), DpAll K S vs ds → DpAll K H vs ds
  | [], _, h => by cases h; exact .nil
  | d :: ds, _, h => by cases h with | cons a b => exact .cons (Dp.mono s d _ a) (DpAll.mono s ds _ b)
end
theorem DpAll.append {K : PySem.W.Frag} {H : Hp} : ∀ {vs ws : List V} {ds es : List PyData}, DpAll K H vs ds → DpAll K H ws es → DpAll K H (vs ++ ws) (ds ++ es)
  | _, _, _, _, .nil, h => h
  | _, _, _, _, .cons a b, h => .cons a (DpAll.append b h)
theorem DpAll.len {K : PySem.W.Frag} {H : Hp} : ∀ {vs : List V} {ds : List PyData}, DpAll K H vs ds → vs.length = ds.length
  | _, _, .nil => rfl
  | _, _, .cons _ b => by rw [List.length_cons, List.length_cons, DpAll.len b]
theorem DpAll.bools {K : PySem.W.Frag} {H : Hp} : ∀ (bs : List Bool), DpAll K H (bs.map V.bl) (bs.map PyData.bool)
  | [] => .nil
  | b :: bs => .cons (.bl b) (DpAll.bools bs)
theorem DpAll.ints {K : PySem.W.Frag} {H : Hp} : ∀ (bs : List Int), DpAll K H (bs.map V.int) (bs.map PyData.int)
  | [] => .nil
  | b :: bs => .cons (.int b) (DpAll.ints bs)
theorem DpAll.strs {K : PySem.W.Frag} {H : Hp} : ∀ (bs : List Str), DpAll K H (bs.map V.str) (bs.map PyData.str)
  | [] => .nil
  | b :: bs => .cons (.str b) (DpAll.strs bs)

theorem listText_le : ∀ ts : List Str, (listText ts).length ≤ piled ts + 2
  | [] => by rw [listText_nil]; exact (by decide)
  | t :: r => by
    have h := textFrom_length_pos r 1 (("[" : Str) ++ (if (0 : Nat) > 0 then ", " else "" : String) ++ t) (Nat.succ_pos 0)
    have e1 : (listText (t :: r)).length = (textFrom 1 (("[" : Str) ++ (if (0 : Nat) > 0 then ", " else "" : String) ++ t) r).length + 1 := by
      show (textFrom 0 "[" (t :: r) ++ "]" : Str).length = _
      rw [Str.length_append]
      rfl
    have e2 : (("[" : Str) ++ (if (0 : Nat) > 0 then ", " else "" : String) ++ t : Str).length = 1 + t.length := by
      rw [Str.length_append, Str.length_append]
      rfl
    rw [e1, h, e2, piled_cons]
    omega
theorem tupleText_le (ts : List Str) : (tupleText ts).length ≤ piled ts + 4 := by
  unfold tupleText
  rw [Str.length_append, Str.length_append]
  have e1 : (("(" : String) : Str).length = 1 := rfl
  have e2 : ((if ts.length == 1 then ",)" else ")" : String) : Str).length ≤ 2 := by split <;> decide
  have e3 : (Str.join ", " ts).length ≤ piled ts := by
    cases ts with
    | nil => exact Nat.zero_le _
    | cons t r => have := join_length_add (t :: r) (by simp); omega
  omega
/-- may be shown: nested at most k deep, at most n signs -/
structure Sz (k n : Nat) (d : PyData) : Prop where
  sh : d.showable = true
  dp : d.depth ≤ k
  ln : d.shown.length ≤ n
structure SzAll (k n : Nat) (ds : List PyData) : Prop where
  sh : PyData.showableAll ds = true
  dp : PyData.depthAll ds ≤ k
  ln : piled (PyData.shownAll ds) ≤ n
theorem SzAll.nil {k : Nat} : SzAll k 0 [] := ⟨rfl, Nat.zero_le _, Nat.le_refl _⟩
theorem SzAll.cons {k n m : Nat} {d : PyData} {ds : List PyData} (a : Sz k n d) (b : SzAll k m ds) : SzAll k (n + 2 + m) (d :: ds) := by
  refine ⟨?_, ?_, ?_⟩
  · show (PyData.showable d && PyData.showableAll ds) = true
    rw [a.sh, b.sh]; rfl
  · show max (PyData.depth d) (PyData.depthAll ds) ≤ k
    have := a.dp; have := b.dp; omega
  · show piled (PyData.shown d :: PyData.shownAll ds) ≤ _
    rw [piled_cons]
    have := a.ln; have := b.ln; omega
theorem SzAll.of {k n : Nat} : ∀ {ds : List PyData}, (∀ d ∈ ds, Sz k n d) → SzAll k (ds.length * (n + 2)) ds
  | [], _ => by rw [List.length_nil, Nat.zero_mul]; exact SzAll.nil
  | d :: ds, h => by
    have a := SzAll.cons (h d List.mem_cons_self) (SzAll.of fun x hx => h x (List.mem_cons_of_mem _ hx))
    rw [List.length_cons, Nat.succ_mul, Nat.add_comm]
    exact a
theorem SzAll.append {k n m : Nat} : ∀ {ds es : List PyData}, SzAll k n ds → SzAll k m es → SzAll k (n + m) (ds ++ es)
  | [], es, a, b => ⟨b.sh, b.dp, Nat.le_trans b.ln (Nat.le_add_left _ _)⟩
  | d :: ds, es, a, b => by
    have a1 : PyData.showable d = true ∧ PyData.showableAll ds = true := by
      have := a.sh
      simp only [PyData.showableAll, Bool.and_eq_true] at this
      exact this
    have a2 : max (PyData.depth d) (PyData.depthAll ds) ≤ k := a.dp
    have a3 : piled (PyData.shown d :: PyData.shownAll ds) ≤ n := a.ln
    rw [piled_cons] at a3
    have r := SzAll.append (n := n - ((PyData.shown d).length + 2)) (ds := ds) ⟨a1.2, by omega, by omega⟩ b
    have c := SzAll.cons (d := d) (n := (PyData.shown d).length) ⟨a1.1, by omega, Nat.le_refl _⟩ r
    exact ⟨c.sh, c.dp, by have := c.ln; show piled (PyData.shownAll (d :: (ds ++ es))) ≤ _; omega⟩
theorem SzAll.mono {k k' n n' : Nat} {ds : List PyData} (a : SzAll k n ds) (h : k ≤ k') (h2 : n ≤ n') : SzAll k' n' ds := ⟨a.sh, Nat.le_trans a.dp h, Nat.le_trans a.ln h2⟩
theorem Sz.mono {k k' n n' : Nat} {d : PyData} (a : Sz k n d) (h : k ≤ k') (h2 : n ≤ n') : Sz k' n' d := ⟨a.sh, Nat.le_trans a.dp h, Nat.le_trans a.ln h2⟩
theorem Sz.list {k n : Nat} {ds : List PyData} (a : SzAll k n ds) : Sz (k + 1) (n + 2) (.list ds) := by
  refine ⟨?_, ?_, ?_⟩
  · simp only [PyData.showable]; exact a.sh
  · simp only [PyData.depth]; have := a.dp; omega
  · simp only [PyData.shown]; exact Nat.le_trans (listText_le _) (by have := a.ln; omega)
theorem Sz.tuple {k n : Nat} {ds : List PyData} (a : SzAll k n ds) : Sz (k + 1) (n + 4) (.tuple ds) := by
  refine ⟨?_, ?_, ?_⟩
  · simp only [PyData.showable]; exact a.sh
  · simp only [PyData.depth]; have := a.dp; omega
  · simp only [PyData.shown]; exact Nat.le_trans (tupleText_le _) (by have := a.ln; omega)
theorem Sz.non {k : Nat} : Sz k 4 .none := ⟨rfl, by simp only [PyData.depth]; omega, by simp only [PyData.shown]; decide⟩
theorem Sz.bool {k : Nat} (b : Bool) : Sz k 5 (.bool b) := ⟨rfl, by simp only [PyData.depth]; omega, by simp only [PyData.shown]; cases b <;> decide⟩
theorem Sz.int {k n : Nat} {i : Int} (h : i.natAbs < 2 ^ n) (hn : 0 < n) (h2 : n ≤ 1900) : Sz k (n + 2) (.int i) := by
  have lg := PySem.Flt.log2_lt_of hn h
  refine ⟨?_, by simp only [PyData.depth]; omega, ?_⟩
  · simp only [PyData.showable]; exact decide_eq_true (by omega)
  · simp only [PyData.shown]
    rw [PySem.ofString_length]
    exact Nat.le_succ_of_le (int_text_length_le hn lg)
theorem Sz.str {k n : Nat} {x : Str} (hx : ∀ c ∈ x.cps.toList, c < 16 ^ 8) (h : x.length ≤ n) : Sz k (10 * n + 2) (.str x) := by
  refine ⟨rfl, by simp only [PyData.depth]; omega, ?_⟩
  simp only [PyData.shown]
  exact Nat.le_trans (PySem.StrLaws.reprText_len x hx) (by omega)
theorem Sk.at {n : Nat} {H : Hp} {a : Addr} (h : Sk n H a) : ∃ o, H a = some o := let ⟨_, _, _, e, _⟩ := h; ⟨_, e⟩
theorem Sk.new {n : Nat} {H : Hp} {a p : Addr} {o : HO} (h : Sk n H a) (f : H p = none) : Sk n (upd H p o) a := let ⟨x, y, z, e, r⟩ := h; ⟨x, y, z, upd_old e f, r⟩
theorem Sk.ne {n : Nat} {H : Hp} {a p : Addr} (h : Sk n H a) (f : H p = none) : p ≠ a := let ⟨_, _, _, e, _⟩ := h; (ne_of_none e f).symm
theorem Kp.new {H H1 : Hp} {a p : Addr} {o : HO} (h : Kp a H H1) (f : H1 p = none) : Kp a H (upd H1 p o) := fun b u n e => upd_old (h b u n e) f
theorem Kp.free {H H1 : Hp} {a p : Addr} (h : Kp a H H1) (n : p ≠ a) (f : H1 p = none) : H p = none := by
  cases q : H p with
  | none => rfl
  | some o => rw [h p o n q] at f; cases f
/-! ### a heap of one object -/
def one (p : Addr) (o : HO) : Hp := fun b => if b = p then some o else none
theorem one_same {p : Addr} {o : HO} {H : Hp} (h : H p = some o) : Same (one p o) H := fun b u e => by
  unfold one at e
  by_cases z : b = p
  · rw [if_pos z] at e
    cases e
    rw [z]
    exact h
  · rw [if_neg z] at e
    cases e
theorem one_at {p : Addr} {o : HO} : one p o p = some o := if_pos rfl
theorem one_no {p q : Addr} {o : HO} (h : q ≠ p) : one p o q = none := if_neg h
def nil : Hp := fun _ => none
theorem nil_same {H : Hp} : Same nil H := fun _ _ e => by cases e
theorem lt16 {x : Str} (h : x.cps.toList.all (fun c => decide (c < 1000)) = true) : ∀ c ∈ x.cps.toList, c < 16 ^ 8 := fun c hc => Nat.lt_trans (of_decide_eq_true (List.all_eq_true.mp h c hc)) (by decide)
theorem same_kp {S H H' : Hp} {a : Addr} (s : Same S H) (k : Kp a H H') (n : S a = none) : Same S H' := fun b o h => k b o (ne_of_none h n) (s b o h)
theorem same_mut {S H : Hp} {p : Addr} {u : HO} (s : Same S H) (n : S p = none) : Same S (upd H p u) := fun b o h => by rw [upd_ne (ne_of_none h n)]; exact s b o h
theorem kp_same {a : Addr} {H H1 H2 : Hp} (k : Kp a H H1) (s : Same H1 H2) : Kp a H H2 := fun b o n h => s b o (k b o n h)
theorem kp_mut {a p : Addr} {H H1 : Hp} {u : HO} (k : Kp a H H1) (n : H p = none) : Kp a H (upd H1 p u) := fun b o m h => by rw [upd_ne (ne_of_none h n)]; exact k b o m h
theorem sk_same {n : Nat} {a : Addr} {H H1 : Hp} (k : Sk n H a) (s : Same H H1) : Sk n H1 a := let ⟨x, y, z, e, r⟩ := k; ⟨x, y, z, s _ _ e, r⟩
theorem sk_mut {n : Nat} {a p : Addr} {H : Hp} {u : HO} (k : Sk n H a) (ne : p ≠ a) : Sk n (upd H p u) a := let ⟨x, y, z, e, r⟩ := k; ⟨x, y, z, by rw [upd_ne ne.symm]; exact e, r⟩
theorem seq_kp {K : PySem.W.Frag} {H H' : Hp} {a p : Addr} {xs : List V} (h : SqL K H a xs) (n : H p = none) (k : Kp p H H') : SqL K H' a xs := by
  rcases h with (h | ⟨o, h⟩) | h
  · exact .inl (.inl (k _ _ (ne_of_none h n) h))
  · exact .inl (.inr ⟨o, k _ _ (ne_of_none h n) h⟩)
  · exact .inr h
theorem kw1 {K : PySem.W.Frag} {x qual : Str} {st : Stmt} {f : Addr} {fd : FuncData} {ps ks : List Str} {n : Nat} (F : Fun K x qual st f fd)
    (h : ∀ (kV doc pm : Value) (an : Option Addr) (cdv ct : Value) (us ws : List Value), us.length = n → ws.length = ks.length → bindArgs (PySem.W.fnOf x qual (defArgs st) (defBody st) (defScope st) .none kV doc pm an cdv ct) ⟨us, ks.zip ws⟩ = pure (ps.zip (us ++ ws))) :
    KBn K fd ps n ks (fun us ws => us ++ ws) (fun vs zs => vs ++ zs) := by
  obtain ⟨oc, od, kV, doc, pm, an, cdv, ct, osl, e, lk, hcd⟩ := F.ex
  subst e
  exact ⟨fun s us ws _ l1 l2 => .of_eq (h kV doc pm an cdv ct us ws l1 l2), fun a b => a.append b⟩
end Sf

namespace A1
open PySem PySem.Spec PyProof.Rows L2 Sf
def top (i : Nat) : Stmt := PySem.Challenge.pw_splicedfilms_k01_errors.main.body.getD i (.Pass ⟨0, 0, 0, 0⟩)
/-- where things stand -/
structure Ad where
  (FilmError InvalidFilm InvalidPiece InvalidRule UnknownStrip UnknownRule InvalidTable InvalidNumber NoSplice NothingToUndo Unreadable init coin purse throw throw_by_name caught worth right law : Addr)
def Ad.err (a : Ad) : Nat → Addr
  | 0 => a.FilmError | 1 => a.InvalidFilm | 2 => a.InvalidPiece | 3 => a.InvalidRule | 4 => a.UnknownStrip | 5 => a.UnknownRule | 6 => a.InvalidTable | 7 => a.InvalidNumber | 8 => a.NoSplice | 9 => a.NothingToUndo | _ => a.Unreadable
structure Txt (K : PySem.W.Frag) (mg : Str → Option Value) (a : Ad) : Prop where
  g_FilmError : mg "FilmError" = some (.ref a.FilmError)
  g_InvalidFilm : mg "InvalidFilm" = some (.ref a.InvalidFilm)
  g_InvalidPiece : mg "InvalidPiece" = some (.ref a.InvalidPiece)
  g_InvalidRule : mg "InvalidRule" = some (.ref a.InvalidRule)
  g_UnknownStrip : mg "UnknownStrip" = some (.ref a.UnknownStrip)
  g_UnknownRule : mg "UnknownRule" = some (.ref a.UnknownRule)
  g_InvalidTable : mg "InvalidTable" = some (.ref a.InvalidTable)
  g_InvalidNumber : mg "InvalidNumber" = some (.ref a.InvalidNumber)
  g_NoSplice : mg "NoSplice" = some (.ref a.NoSplice)
  g_NothingToUndo : mg "NothingToUndo" = some (.ref a.NothingToUndo)
  g_Unreadable : mg "Unreadable" = some (.ref a.Unreadable)
  e_FilmError : ErrC K a.FilmError a.init
  e_InvalidFilm : ErrC K a.InvalidFilm a.init
  e_InvalidPiece : ErrC K a.InvalidPiece a.init
  e_InvalidRule : ErrC K a.InvalidRule a.init
  e_UnknownStrip : ErrC K a.UnknownStrip a.init
  e_UnknownRule : ErrC K a.UnknownRule a.init
  e_InvalidTable : ErrC K a.InvalidTable a.init
  e_InvalidNumber : ErrC K a.InvalidNumber a.init
  e_NoSplice : ErrC K a.NoSplice a.init
  e_NothingToUndo : ErrC K a.NothingToUndo a.init
  e_Unreadable : ErrC K a.Unreadable a.init
  /-- what stands under what -/
  subs : ∀ i j, i ≤ 10 → j ≤ 10 → PySem.W.subIn K (.ref (a.err i)) (.ref (a.err j)) = some (decide (i = j) || decide (j = 0))
  subV : ∀ i, i ≤ 10 → PySem.W.subIn K (.ref (a.err i)) (.type "ValueError") = some true
  cls : ∀ i, i ≤ 10 → PySem.W.isClsIn K (a.err i) = true
  g_coin : mg "_law_coin" = some (.ref a.coin)
  k_coin : PySem.W.keepIn K (.ref a.coin) = true
  g_purse : mg "_law_fm_purse" = some (.ref a.purse)
  k_purse : PySem.W.keepIn K (.ref a.purse) = true
  g_throw : mg "_law_throw" = some (.ref a.throw)
  k_throw : PySem.W.keepIn K (.ref a.throw) = true
  g_throw_by_name : mg "_law_throw_by_name" = some (.ref a.throw_by_name)
  k_throw_by_name : PySem.W.keepIn K (.ref a.throw_by_name) = true
  g_caught : mg "_law_caught" = some (.ref a.caught)
  k_caught : PySem.W.keepIn K (.ref a.caught) = true
  g_worth : mg "_law_worth" = some (.ref a.worth)
  k_worth : PySem.W.keepIn K (.ref a.worth) = true
  g_right : mg "_law_right" = some (.ref a.right)
  k_right : PySem.W.keepIn K (.ref a.right) = true
  b_int : mg "int" = none
  b_len : mg "len" = none
  b_max : mg "max" = none
  b_min : mg "min" = none
  b_abs : mg "abs" = none
  b_repr : mg "repr" = none
  b_isinstance : mg "isinstance" = none
  b_list : mg "list" = none
  b_range : mg "range" = none
  b_ValueError : mg "ValueError" = none
theorem Txt.err {K : PySem.W.Frag} {mg : Str → Option Value} {a : Ad} (T : Txt K mg a) : ∀ i, ErrC K (a.err i) a.init
  | 0 => T.e_FilmError | 1 => T.e_InvalidFilm | 2 => T.e_InvalidPiece | 3 => T.e_InvalidRule | 4 => T.e_UnknownStrip | 5 => T.e_UnknownRule | 6 => T.e_InvalidTable | 7 => T.e_InvalidNumber | 8 => T.e_NoSplice
  | 9 => T.e_NothingToUndo | _ + 10 => T.e_Unreadable
section
variable {K : PySem.W.Frag} {mg : Str → Option Value} {a : Ad}
theorem Txt.isV (T : Txt K mg a) (i : Nat) (h : i ≤ 10) : PySem.W.kitOne K (.ref (a.err i)) (.type "ValueError") = some true := kit_ve (T.subV i h)
theorem Txt.isE (T : Txt K mg a) (i j : Nat) (h : i ≤ 10) (h1 : 1 ≤ j) (h2 : j ≤ 10) : PySem.W.kitOne K (.ref (a.err i)) (.ref (a.err j)) = some (decide (i = j)) := by
  have s := T.subs i j h h2
  rw [decide_eq_false (show ¬ j = 0 by omega), Bool.or_false] at s
  refine kit_one (T.cls j h2) (T.err j).oe.tyC s fun e => ?_
  -- a class stands under itself
  have s2 := T.subs j i h2 h
  by_cases z : i = j
  · exact decide_eq_true z
  · rw [e, T.subs j j h2 h2, decide_eq_true rfl, Bool.true_or, decide_eq_false z] at s
    cases s
theorem Txt.isF (T : Txt K mg a) (i : Nat) (h : i ≤ 10) : PySem.W.exmOne K (.ref (a.err i)) (.ref a.FilmError) = some true := by
  have s := T.subs i 0 h (by decide)
  rw [decide_eq_true (show 0 = 0 from rfl), Bool.or_true] at s
  exact kit_exm T.e_FilmError.oe.exC (T.cls 0 (by decide)) T.e_FilmError.oe.tyC s
end
section
variable {P : Program} {w : World} {K : PySem.W.Frag} {mg : Str → Option Value} {base : Heap} {a : Ad}
abbrev s_coin : Stmt := top 13
theorem sc_coin : FnScope ["purse", "many", "drawn", "stirred"] ["purse", "many"] (defScope s_coin) := ⟨rfl, rfl, rfl, by decide +kernel, rfl, by decide +kernel, by decide +kernel⟩
theorem ok_coin {f : Addr} {fd : FuncData} (F : Fun K "_law_coin" "_law_coin" s_coin f fd) (T : Txt K mg a) : FnOk P w K mg base CX0 1 f fd ["purse", "many"] spCoin := by
  refine F.ok sc_coin (fun vs H Q E h => by obtain ⟨a, n, m, rfl, _⟩ := h; rfl) (fun cdv A outer s H vs Q E hr h => ?_)
  refine ⟨_, (pss_cons (ps_if (pt_cmpR op_gt (pe_ix ix_list (pv 0) pe_int (fun _ _ => rfl)) pe_int (nomark _)) (pss_cons (ps_set (i := 2) sc_coin.nd rfl (Or.inl rfl) (pe_op op_mod (pe_callTy call_int1 (by rfl) T.b_int (by decide +kernel) (pa_cons (pe_ix ix_list (pv 0) pe_int (fun _ _ => rfl)) pa_nil)) (pv 1)))
      (pss_cons (ps_asg (pe_op op_fdivW (pe_ix ix_list (pv 0) pe_int (fun _ _ => rfl)) (pv 1)) (pg_sub (pv 0) pe_int set_list))
      (pss_one (ps_ret (pv 2))))) pss_nil)
      (pss_cons (ps_asg (pe_op op_add (pe_ix ix_list (pv 0) pe_int (fun _ _ => rfl)) pe_int) (pg_sub (pv 0) pe_int set_list))
      (pss_cons (ps_set (i := 3) sc_coin.nd rfl (Or.inl rfl) (pe_op op_mod (pe_op op_powX (pe_callTy call_int1 (by rfl) T.b_int (by decide +kernel) (pa_cons (pe_op op_add (pe_ix ix_list (pv 0) pe_int (fun _ _ => rfl)) (pe_op op_mulX pe_int (pe_ix ix_list (pv 0) pe_int (fun _ _ => rfl)))) pa_nil)) pe_int) (pe_op op_add (pe_op op_powX pe_int pe_int) pe_int)))
      (pss_cons (ps_set (i := 3) sc_coin.nd rfl (Or.inl rfl) (pe_op op_mod (pe_op op_powX (pe_callTy call_int1 (by rfl) T.b_int (by decide +kernel) (pa_cons (pe_op op_add (pv 3) (pe_op op_mulX pe_int (pe_ix ix_list (pv 0) pe_int (fun _ _ => rfl)))) pa_nil)) pe_int) (pe_op op_add (pe_op op_powX pe_int pe_int) pe_int)))
      (pss_one (ps_ret (pe_op op_mod (pe_callTy call_int1 (by rfl) T.b_int (by decide +kernel) (pa_cons (pe_op op_fdivW (pv 3) pe_int) pa_nil)) (pv 1)))))))), ?_⟩
  obtain ⟨a, n, m, rfl, ⟨p, q, r, e, q0, q1, r0, r1⟩, hn, m0, m1, k⟩ := h
  have md : m.natAbs < 2 ^ 200 := by
    have e2 : ((2 ^ 200 : Nat) : Int) = 2 ^ 200 := by decide
    omega
  refine ⟨_, rfl, _, _, _, _, rfl, rfl, SqL.of e, rfl, _, _, rfl, rfl, _, rfl, ?_⟩
  refine ite2 (fun c => ?_) (fun c => ?_)
  · refine ⟨_, rfl, _, _, _, _, rfl, rfl, SqL.of e, rfl, .inl ⟨_, rfl, _, rfl, _, _, rfl, rfl, m0, ?_⟩⟩
    refine ⟨_, rfl, _, _, _, _, rfl, rfl, SqL.of e, rfl, _, rfl, _, _, rfl, rfl, wide_div m0 md (by decide) (by decide), ?_⟩
    refine ⟨_, rfl, _, _, _, _, rfl, rfl, e, rfl, ?_⟩
    refine ⟨_, rfl, ?_⟩
    exact k _ _ (Int.emod_nonneg _ (by omega)) (Int.emod_lt_of_pos _ m0) ⟨_, q, r, upd_same, q0, q1, r0, by omega⟩ (fun b o nb h => by rw [upd_ne nb]; exact h)
  · refine ⟨_, rfl, _, _, _, _, rfl, rfl, SqL.of e, rfl, _, _, rfl, rfl, ?_⟩
    refine ⟨_, rfl, _, _, _, _, rfl, rfl, e, rfl, ?_⟩
    have r31 : (r + 1).natAbs < 2 ^ 31 := by
      have e2 : (2 ^ 31 : Nat) = 2147483648 := by decide
      omega
    have br := bits_le r31
    have b1 : Builtin.Int.intBits 2038074743 ≤ 31 := bits_le (by decide)
    have b2 : Builtin.Int.intBits 982451653 ≤ 31 := bits_le (by decide)
    refine ⟨_, rfl, _, _, _, _, rfl, rfl, SqL.of upd_same, rfl, _, rfl, _, _, _, _, rfl, rfl, SqL.of upd_same, rfl, _, _, rfl, rfl, ?c1, _, _, rfl, rfl, .inl ⟨_, rfl, _, _, rfl, rfl, ?c2, ?_⟩⟩
    case c1 => show _ + _ ≤ _; omega
    case c2 => exact ⟨by decide, pow_ok (n := 91) (by omega) (by omega) (by decide) (by decide)⟩
    refine ⟨_, _, rfl, rfl, ⟨by decide, pow_ok (n := 4) (by decide) (by decide) (by decide) (by decide)⟩, _, _, rfl, rfl, _, _, rfl, rfl, (by show (0 : Int) < _; decide), ?_⟩
    have s0 := Int.emod_nonneg ((q + 2038074743 * (r + 1)) ^ (3 : Int).toNat) (b := (10 : Int) ^ (25 : Int).toNat + 13) (by decide)
    have s1 := Int.emod_lt_of_pos ((q + 2038074743 * (r + 1)) ^ (3 : Int).toNat) (b := (10 : Int) ^ (25 : Int).toNat + 13) (by decide)
    have s2 : (10 : Int) ^ (25 : Int).toNat + 13 < 2 ^ 90 := by decide
    refine ⟨_, rfl, _, rfl, _, _, _, _, rfl, rfl, SqL.of upd_same, rfl, _, _, rfl, rfl, ?c3, _, _, rfl, rfl, .inl ⟨_, rfl, _, _, rfl, rfl, ?c4, ?_⟩⟩
    case c3 => show _ + _ ≤ _; omega
    case c4 => exact ⟨by decide, pow_ok (n := 91) (by omega) (by omega) (by decide) (by decide)⟩
    refine ⟨_, _, rfl, rfl, ⟨by decide, pow_ok (n := 4) (by decide) (by decide) (by decide) (by decide)⟩, _, _, rfl, rfl, _, _, rfl, rfl, (by show (0 : Int) < _; decide), ?_⟩
    refine ⟨_, rfl, _, _, rfl, rfl, wide_div (b := 11) (by decide) (by decide) (by decide) (by decide), .inl ⟨_, rfl, _, rfl, _, _, rfl, rfl, m0, ?_⟩⟩
    refine k _ _ (Int.emod_nonneg _ (by omega)) (Int.emod_lt_of_pos _ m0) ⟨p, q, r + 1, upd_same, q0, q1, by omega, by omega⟩ (fun b o nb h => by rw [upd_ne nb]; exact h)
abbrev s_purse : Stmt := top 14
theorem sc_purse : FnScope ["script", "spot", "cell"] ["script", "spot"] (defScope s_purse) := ⟨rfl, rfl, rfl, by decide +kernel, rfl, by decide +kernel, by decide +kernel⟩
def spPurse (K : PySem.W.Frag) : Sp := fun vs H Q _ => ∃ (a : Addr) (ns : List Int) (s : Nat), vs = [.ref a, .int s] ∧ SqL K H a (ns.map V.int) ∧ ns.length ≤ 63 ∧ (∀ z ∈ ns, Builtin.Int.intBits z ≤ 1048576) ∧ s ≤ 100 ∧
  ∀ p H', H p = none → Sk 0 H' p → Kp p H H' → Q (.ref p) H'
theorem ok_purse {f : Addr} {fd : FuncData} (F : Fun K "_law_fm_purse" "_law_fm_purse" s_purse f fd) (T : Txt K mg a) : FnOk P w K mg base CX0 1 f fd ["script", "spot"] (spPurse K) := by
  refine F.ok sc_purse (fun vs H Q E h => by obtain ⟨a, ns, s, rfl, _⟩ := h; rfl) (fun cdv A outer s H vs Q E hr h => ?_)
  refine ⟨_, (pss_cons (ps_set (i := 2) sc_purse.nd rfl (Or.inl rfl) (pe_ifExp (pt_cmpR op_lt (pv 1) (pe_callB call_len_seq (by rfl) T.b_len PySem.boot_len (pa_cons (pv 0) pa_nil)) (nomark _)) (pe_ix ix_list (pv 0) (pv 1) (fun _ _ => rfl)) pe_int))
      (pss_one (ps_ret (pe_lst (pa_cons (pe_callB (call_max2 rfl) (by rfl) T.b_max (by decide +kernel) (pa_cons pe_int (pa_cons (pe_op op_sub (pe_callB call_abs (by rfl) T.b_abs (by decide +kernel) (pa_cons (pv 2) pa_nil)) (pe_op op_powX pe_int pe_int)) pa_nil))) (pa_cons (pe_op op_mod (pe_callTy call_int1 (by rfl) T.b_int (by decide +kernel) (pa_cons (pe_op op_add (pe_op op_add (pe_op op_mulX (pv 2) pe_int) (pe_op op_mulX (pv 1) pe_int)) pe_int) pa_nil)) (pe_op op_add (pe_op op_powX pe_int pe_int) pe_int)) (pa_cons pe_int pa_nil))))))), ?_⟩
  obtain ⟨a, ns, s, rfl, hS, hl, hb, hs, k⟩ := h
  have lit : Builtin.Int.intBits 30011 ≤ 15 := bits_le (by decide)
  have lit2 : Builtin.Int.intBits 7368787 ≤ 23 := bits_le (by decide)
  have lit3 : Builtin.Int.intBits (s : Int) ≤ 7 := bits_in (by omega) (by omega)
  have z0 : Builtin.Int.intBits 0 ≤ 1048576 := by decide
  refine ⟨_, rfl, _, rfl, a, _, rfl, .inl hS, _, _, rfl, rfl, _, rfl, ?_⟩
  rw [List.length_map]
  have cell : ∀ x : Nat, (h : x < ns.length) → Builtin.Int.intBits ns[x] ≤ 1048576 := fun x h => hb _ (List.getElem_mem h)
  refine ite2 (fun c => ?_) (fun c => ?_)
  · have lt : s < ns.length := by
      have := of_decide_eq_true c
      omega
    have hm : ns[s]? = some ns[s] := List.getElem?_eq_getElem lt
    have z0 := cell s lt
    refine ⟨_, rfl, _, rfl, a, _, s, .int ns[s], rfl, rfl, hS, atI_nat (by rw [List.getElem?_map, hm]; rfl), ?_⟩
    refine ⟨_, rfl, _, rfl, _, _, rfl, rfl, ⟨by decide, pow_ok (n := 4) (by decide) (by decide) (by decide) (by decide)⟩, _, _, rfl, rfl, _, _, rfl, ?_⟩
    refine ⟨_, rfl, _, _, rfl, rfl, (by show _ + _ ≤ _; omega), _, rfl, _, _, rfl, rfl, (by show _ + _ ≤ _; omega), _, _, rfl, rfl, _, _, rfl, rfl, .inl ⟨_, rfl, ?_⟩⟩
    refine ⟨_, _, rfl, rfl, ⟨by decide, pow_ok (n := 4) (by decide) (by decide) (by decide) (by decide)⟩, _, _, rfl, rfl, _, _, rfl, rfl, (by show (0 : Int) < _; decide), ?_⟩
    refine ⟨by show 3 ≤ sizeLine; decide, fun p hp => ?_⟩
    refine k p _ hp ⟨_, _, _, upd_same, Int.emod_nonneg _ (by decide), Int.lt_of_lt_of_le (Int.emod_lt_of_pos _ (by decide)) (by decide), Int.le_refl _, Int.le_refl _⟩ (fun b o nb h => by rw [upd_ne nb]; exact h)
  · refine ⟨_, rfl, _, rfl, _, _, rfl, rfl, ⟨by decide, pow_ok (n := 4) (by decide) (by decide) (by decide) (by decide)⟩, _, _, rfl, rfl, _, _, rfl, ?_⟩
    refine ⟨_, rfl, _, _, rfl, rfl, (by show _ + _ ≤ _; omega), _, rfl, _, _, rfl, rfl, (by show _ + _ ≤ _; omega), _, _, rfl, rfl, _, _, rfl, rfl, .inl ⟨_, rfl, ?_⟩⟩
    refine ⟨_, _, rfl, rfl, ⟨by decide, pow_ok (n := 4) (by decide) (by decide) (by decide) (by decide)⟩, _, _, rfl, rfl, _, _, rfl, rfl, (by show (0 : Int) < _; decide), ?_⟩
    refine ⟨by show 3 ≤ sizeLine; decide, fun p hp => ?_⟩
    refine k p _ hp ⟨_, _, _, upd_same, Int.emod_nonneg _ (by decide), Int.lt_of_lt_of_le (Int.emod_lt_of_pos _ (by decide)) (by decide), Int.le_refl _, Int.le_refl _⟩ (fun b o nb h => by rw [upd_ne nb]; exact h)
abbrev s_FilmError___init__ : Stmt := inClass (top 1) 0
theorem sc_FilmError___init__ : FnScope ["self", "value"] ["self", "value"] (defScope s_FilmError___init__) := ⟨rfl, rfl, rfl, by decide +kernel, rfl, by decide +kernel, by decide +kernel⟩
theorem ok_init {f : Addr} {fd : FuncData} (F : Fun K "__init__" "FilmError.__init__" s_FilmError___init__ f fd) : FnOk P w K mg base CX0 1 f fd ["self", "value"] (spErrInit K) := by
  refine F.ok sc_FilmError___init__ (fun vs H Q E h => by obtain ⟨a, C, v, rfl, _⟩ := h; rfl) (fun cdv A outer s H vs Q E hr h => ?_)
  refine ⟨_, (pss_one (ps_ost (pv 0) (pv 1))), ?_⟩
  obtain ⟨a, C, v, rfl, ha, oe, no, k⟩ := h
  exact ⟨_, rfl, _, rfl, a, C, rfl, oe, no, .inl ⟨ha, k⟩⟩
abbrev s_throw : Stmt := top 15
theorem sc_throw : FnScope ["spot", "worth"] ["spot", "worth"] (defScope s_throw) := ⟨rfl, rfl, rfl, by decide +kernel, rfl, by decide +kernel, by decide +kernel⟩
def spThrow (a : Ad) : Sp := fun vs H _ E => ∃ (i : Nat) (v : V), vs = [.int i, v] ∧ i ≤ 10 ∧ ∀ d, H d = none → E (.ref (a.err i)) (some d) (upd H d (.xd [(("value" : Str), v)]))
theorem ok_throw {f : Addr} {fd fdI : FuncData} (F : Fun K "_law_throw" "_law_throw" s_throw f fd) (T : Txt K mg a) (c_init : Cal P w K mg base 1 a.init fdI ["self", "value"] (spErrInit K)) : FnOk P w K mg base (L2.CX P w) 3 f fd ["spot", "worth"] (spThrow a) := by
  refine F.okX sc_throw (fun vs H Q E h => by obtain ⟨i, v, rfl, _⟩ := h; rfl) (fun cdv A outer s H vs Q E hr0 h => ?_)
  have hr : (Room 2 (A.deeper (envOfC "_law_throw" (defScope s_throw) s.heap.objs.size f cdv))) := hr0
  refine ⟨_, (pss_cons (ps_if (pt_cmpR op_eq (pv 0) pe_int (nomark _)) (pss_one (ps_raise rfl (takes_of rfl rfl rfl rfl) (pmk_oex T.e_FilmError.oe T.e_FilmError.iC T.e_FilmError.tI c_init.ok hr c_init.binds .nil pass0 rfl T.g_FilmError (pa_cons (pv 1) pa_nil)))) pss_nil)
      (pss_cons (ps_if (pt_cmpR op_eq (pv 0) pe_int (nomark _)) (pss_one (ps_raise rfl (takes_of rfl rfl rfl rfl) (pmk_oex T.e_InvalidFilm.oe T.e_InvalidFilm.iC T.e_InvalidFilm.tI c_init.ok hr c_init.binds .nil pass0 rfl T.g_InvalidFilm (pa_cons (pv 1) pa_nil)))) pss_nil)
      (pss_cons (ps_if (pt_cmpR op_eq (pv 0) pe_int (nomark _)) (pss_one (ps_raise rfl (takes_of rfl rfl rfl rfl) (pmk_oex T.e_InvalidPiece.oe T.e_InvalidPiece.iC T.e_InvalidPiece.tI c_init.ok hr c_init.binds .nil pass0 rfl T.g_InvalidPiece (pa_cons (pv 1) pa_nil)))) pss_nil)
      (pss_cons (ps_if (pt_cmpR op_eq (pv 0) pe_int (nomark _)) (pss_one (ps_raise rfl (takes_of rfl rfl rfl rfl) (pmk_oex T.e_InvalidRule.oe T.e_InvalidRule.iC T.e_InvalidRule.tI c_init.ok hr c_init.binds .nil pass0 rfl T.g_InvalidRule (pa_cons (pv 1) pa_nil)))) pss_nil)
      (pss_cons (ps_if (pt_cmpR op_eq (pv 0) pe_int (nomark _)) (pss_one (ps_raise rfl (takes_of rfl rfl rfl rfl) (pmk_oex T.e_UnknownStrip.oe T.e_UnknownStrip.iC T.e_UnknownStrip.tI c_init.ok hr c_init.binds .nil pass0 rfl T.g_UnknownStrip (pa_cons (pv 1) pa_nil)))) pss_nil)
      (pss_cons (ps_if (pt_cmpR op_eq (pv 0) pe_int (nomark _)) (pss_one (ps_raise rfl (takes_of rfl rfl rfl rfl) (pmk_oex T.e_UnknownRule.oe T.e_UnknownRule.iC T.e_UnknownRule.tI c_init.ok hr c_init.binds .nil pass0 rfl T.g_UnknownRule (pa_cons (pv 1) pa_nil)))) pss_nil)
      (pss_cons (ps_if (pt_cmpR op_eq (pv 0) pe_int (nomark _)) (pss_one (ps_raise rfl (takes_of rfl rfl rfl rfl) (pmk_oex T.e_InvalidTable.oe T.e_InvalidTable.iC T.e_InvalidTable.tI c_init.ok hr c_init.binds .nil pass0 rfl T.g_InvalidTable (pa_cons (pv 1) pa_nil)))) pss_nil)
      (pss_cons (ps_if (pt_cmpR op_eq (pv 0) pe_int (nomark _)) (pss_one (ps_raise rfl (takes_of rfl rfl rfl rfl) (pmk_oex T.e_InvalidNumber.oe T.e_InvalidNumber.iC T.e_InvalidNumber.tI c_init.ok hr c_init.binds .nil pass0 rfl T.g_InvalidNumber (pa_cons (pv 1) pa_nil)))) pss_nil)
      (pss_cons (ps_if (pt_cmpR op_eq (pv 0) pe_int (nomark _)) (pss_one (ps_raise rfl (takes_of rfl rfl rfl rfl) (pmk_oex T.e_NoSplice.oe T.e_NoSplice.iC T.e_NoSplice.tI c_init.ok hr c_init.binds .nil pass0 rfl T.g_NoSplice (pa_cons (pv 1) pa_nil)))) pss_nil)
      (pss_cons (ps_if (pt_cmpR op_eq (pv 0) pe_int (nomark _)) (pss_one (ps_raise rfl (takes_of rfl rfl rfl rfl) (pmk_oex T.e_NothingToUndo.oe T.e_NothingToUndo.iC T.e_NothingToUndo.tI c_init.ok hr c_init.binds .nil pass0 rfl T.g_NothingToUndo (pa_cons (pv 1) pa_nil)))) pss_nil)
      (pss_one (ps_raise rfl (takes_of rfl rfl rfl rfl) (pmk_oex T.e_Unreadable.oe T.e_Unreadable.iC T.e_Unreadable.tI c_init.ok hr c_init.binds .nil pass0 rfl T.g_Unreadable (pa_cons (pv 1) pa_nil)))))))))))))), ?_⟩
  obtain ⟨i, v, rfl, hi, k⟩ := h
  have eqi : ∀ j : Nat, decide (V.int (i : Int) = V.int (j : Int)) = decide (i = j) := fun j => by
    by_cases e : i = j
    · subst e; simp
    · have : ¬ V.int (i : Int) = V.int (j : Int) := fun z => by injection z with z; omega
      rw [decide_eq_false e, decide_eq_false this]
  have go : ∀ j : Nat, i = j → ∀ x, H x = none → _ := fun j e => err_made (T.err j) (v := v) (H := H) (Q := fun c d H' => E c d H') (by subst e; exact k)
  iterate 10 (refine ⟨_, rfl, rfl, _, rfl, ?_⟩; refine ite2 (fun c => ⟨_, rfl, by show 1 ≤ 1000; decide, go _ (of_decide_eq_true ((eqi _).symm.trans c))⟩) (fun c => ?_))
  simp only [decide_eq_true_eq, V.int.injEq] at *
  exact ⟨_, rfl, by show 1 ≤ 1000; decide, go 10 (by omega)⟩
abbrev s_throw_by_name : Stmt := top 16
theorem sc_throw_by_name : FnScope ["spot", "worth"] ["spot", "worth"] (defScope s_throw_by_name) := ⟨rfl, rfl, rfl, by decide +kernel, rfl, by decide +kernel, by decide +kernel⟩
theorem ok_throw_by_name {f : Addr} {fd fdI : FuncData} (F : Fun K "_law_throw_by_name" "_law_throw_by_name" s_throw_by_name f fd) (T : Txt K mg a) (c_init : Cal P w K mg base 1 a.init fdI ["self", "value"] (spErrInit K))
    (kb_init : KBn K fdI ["self", "value"] 1 ["value"] (fun us ws => us ++ ws) (fun vs zs => vs ++ zs)) : FnOk P w K mg base (L2.CX P w) 3 f fd ["spot", "worth"] (spThrow a) := by
  refine F.okX sc_throw_by_name (fun vs H Q E h => by obtain ⟨i, v, rfl, _⟩ := h; rfl) (fun cdv A outer s H vs Q E hr0 h => ?_)
  have hr : (Room 2 (A.deeper (envOfC "_law_throw_by_name" (defScope s_throw_by_name) s.heap.objs.size f cdv))) := hr0
  refine ⟨_, (pss_cons (ps_if (pt_cmpR op_eq (pv 0) pe_int (nomark _)) (pss_one (ps_raise rfl (takes_of rfl rfl rfl rfl) (pmk_kw T.e_FilmError.oe T.e_FilmError.iC T.e_FilmError.tI c_init.ok hr kb_init rfl T.g_FilmError (pk_cons (pv 1) pk_nil)))) pss_nil)
      (pss_cons (ps_if (pt_cmpR op_eq (pv 0) pe_int (nomark _)) (pss_one (ps_raise rfl (takes_of rfl rfl rfl rfl) (pmk_kw T.e_InvalidFilm.oe T.e_InvalidFilm.iC T.e_InvalidFilm.tI c_init.ok hr kb_init rfl T.g_InvalidFilm (pk_cons (pv 1) pk_nil)))) pss_nil)
      (pss_cons (ps_if (pt_cmpR op_eq (pv 0) pe_int (nomark _)) (pss_one (ps_raise rfl (takes_of rfl rfl rfl rfl) (pmk_kw T.e_InvalidPiece.oe T.e_InvalidPiece.iC T.e_InvalidPiece.tI c_init.ok hr kb_init rfl T.g_InvalidPiece (pk_cons (pv 1) pk_nil)))) pss_nil)
      (pss_cons (ps_if (pt_cmpR op_eq (pv 0) pe_int (nomark _)) (pss_one (ps_raise rfl (takes_of rfl rfl rfl rfl) (pmk_kw T.e_InvalidRule.oe T.e_InvalidRule.iC T.e_InvalidRule.tI c_init.ok hr kb_init rfl T.g_InvalidRule (pk_cons (pv 1) pk_nil)))) pss_nil)
      (pss_cons (ps_if (pt_cmpR op_eq (pv 0) pe_int (nomark _)) (pss_one (ps_raise rfl (takes_of rfl rfl rfl rfl) (pmk_kw T.e_UnknownStrip.oe T.e_UnknownStrip.iC T.e_UnknownStrip.tI c_init.ok hr kb_init rfl T.g_UnknownStrip (pk_cons (pv 1) pk_nil)))) pss_nil)
      (pss_cons (ps_if (pt_cmpR op_eq (pv 0) pe_int (nomark _)) (pss_one (ps_raise rfl (takes_of rfl rfl rfl rfl) (pmk_kw T.e_UnknownRule.oe T.e_UnknownRule.iC T.e_UnknownRule.tI c_init.ok hr kb_init rfl T.g_UnknownRule (pk_cons (pv 1) pk_nil)))) pss_nil)
      (pss_cons (ps_if (pt_cmpR op_eq (pv 0) pe_int (nomark _)) (pss_one (ps_raise rfl (takes_of rfl rfl rfl rfl) (pmk_kw T.e_InvalidTable.oe T.e_InvalidTable.iC T.e_InvalidTable.tI c_init.ok hr kb_init rfl T.g_InvalidTable (pk_cons (pv 1) pk_nil)))) pss_nil)
      (pss_cons (ps_if (pt_cmpR op_eq (pv 0) pe_int (nomark _)) (pss_one (ps_raise rfl (takes_of rfl rfl rfl rfl) (pmk_kw T.e_InvalidNumber.oe T.e_InvalidNumber.iC T.e_InvalidNumber.tI c_init.ok hr kb_init rfl T.g_InvalidNumber (pk_cons (pv 1) pk_nil)))) pss_nil)
      (pss_cons (ps_if (pt_cmpR op_eq (pv 0) pe_int (nomark _)) (pss_one (ps_raise rfl (takes_of rfl rfl rfl rfl) (pmk_kw T.e_NoSplice.oe T.e_NoSplice.iC T.e_NoSplice.tI c_init.ok hr kb_init rfl T.g_NoSplice (pk_cons (pv 1) pk_nil)))) pss_nil)
      (pss_cons (ps_if (pt_cmpR op_eq (pv 0) pe_int (nomark _)) (pss_one (ps_raise rfl (takes_of rfl rfl rfl rfl) (pmk_kw T.e_NothingToUndo.oe T.e_NothingToUndo.iC T.e_NothingToUndo.tI c_init.ok hr kb_init rfl T.g_NothingToUndo (pk_cons (pv 1) pk_nil)))) pss_nil)
      (pss_one (ps_raise rfl (takes_of rfl rfl rfl rfl) (pmk_kw T.e_Unreadable.oe T.e_Unreadable.iC T.e_Unreadable.tI c_init.ok hr kb_init rfl T.g_Unreadable (pk_cons (pv 1) pk_nil)))))))))))))), ?_⟩
  obtain ⟨i, v, rfl, hi, k⟩ := h
  have eqi : ∀ j : Nat, decide (V.int (i : Int) = V.int (j : Int)) = decide (i = j) := fun j => by
    by_cases e : i = j
    · subst e; simp
    · have : ¬ V.int (i : Int) = V.int (j : Int) := fun z => by injection z with z; omega
      rw [decide_eq_false e, decide_eq_false this]
  have go : ∀ j : Nat, i = j → ∀ x, H x = none → _ := fun j e => err_made (T.err j) (v := v) (H := H) (Q := fun c d H' => E c d H') (by subst e; exact k)
  iterate 10 (refine ⟨_, rfl, rfl, _, rfl, ?_⟩; refine ite2 (fun c => ⟨_, rfl, rfl, go _ (of_decide_eq_true ((eqi _).symm.trans c))⟩) (fun c => ?_))
  simp only [decide_eq_true_eq, V.int.injEq] at *
  exact ⟨_, rfl, rfl, go 10 (by omega)⟩
abbrev s_caught : Stmt := top 17
theorem sc_caught : FnScope ["spot", "worth", "by_name", "flags", "e"] ["spot", "worth", "by_name"] (defScope s_caught) := ⟨rfl, rfl, rfl, by decide +kernel, rfl, by decide +kernel, by decide +kernel⟩
/-- _law_caught(spot, worth, by_name): a new list of what the error shows -/
def spCaught (a : Ad) : Sp := fun vs H Q _ => ∃ (i : Nat) (v : V) (b : Bool), vs = [.int i, v, .bl b] ∧ i ≤ 10 ∧ ∀ p H', H p = none → Same H H' → H' p = some (.lst (.bl true :: ((List.range 10).map fun j => V.bl (decide (i = j + 1))) ++ [v])) → Q (.ref p) H'
theorem ok_caught {f : Addr} {fd fdT fdN : FuncData} (F : Fun K "_law_caught" "_law_caught" s_caught f fd) (T : Txt K mg a) (c_throw : CalX P w K mg base 3 a.throw fdT ["spot", "worth"] (spThrow a)) (c_throw_by_name : CalX P w K mg base 3 a.throw_by_name fdN ["spot", "worth"] (spThrow a)) :
    FnOk P w K mg base CX0 5 f fd ["spot", "worth", "by_name"] (spCaught a) := by
  refine F.ok sc_caught (fun vs H Q E h => by obtain ⟨i, v, b, rfl, _⟩ := h; rfl) (fun cdv A outer s H vs Q E hr h => ?_)
  have hr_throw : Room 3 (A.deeper (envOfC "_law_caught" (defScope s_caught) s.heap.objs.size f cdv)) := hr.mono (by decide)
  have hr_throw_by_name := hr_throw
  refine ⟨_, (pss_cons (ps_set (i := 3) sc_caught.nd rfl (Or.inl rfl) (pe_lst pa_nil))
      (pss_cons (ps_try_as (i := 4) (Wout := fun _ _ _ _ => False) rfl rfl sc_caught.nd rfl rfl ⟨rfl, by decide, Or.inl T.g_FilmError⟩ takes0
      (fun W pn xe tk _ => (pss_one (ps_if (pt_val (pv 2)) (pss_one (ps_expr (pe_callS c_throw_by_name.ok hr_throw_by_name rfl T.g_throw_by_name T.k_throw_by_name c_throw_by_name.binds (fun σ => passAt tk σ) (pa_cons (pv 0) (pa_cons (pv 1) pa_nil))))) (pss_one (ps_expr (pe_callS c_throw.ok hr_throw rfl T.g_throw T.k_throw c_throw.binds (fun σ => passAt tk σ) (pa_cons (pv 0) (pa_cons (pv 1) pa_nil))))))))
      (fun ea oe cls d pn hz hf => (pss_cons (ps_set (i := 3) sc_caught.nd rfl (Or.inl rfl) (pe_lst (pa_cons (pe_callB (call_isX hz hf) (by rfl) T.b_isinstance (by decide +kernel) (pa_cons (pv 4) (pa_cons (pe_bltn (v := .ty "ValueError") rfl T.b_ValueError (by decide +kernel) rfl) pa_nil))) (pa_cons (pe_callB (call_isX hz hf) (by rfl) T.b_isinstance (by decide +kernel) (pa_cons (pv 4) (pa_cons (pe_glob (v := .ref a.InvalidFilm) rfl T.g_InvalidFilm rfl) pa_nil))) (pa_cons (pe_callB (call_isX hz hf) (by rfl) T.b_isinstance (by decide +kernel) (pa_cons (pv 4) (pa_cons (pe_glob (v := .ref a.InvalidPiece) rfl T.g_InvalidPiece rfl) pa_nil))) pa_nil)))))
      (pss_cons (ps_set (i := 3) sc_caught.nd rfl (Or.inl rfl) (pe_op op_cat (pv 3) (pe_lst (pa_cons (pe_callB (call_isX hz hf) (by rfl) T.b_isinstance (by decide +kernel) (pa_cons (pv 4) (pa_cons (pe_glob (v := .ref a.InvalidRule) rfl T.g_InvalidRule rfl) pa_nil))) (pa_cons (pe_callB (call_isX hz hf) (by rfl) T.b_isinstance (by decide +kernel) (pa_cons (pv 4) (pa_cons (pe_glob (v := .ref a.UnknownStrip) rfl T.g_UnknownStrip rfl) pa_nil))) (pa_cons (pe_callB (call_isX hz hf) (by rfl) T.b_isinstance (by decide +kernel) (pa_cons (pv 4) (pa_cons (pe_glob (v := .ref a.UnknownRule) rfl T.g_UnknownRule rfl) pa_nil))) pa_nil))))))
      (pss_cons (ps_set (i := 3) sc_caught.nd rfl (Or.inl rfl) (pe_op op_cat (pv 3) (pe_lst (pa_cons (pe_callB (call_isX hz hf) (by rfl) T.b_isinstance (by decide +kernel) (pa_cons (pv 4) (pa_cons (pe_glob (v := .ref a.InvalidTable) rfl T.g_InvalidTable rfl) pa_nil))) (pa_cons (pe_callB (call_isX hz hf) (by rfl) T.b_isinstance (by decide +kernel) (pa_cons (pv 4) (pa_cons (pe_glob (v := .ref a.InvalidNumber) rfl T.g_InvalidNumber rfl) pa_nil))) (pa_cons (pe_callB (call_isX hz hf) (by rfl) T.b_isinstance (by decide +kernel) (pa_cons (pv 4) (pa_cons (pe_glob (v := .ref a.NoSplice) rfl T.g_NoSplice rfl) pa_nil))) pa_nil))))))
      (pss_one (ps_set (i := 3) sc_caught.nd rfl (Or.inl rfl) (pe_op op_cat (pv 3) (pe_lst (pa_cons (pe_callB (call_isX hz hf) (by rfl) T.b_isinstance (by decide +kernel) (pa_cons (pv 4) (pa_cons (pe_glob (v := .ref a.NothingToUndo) rfl T.g_NothingToUndo rfl) pa_nil))) (pa_cons (pe_callB (call_isX hz hf) (by rfl) T.b_isinstance (by decide +kernel) (pa_cons (pv 4) (pa_cons (pe_glob (v := .ref a.Unreadable) rfl T.g_Unreadable rfl) pa_nil))) (pa_cons (pe_errv hz hf (pv 4)) pa_nil))))))))))))
      (pss_one (ps_ret (pv 3))))), ?_⟩
  obtain ⟨i, v, b, rfl, hi, k⟩ := h
  refine ⟨Nat.zero_le _, fun p0 h0 => ⟨_, rfl, b, rfl, ?_⟩⟩
  have E := fun j h1 h2 => T.isE i j hi h1 h2
  have I := (T.err i).isi
  cases b
  all_goals
    refine ⟨_, rfl, _, rfl, i, v, rfl, hi, fun d hd => ⟨true, T.isF i hi, fun _ ea hea => ?_, fun z => nomatch z⟩⟩
    obtain ⟨hdH, n0⟩ := free_old hd
    refine ⟨_, rfl, _, d, _, _, _, _, rfl, rfl, rfl, upd_same, I, fun _ z => z, T.isV i hi, ?_⟩
    refine ⟨_, rfl, _, d, _, _, _, _, rfl, rfl, rfl, upd_same, I, fun _ z => z, E 1 (by decide) (by decide), ?_⟩
    refine ⟨_, rfl, _, d, _, _, _, _, rfl, rfl, rfl, upd_same, I, fun _ z => z, E 2 (by decide) (by decide), ?_⟩
    refine ⟨by show 3 ≤ sizeLine; decide, fun p1 h1 => ?_⟩
    have x1 := upd_old (u := .lst [.bl true, .bl (decide (i = 1)), .bl (decide (i = 2))]) (upd_same (H := upd H p0 (.lst [])) (a := d) (o := .xd [(("value" : Str), v)])) h1
    refine ⟨_, rfl, _, rfl, _, d, _, _, _, _, rfl, rfl, rfl, x1, I, fun _ z => z, E 3 (by decide) (by decide), ?_⟩
    refine ⟨_, rfl, _, d, _, _, _, _, rfl, rfl, rfl, x1, I, fun _ z => z, E 4 (by decide) (by decide), ?_⟩
    refine ⟨_, rfl, _, d, _, _, _, _, rfl, rfl, rfl, x1, I, fun _ z => z, E 5 (by decide) (by decide), ?_⟩
    refine ⟨by show 3 ≤ sizeLine; decide, fun q1 g1 => ?_⟩
    refine ⟨_, _, _, _, rfl, rfl, upd_old upd_same g1, upd_same, by show 6 ≤ sizeLine; decide, fun p2 h2 => ?_⟩
    have x2 := upd_old (u := .lst ([.bl true, .bl (decide (i = 1)), .bl (decide (i = 2))] ++ [.bl (decide (i = 3)), .bl (decide (i = 4)), .bl (decide (i = 5))])) (upd_old x1 g1) h2
    refine ⟨_, rfl, _, rfl, _, d, _, _, _, _, rfl, rfl, rfl, x2, I, fun _ z => z, E 6 (by decide) (by decide), ?_⟩
    refine ⟨_, rfl, _, d, _, _, _, _, rfl, rfl, rfl, x2, I, fun _ z => z, E 7 (by decide) (by decide), ?_⟩
    refine ⟨_, rfl, _, d, _, _, _, _, rfl, rfl, rfl, x2, I, fun _ z => z, E 8 (by decide) (by decide), ?_⟩
    refine ⟨by show 3 ≤ sizeLine; decide, fun q2 g2 => ?_⟩
    refine ⟨_, _, _, _, rfl, rfl, upd_old upd_same g2, upd_same, by show 9 ≤ sizeLine; decide, fun p3 h3 => ?_⟩
    have x3 := upd_old (u := .lst (([.bl true, .bl (decide (i = 1)), .bl (decide (i = 2))] ++ [.bl (decide (i = 3)), .bl (decide (i = 4)), .bl (decide (i = 5))]) ++ [.bl (decide (i = 6)), .bl (decide (i = 7)), .bl (decide (i = 8))])) (upd_old x2 g2) h3
    refine ⟨_, rfl, _, rfl, _, d, _, _, _, _, rfl, rfl, rfl, x3, I, fun _ z => z, E 9 (by decide) (by decide), ?_⟩
    refine ⟨_, rfl, _, d, _, _, _, _, rfl, rfl, rfl, x3, I, fun _ z => z, E 10 (by decide) (by decide), ?_⟩
    refine ⟨_, rfl, rfl, _, _, d, v, rfl, rfl, T.err i, x3, ?_⟩
    refine ⟨by show 3 ≤ sizeLine; decide, fun q3 g3 => ?_⟩
    refine ⟨_, _, _, _, rfl, rfl, upd_old upd_same g3, upd_same, by show 12 ≤ sizeLine; decide, fun p4 h4 => ?_⟩
    refine ⟨_, rfl, k p4 _ ?_ ?_ upd_same⟩
    · exact (free_old (free_old (free_old (free_old (free_old (free_old (free_old (free_old h4).1).1).1).1).1).1).1).1
    · exact same_new (same_new (same_new (same_new (same_new (same_new (same_new (same_new (same_new (Same.refl H) h0) hd) h1) g1) h2) g2) h3) g3) h4
abbrev s_worth : Stmt := top 18
theorem sc_worth : FnScope ["sack", "far", "some"] ["sack"] (defScope s_worth) := ⟨rfl, rfl, rfl, by decide +kernel, rfl, by decide +kernel, by decide +kernel⟩
/-- what a plain worth is -/
inductive Pl (S : Hp) : V → PyData → Prop
  | int (i : Int) (h : i.natAbs < 2 ^ 110) : Pl S (.int i) (.int i)
  | str (x : Str) (h : x.cps.toList.all (fun c => decide (c < 1000)) = true) (l : x.length ≤ 10) : Pl S (.str x) (.str x)
  | non : Pl S .non .none
  | bl (b : Bool) : Pl S (.bl b) (.bool b)
  | tup (p : Addr) (i : Int) (h : i.natAbs < 2 ^ 110) (e : S p = some (.tup [.int i, .str "a"])) : Pl S (.ref p) (.tuple [.int i, .str "a"])
/-- a worth: plain, or a list of the caller's own -/
def Wor (K : PySem.W.Frag) (a : Addr) (H0 H : Hp) (v : V) : Prop := ∃ S, Same S H ∧ S a = none ∧ ((∃ d, Pl S v d) ∨ ∃ p xs ds, v = .ref p ∧ H0 p = none ∧ p ≠ a ∧ S p = none ∧ H p = some (.lst xs) ∧ DpAll K S xs ds ∧ SzAll 2 300 ds ∧ xs.length ≤ 2)
def spWorth (K : PySem.W.Frag) : Sp := fun vs H Q _ => ∃ (a : Addr) (n : Nat), vs = [.ref a] ∧ Sk n H a ∧ n ≤ 100000 ∧ ∀ v H', Sk (n + 2) H' a → Kp a H H' → Wor K a H H' v → Q v H'
theorem ok_worth {f : Addr} {fd fdC : FuncData} (F : Fun K "_law_worth" "_law_worth" s_worth f fd) (T : Txt K mg a) (c_coin : Cal P w K mg base 1 a.coin fdC ["purse", "many"] spCoin) : FnOk P w K mg base CX0 2 f fd ["sack"] (spWorth K) := by
  refine F.ok sc_worth (fun vs H Q E h => by obtain ⟨a, n, rfl, _⟩ := h; rfl) (fun cdv A outer s H vs Q E hr h => ?_)
  have hr_coin := hr
  refine ⟨_, (pss_cons (ps_set (i := 1) sc_worth.nd rfl (Or.inl rfl) (pe_call c_coin.ok hr_coin rfl T.g_coin T.k_coin c_coin.binds .nil pass0 (pa_cons (pv 0) (pa_cons (pe_op op_powX pe_int pe_int) pa_nil))))
      (pss_cons (ps_set (i := 2) sc_worth.nd rfl (Or.inl rfl) (pe_lst (pa_cons (pv 1) (pa_cons (pe_un un_neg (pv 1)) (pa_cons pe_str (pa_cons pe_str (pa_cons pe_non (pa_cons pe_bl (pa_cons pe_bl (pa_cons (pe_tup (pa_cons (pv 1) (pa_cons pe_str pa_nil))) (pa_cons (pe_lst (pa_cons (pv 1) (pa_cons (pe_lst (pa_cons pe_str pa_nil)) pa_nil))) (pa_cons (pe_lst pa_nil) pa_nil))))))))))))
      (pss_one (ps_ret (pe_ix ix_list (pv 2) (pe_call c_coin.ok hr_coin rfl T.g_coin T.k_coin c_coin.binds .nil pass0 (pa_cons (pv 0) (pa_cons pe_int pa_nil))) (fun _ _ => rfl)))))), ?_⟩
  obtain ⟨sk, n, rfl, hsk, hn, k⟩ := h
  refine ⟨_, rfl, _, _, rfl, rfl, ⟨by decide, pow_ok (n := 4) (by decide) (by decide) (by decide) (by decide)⟩, sk, n, _, rfl, hsk, by omega, by decide, by decide, fun z H1 z0 z1 sk1 kp1 => ?_⟩
  have zb : z.natAbs < 2 ^ 110 := by
    have e1 : (10 : Int) ^ (30 : Int).toNat < 2 ^ 110 := by decide
    have e2 : ((2 ^ 110 : Nat) : Int) = 2 ^ 110 := by decide
    omega
  have zb2 : (-z).natAbs < 2 ^ 110 := by rw [Int.natAbs_neg]; exact zb
  refine ⟨_, rfl, _, rfl, _, rfl, _, rfl, by show 2 ≤ sizeLine; decide, fun t ht => ?_⟩
  refine ⟨_, rfl, by show 1 ≤ sizeLine; decide, fun l1 h1 => ⟨by show 2 ≤ sizeLine; decide, fun l2 h2 => ⟨by show 0 ≤ sizeLine; decide, fun l3 h3 => ⟨by show 10 ≤ sizeLine; decide, fun l hl => ?_⟩⟩⟩⟩
  have k1 := (sk1.new (o := .tup [.int z, .str "a"]) ht).new (o := .lst [.str "b"]) h1
  have k2 := k1.new (o := .lst [.int z, .ref l1]) h2
  have k3 := k2.new (o := .lst []) h3
  refine ⟨_, rfl, _, rfl, sk, n + 1, 10, rfl, k3.new hl, by omega, by decide, by decide, fun j H3 j0 j1 sk3 kp3 => ?_⟩
  have at_l := kp3 l _ (k3.ne hl) upd_same
  have at_l3 := kp3 l3 _ (k2.ne h3) (upd_old upd_same hl)
  have at_l2 := kp3 l2 _ (k1.ne h2) (upd_old (upd_old upd_same h3) hl)
  have at_l1 := kp3 l1 _ ((sk1.new ht).ne h1) (upd_old (upd_old (upd_old upd_same h2) h3) hl)
  have at_t := kp3 t _ (sk1.ne ht) (upd_old (upd_old (upd_old (upd_old upd_same h1) h2) h3) hl)
  have kp : Kp sk H H3 := (((((kp1.new ht).new h1).new h2).new h3).new hl).trans kp3
  have done : ∀ v, Wor K sk H H3 v → Q v H3 := fun v => k v H3 sk3 kp
  have plain : ∀ {v d}, Pl nil v d → Wor K sk H H3 v := fun h => ⟨nil, nil_same, rfl, .inl ⟨_, h⟩⟩
  have n21 : l1 ≠ l2 := ne_of_none upd_same h2
  have pick : ∀ m : Nat, j = (m : Int) → ∀ v, ([V.int z, V.int (-z), V.str "film", V.str "", V.non, V.bl true, V.bl false, V.ref t, V.ref l2, V.ref l3] : List V)[m]? = some v → Wor K sk H H3 v →
      ∃ p xs i v, V.ref l = .ref p ∧ V.int j = .int i ∧ SqL K H3 p xs ∧ atI xs i = some v ∧ Q v H3 :=
    fun m e v hv hw => ⟨l, _, j, v, rfl, rfl, SqL.of at_l, by rw [e]; exact atI_nat hv, done v hw⟩
  have cases10 : j = 0 ∨ j = 1 ∨ j = 2 ∨ j = 3 ∨ j = 4 ∨ j = 5 ∨ j = 6 ∨ j = 7 ∨ j = 8 ∨ j = 9 := by omega
  rcases cases10 with e | e | e | e | e | e | e | e | e | e
  · exact pick 0 e _ rfl (plain (.int z zb))
  · exact pick 1 e _ rfl (plain (.int (-z) zb2))
  · exact pick 2 e _ rfl (plain (.str _ (by decide) (by decide)))
  · exact pick 3 e _ rfl (plain (.str _ (by decide) (by decide)))
  · exact pick 4 e _ rfl (plain .non)
  · exact pick 5 e _ rfl (plain (.bl true))
  · exact pick 6 e _ rfl (plain (.bl false))
  · exact pick 7 e _ rfl ⟨one t _, one_same at_t, one_no (sk1.ne ht).symm, .inl ⟨_, .tup t z zb one_at⟩⟩
  · refine pick 8 e _ rfl ⟨one l1 _, one_same at_l1, one_no ((sk1.new ht).ne h1).symm, .inr ⟨l2, _, [.int z, .list [.str "b"]], rfl, (kp1.free (k1.ne h2) (free_old (free_old h2).1).1), k1.ne h2, one_no n21.symm, at_l2, ?_, ?_, Nat.le_refl 2⟩⟩
    · exact .cons (.int z) (.cons (.lst (SqL.of one_at) (.cons (.str _) .nil)) .nil)
    · exact (SzAll.cons (Sz.int zb (by decide) (by decide)) (SzAll.cons (Sz.list (k := 1) (SzAll.cons (Sz.str (n := 1) (lt16 (by decide)) (by decide)) .nil)) .nil)).mono (Nat.le_refl 2) (by decide)
  · exact pick 9 e _ rfl ⟨nil, nil_same, rfl, .inr ⟨l3, [], [], rfl, (kp1.free (k2.ne h3) (free_old (free_old (free_old h3).1).1).1), k2.ne h3, rfl, at_l3, .nil, ⟨rfl, by decide, by decide⟩, by decide⟩⟩
theorem Pl.dp {K : PySem.W.Frag} {S : Hp} {v : V} {d : PyData} (h : Pl S v d) : Dp K S v d := by
  cases h with
  | int i _ => exact .int i
  | str x _ _ => exact .str x
  | non => exact .non
  | bl b => exact .bl b
  | tup p i _ e => exact .tup (SqT.of e) (.cons (.int i) (.cons (.str _) .nil))
theorem Pl.sz {S : Hp} {v : V} {d : PyData} (h : Pl S v d) : Sz 3 300 d := by
  cases h with
  | int i h => exact (Sz.int (k := 0) h (by decide) (by decide)).mono (by decide) (by decide)
  | str x h l => exact (Sz.str (k := 0) (n := 10) (lt16 h) l).mono (by decide) (by decide)
  | non => exact (Sz.non (k := 0)).mono (by decide) (by decide)
  | bl b => exact (Sz.bool (k := 0) b).mono (by decide) (by decide)
  | tup p i h _ => exact (Sz.tuple (k := 0) (SzAll.cons (Sz.int h (by decide) (by decide)) (SzAll.cons (Sz.str (n := 1) (lt16 (by decide)) (by decide)) .nil))).mono (by decide) (by decide)
/-- a plain worth is no list -/
theorem Pl.isi {K : PySem.W.Frag} {S H : Hp} {v : V} {d : PyData} (s : Same S H) (h : Pl S v d) : ∃ t, TyX K H v t ∧ PySem.W.kitOne K t (.type "list") = some false := by
  cases h with
  | int i _ => exact ⟨_, .base (.int i), rfl⟩
  | str x _ _ => exact ⟨_, .base (.str x), rfl⟩
  | non => exact ⟨_, .base .non, rfl⟩
  | bl b => exact ⟨_, .base (.bl b), rfl⟩
  | tup p i _ e => exact ⟨_, .base (.tup (s _ _ e)), rfl⟩
abbrev s_right : Stmt := top 19
theorem sc_right : FnScope ["sack", "spot", "worth", "flags", "due", "one"] ["sack"] (defScope s_right) := ⟨rfl, rfl, rfl, by decide +kernel, rfl, by decide +kernel, by decide +kernel⟩
def spRight (K : PySem.W.Frag) : Sp := fun vs H Q _ => ∃ (a : Addr) (n : Nat), vs = [.ref a] ∧ Sk n H a ∧ n ≤ 1000 ∧ ∀ H', Kp a H H' → Q (.bl true) H'
theorem ok_right {f : Addr} {fd fdC fdW fdE : FuncData} (F : Fun K "_law_right" "_law_right" s_right f fd) (T : Txt K mg a) (c_coin : Cal P w K mg base 1 a.coin fdC ["purse", "many"] spCoin) (c_worth : Cal P w K mg base 2 a.worth fdW ["sack"] (spWorth K))
    (c_caught : Cal P w K mg base 5 a.caught fdE ["spot", "worth", "by_name"] (spCaught a)) : Gd P w K mg base 7 f fd ["sack"] (spRight K) := by
  refine okG F sc_right (fun vs H Q E h => by obtain ⟨a, n, rfl, _⟩ := h; rfl) (fun cdv A outer s H vs Q E hG hr h => ?_)
  have hr_coin := hr.mono (show 1 ≤ 6 by decide)
  have hr_worth := hr.mono (show 2 ≤ 6 by decide)
  have hr_caught := hr.mono (show 5 ≤ 6 by decide)
  refine ⟨_, (pss_cons (ps_for PassesOwn.never rfl (pi_range1 rfl T.b_range (pa_cons pe_int pa_nil)) (pg_name (i := 1) sc_right.nd rfl (Or.inr rfl))
      (pss_cons (ps_set (i := 2) sc_right.nd rfl (Or.inl rfl) (pe_call c_worth.ok hr_worth rfl T.g_worth T.k_worth c_worth.binds .nil pass0 (pa_cons (pv 0) pa_nil)))
      (pss_cons (ps_set (i := 3) sc_right.nd rfl (Or.inl rfl) (pe_call c_caught.ok hr_caught rfl T.g_caught T.k_caught c_caught.binds .nil pass0 (pa_cons (pv 1) (pa_cons (pv 2) (pa_cons (pe_cmpR op_eq (pe_call c_coin.ok hr_coin rfl T.g_coin T.k_coin c_coin.binds .nil pass0 (pa_cons (pv 0) (pa_cons pe_int pa_nil))) pe_int (nomark _)) pa_nil)))))
      (Evl.pss_cut (ps_if (pt_val (pe_callB call_isi (by rfl) T.b_isinstance (by decide +kernel) (pa_cons (pv 2) (pa_cons (pe_bltn (v := .ty "list") rfl T.b_list (by decide +kernel) rfl) pa_nil)))) (pss_one (ps_expr (pe_bm PySem.F.plainAttrs_list PySem.F.slot_list_append PySem.F.type_list_append mt_append (pv 2) (pa_cons pe_int pa_nil)))) pss_nil)
      (pss_cons (ps_set (i := 4) sc_right.nd rfl (Or.inl rfl) (pe_op op_cat (pe_op op_cat (pe_lst (pa_cons pe_bl pa_nil)) (pe_lc (own := [("one", 5)]) (g := gName 5) (tt := tYes) rfl sc_right.nd (pi_range2 rfl T.b_range (pa_cons pe_int (pa_cons pe_int pa_nil))) (blkOk_by (own := [("one", 5)]) (N := ["sack", "spot", "worth", "flags", "due", "one"]) (sc := defScope s_right) (by decide +kernel)) (fun _ _ _ _ _ => pg_name (i := 5) sc_right.nd rfl (Or.inl rfl)) (fun _ _ _ _ _ => pts_nil) (fun _ _ _ _ _ => (pe_cmpR op_eq (pv 5) (pv 1) (nomark _))))) (pe_lst (pa_cons (pv 2) pa_nil))))
      (pss_one (ps_if (pt_cmpR op_ne (pe_callB (call_repr hG hr.units) (by rfl) T.b_repr (by decide +kernel) (pa_cons (pv 3) pa_nil)) (pe_callB (call_repr hG hr.units) (by rfl) T.b_repr (by decide +kernel) (pa_cons (pv 4) pa_nil)) (nomark _)) (pss_one (ps_ret pe_bl)) pss_nil)))))))
      (pss_one (ps_ret pe_bl))), ?_⟩
  obtain ⟨sk, n, rfl, hsk, hn, k⟩ := h
  refine ⟨11, rfl, by decide, by decide, for_range (n := 11) (fun i σ H' => ∃ x1 x2 x3 x4 x5, σ = [some (.ref sk), x1, x2, x3, x4, x5] ∧ Sk (n + 3 * i) H' sk ∧ Kp sk H H') ⟨_, _, _, _, _, rfl, hsk, Kp.refl _ _⟩ ?_ ?_⟩
  · rintro i σ H1 hi ⟨x1, x2, x3, x4, x5, rfl, sk1, kp1⟩
    rw [Int.zero_add]
    refine ⟨_, rfl, sk, n + 3 * i, rfl, sk1, by omega, fun v H2 sk2 kp2 wor => ?_⟩
    refine ⟨_, rfl, _, rfl, _, rfl, sk, _, 2, rfl, sk2, by omega, by decide, by decide, fun z H3 z0 z1 sk3 kp3 => ⟨rfl, i, v, _, rfl, by omega, fun p H4 np s4 hp => ?_⟩⟩
    obtain ⟨S, sS, Sa, wor⟩ := wor
    have S4 : Same S H4 := (same_kp sS kp3 Sa).trans s4
    have kp4 : Kp sk H H4 := kp_same ((kp1.trans kp2).trans kp3) s4
    have sk4 := sk_same sk3 s4
    refine ⟨fun σ H' => σ = [some (.ref sk), some (.int i), some v, some (.ref p), x4, x5] ∧ Sk (n + 3 * (i + 1)) H' sk ∧ Kp sk H H' ∧ H' p = some (.lst (.bl true :: ((List.range 10).map fun j => V.bl (decide (i = j + 1))) ++ [v])) ∧
      ∃ d, Dp K H' v d ∧ Sz 3 2000 d, ?_, ?_⟩
    · rcases wor with ⟨d, pl⟩ | ⟨q, xs, ds, rfl, q1, qa, Sq, hq, hd, hz, hx⟩
      · obtain ⟨t, ty, kt⟩ := pl.isi (K := K) S4
        refine ⟨_, rfl, _, _, t, _, false, rfl, .ty _, ty, kt, _, rfl, iteF ⟨rfl, sk4.mono (by omega), kp4, hp, d, Dp.mono S4 _ _ pl.dp, pl.sz.mono (by decide) (by decide)⟩⟩
      · have hq4 := s4 _ _ (kp3 _ _ qa hq)
        refine ⟨_, rfl, _, _, _, _, true, rfl, .ty _, .base (.lst hq4), rfl, _, rfl, iteT ⟨_, rfl, .inl ⟨rfl, _, SqL.of hq4⟩, q, xs, _, rfl, rfl, hq4, small1000 (by omega), ?_⟩⟩
        have pq : q ≠ p := ne_of_none (kp3 _ _ qa hq) np
        refine ⟨rfl, (sk_mut sk4 qa).mono (by omega), ?_, by rw [upd_ne pq.symm]; exact hp, .list (ds ++ [.int 7]), .lst (SqL.of upd_same) (DpAll.append (DpAll.mono (same_mut S4 Sq) _ _ hd) (.cons (.int 7) .nil)), ?_⟩
        · exact kp_mut kp4 (kp1.free qa q1)
        · exact (Sz.list (hz.append (SzAll.cons (Sz.int (n := 3) (by decide) (by decide) (by decide)) .nil))).mono (by decide) (by decide)
    · rintro σ H5 ⟨rfl, sk5, kp5, hp5, d, hd, hz⟩
      refine ⟨by show 1 ≤ sizeLine; decide, fun q1 g1 => ⟨1, 11, rfl, by decide, fun D hD => lc_range (lo := 1) (n := 10)
        (fun j H' => H' = upd (upd H5 q1 (.lst [.bl true])) D (.lst ((List.range j).map fun m => V.bl (decide (i = m + 1))))) rfl ?_ ?_⟩⟩
      · rintro j H' hj rfl
        refine ⟨rfl, ?_⟩
        refine ⟨_, rfl, _, rfl, rfl, _, upd_same, ?_, ?_⟩
        · rw [List.length_map, List.length_range]
          exact small1000 (by omega)
        · rw [upd_upd, List.range_succ, List.map_append]
          have e : decide (V.int (1 + (j : Int)) = V.int (i : Int)) = decide (i = j + 1) := by
            rw [dec_int]
            by_cases z : i = j + 1
            · subst z
              have : (1 + (j : Int) == ((j + 1 : Nat) : Int)) = true := by simp; omega
              rw [this]; simp
            · have : (1 + (j : Int) == (i : Int)) = false := by simp; omega
              rw [this, decide_eq_false z]
          rw [e]
          rfl
      · rintro _ rfl
        have x1 : upd (upd H5 q1 (.lst [.bl true])) D (.lst ((List.range 10).map fun m => V.bl (decide (i = m + 1)))) q1 = some (.lst [.bl true]) := upd_old upd_same hD
        refine ⟨_, _, _, _, rfl, rfl, x1, upd_same, by rw [List.length_map, List.length_range]; show 11 ≤ sizeLine; decide, fun q2 g2 => ?_⟩
        refine ⟨_, rfl, by show 1 ≤ sizeLine; decide, fun q3 g3 => ⟨_, _, _, _, rfl, rfl, upd_old upd_same g3, upd_same, ?_, fun q4 g4 => ?_⟩⟩
        · rw [List.length_append, List.length_map, List.length_range]; show 12 ≤ sizeLine; decide
        have s6 := same_new (u := .lst (([.bl true] ++ (List.range 10).map fun m => V.bl (decide (i = m + 1))) ++ [v])) (same_new (same_new (same_new (same_new (Same.refl H5) g1) hD) g2) g3) g4
        have df : ∀ H', Dp K H' v d → DpAll K H' (.bl true :: ((List.range 10).map fun j => V.bl (decide (i = j + 1))) ++ [v]) (.bool true :: ((List.range 10).map fun j => PyData.bool (decide (i = j + 1))) ++ [d]) := by
          intro H' h
          have b := DpAll.bools (K := K) (H := H') ((List.range 10).map fun j => decide (i = j + 1))
          rw [List.map_map, List.map_map] at b
          exact .cons (.bl true) (DpAll.append b (.cons h .nil))
        have dz : SzAll 3 3000 (.bool true :: ((List.range 10).map fun j => PyData.bool (decide (i = j + 1))) ++ [d]) := by
          have b : ∀ x ∈ ((List.range 10).map fun j => PyData.bool (decide (i = j + 1))), Sz 3 5 x := by
            intro x hx
            obtain ⟨j, _, rfl⟩ := List.mem_map.mp hx
            exact Sz.bool _
          exact (SzAll.cons (Sz.bool true) ((SzAll.of b).append (SzAll.cons hz .nil))).mono (Nat.le_refl _) (by rw [List.length_map, List.length_range]; decide)
        have lz := Sz.list dz
        refine ⟨_, rfl, _, _, rfl, .lst (SqL.of (s6 _ _ hp5)) (df _ (Dp.mono s6 _ _ hd)), lz.sh, Nat.le_trans lz.ln (by decide), Nat.le_trans lz.dp (by decide), ?_⟩
        refine ⟨_, rfl, _, _, rfl, .lst (SqL.of upd_same) (df _ (Dp.mono s6 _ _ hd)), lz.sh, Nat.le_trans lz.ln (by decide), Nat.le_trans lz.dp (by decide), ?_⟩
        refine ⟨rfl, _, rfl, ?_⟩
        rw [decide_eq_true rfl]
        exact iteF ⟨_, _, _, _, _, rfl, sk_same sk5 s6, kp_same kp5 s6⟩
  · rintro σ H1 ⟨x1, x2, x3, x4, x5, rfl, sk1, kp1⟩
    exact k _ kp1
abbrev s_law : Stmt := top 20
theorem sc_law : FnScope ["script", "spot", "sack"] ["script"] (defScope s_law) := ⟨rfl, rfl, rfl, by decide +kernel, rfl, by decide +kernel, by decide +kernel⟩
def spLaw (K : PySem.W.Frag) : Sp := fun vs H Q _ => ∃ (a : Addr) (ns : List Int), vs = [.ref a] ∧ SqL K H a (ns.map V.int) ∧ ns.length ≤ 63 ∧ (∀ z ∈ ns, Builtin.Int.intBits z ≤ 1048576) ∧ ∀ H', Q (.bl true) H'
theorem ok_law {f : Addr} {fd fdP fdR : FuncData} (F : Fun K "law" "law" s_law f fd) (T : Txt K mg a) (c_purse : Cal P w K mg base 1 a.purse fdP ["script", "spot"] (spPurse K)) (c_right : CalG P w K mg base 7 a.right fdR ["sack"] (spRight K)) :
    Gd P w K mg base 8 f fd ["script"] (spLaw K) := by
  refine okG F sc_law (fun vs H Q E h => by obtain ⟨a, ns, rfl, _⟩ := h; rfl) (fun cdv A outer s H vs Q E hG hr h => ?_)
  have hr_purse := hr.mono (show 1 ≤ 7 by decide)
  have hr_right := hr
  refine ⟨_, (pss_cons (ps_for PassesOwn.never rfl (pi_range1 rfl T.b_range (pa_cons (pe_callB (call_max2 rfl) (by rfl) T.b_max (by decide +kernel) (pa_cons pe_int (pa_cons (pe_callB (call_min2 rfl) (by rfl) T.b_min (by decide +kernel) (pa_cons pe_int (pa_cons (pe_callB call_len_seq (by rfl) T.b_len PySem.boot_len (pa_cons (pv 0) pa_nil)) pa_nil))) pa_nil))) pa_nil)) (pg_name (i := 1) sc_law.nd rfl (Or.inl rfl))
      (pss_cons (ps_set (i := 2) sc_law.nd rfl (Or.inl rfl) (pe_call c_purse.ok hr_purse rfl T.g_purse T.k_purse c_purse.binds .nil pass0 (pa_cons (pv 0) (pa_cons (pv 1) pa_nil))))
      (pss_one (ps_if (pt_not (pt_val (pe_callG hG c_right.go hr_right rfl T.g_right T.k_right c_right.binds (pa_cons (pv 2) pa_nil)))) (pss_one (ps_ret pe_bl)) pss_nil))))
      (pss_one (ps_ret pe_bl))), ?_⟩
  obtain ⟨sc, ns, rfl, hS, hl, hb, k⟩ := h
  refine ⟨_, rfl, sc, _, rfl, .inl hS, _, _, rfl, _, _, rfl, _, rfl, ?_⟩
  rw [List.length_map]
  generalize hm : (if (if ((ns.length : Nat) : Int) < 8 then ((ns.length : Nat) : Int) else 8) > 1 then (if ((ns.length : Nat) : Int) < 8 then ((ns.length : Nat) : Int) else 8) else 1) = m
  have hm8 : 1 ≤ m ∧ m ≤ 8 := by
    subst hm
    split <;> split <;> omega
  refine ⟨by omega, by omega, for_range (lo := 0) (n := m.toNat) (fun i σ H' => ∃ x1 x2, σ = [some (.ref sc), x1, x2] ∧ SqL K H' sc (ns.map V.int)) ⟨_, _, rfl, hS⟩ ?_ ?_⟩
  · rintro i σ H1 hi ⟨x1, x2, rfl, h1⟩
    rw [Int.zero_add]
    refine ⟨_, rfl, _, rfl, sc, ns, i, rfl, h1, hl, hb, by omega, fun p H2 np sk kp => ?_⟩
    refine ⟨_, rfl, p, 0, rfl, sk, by omega, fun H3 kp3 => ⟨_, rfl, ?_⟩⟩
    exact iteF ⟨_, _, rfl, seq_kp h1 np (kp.trans kp3)⟩
  · rintro σ H1 ⟨x1, x2, rfl, h1⟩
    exact k _
end
/-! ### the end -/
theorem all_mk {P : Program} {w : World} {K : PySem.W.Frag} {h : Heap} {mg : Str → Option Value} {fa c0 c1 c2 c3 c4 c5 c6 c7 c8 c9 c10 fI fcoin fpurse fthrow fthrow_by_name fcaught fworth fright flaw : Addr} (X : K.In h) (G : h.Ns mainGlobals mg) (hfa : mg "law" = some (.ref fa))
    {nm0 q0 : Str} {N0 : Addr} {bs0 bm0 : List Value} {sn0 : List Str} {sb0 : List Value} {ab0 : Bool} {co0 : Option Bool} {dd0 : Option Addr} {ma0 mb0 mc0 md0 me0 : Option Value}
    {nm1 q1 : Str} {N1 : Addr} {bs1 bm1 : List Value} {sn1 : List Str} {sb1 : List Value} {ab1 : Bool} {co1 : Option Bool} {dd1 : Option Addr} {ma1 mb1 mc1 md1 me1 : Option Value}
    {nm2 q2 : Str} {N2 : Addr} {bs2 bm2 : List Value} {sn2 : List Str} {sb2 : List Value} {ab2 : Bool} {co2 : Option Bool} {dd2 : Option Addr} {ma2 mb2 mc2 md2 me2 : Option Value}
    {nm3 q3 : Str} {N3 : Addr} {bs3 bm3 : List Value} {sn3 : List Str} {sb3 : List Value} {ab3 : Bool} {co3 : Option Bool} {dd3 : Option Addr} {ma3 mb3 mc3 md3 me3 : Option Value}
    {nm4 q4 : Str} {N4 : Addr} {bs4 bm4 : List Value} {sn4 : List Str} {sb4 : List Value} {ab4 : Bool} {co4 : Option Bool} {dd4 : Option Addr} {ma4 mb4 mc4 md4 me4 : Option Value}
    {nm5 q5 : Str} {N5 : Addr} {bs5 bm5 : List Value} {sn5 : List Str} {sb5 : List Value} {ab5 : Bool} {co5 : Option Bool} {dd5 : Option Addr} {ma5 mb5 mc5 md5 me5 : Option Value}
    {nm6 q6 : Str} {N6 : Addr} {bs6 bm6 : List Value} {sn6 : List Str} {sb6 : List Value} {ab6 : Bool} {co6 : Option Bool} {dd6 : Option Addr} {ma6 mb6 mc6 md6 me6 : Option Value}
    {nm7 q7 : Str} {N7 : Addr} {bs7 bm7 : List Value} {sn7 : List Str} {sb7 : List Value} {ab7 : Bool} {co7 : Option Bool} {dd7 : Option Addr} {ma7 mb7 mc7 md7 me7 : Option Value}
    {nm8 q8 : Str} {N8 : Addr} {bs8 bm8 : List Value} {sn8 : List Str} {sb8 : List Value} {ab8 : Bool} {co8 : Option Bool} {dd8 : Option Addr} {ma8 mb8 mc8 md8 me8 : Option Value}
    {nm9 q9 : Str} {N9 : Addr} {bs9 bm9 : List Value} {sn9 : List Str} {sb9 : List Value} {ab9 : Bool} {co9 : Option Bool} {dd9 : Option Addr} {ma9 mb9 mc9 md9 me9 : Option Value}
    {nm10 q10 : Str} {N10 : Addr} {bs10 bm10 : List Value} {sn10 : List Str} {sb10 : List Value} {ab10 : Bool} {co10 : Option Bool} {dd10 : Option Addr} {ma10 mb10 mc10 md10 me10 : Option Value}
    {odI anI : Option Addr} {slI : Array (Option Value)} {ocI kVI dcI pmI cdI ctI : Value}
    {odcoin ancoin : Option Addr} {slcoin : Array (Option Value)} {occoin kVcoin dccoin pmcoin cdcoin ctcoin : Value}
    {odpurse anpurse : Option Addr} {slpurse : Array (Option Value)} {ocpurse kVpurse dcpurse pmpurse cdpurse ctpurse : Value}
    {odthrow anthrow : Option Addr} {slthrow : Array (Option Value)} {octhrow kVthrow dcthrow pmthrow cdthrow ctthrow : Value}
    {odthrow_by_name anthrow_by_name : Option Addr} {slthrow_by_name : Array (Option Value)} {octhrow_by_name kVthrow_by_name dcthrow_by_name pmthrow_by_name cdthrow_by_name ctthrow_by_name : Value}
    {odcaught ancaught : Option Addr} {slcaught : Array (Option Value)} {occaught kVcaught dccaught pmcaught cdcaught ctcaught : Value}
    {odworth anworth : Option Addr} {slworth : Array (Option Value)} {ocworth kVworth dcworth pmworth cdworth ctworth : Value}
    {odright anright : Option Addr} {slright : Array (Option Value)} {ocright kVright dcright pmright cdright ctright : Value}
    {odlaw anlaw : Option Addr} {sllaw : Array (Option Value)} {oclaw kVlaw dclaw pmlaw cdlaw ctlaw : Value}
    (a0 : PySem.W.nsIn K mainGlobals "FilmError" = some (some (.ref c0)))
    (x0 : K.lookup c0 = some (excClassObj nm0 q0 c0 N0 bs0 bm0 true sn0 sb0 ab0 co0 dd0 ma0 mb0 mc0 md0 me0 "ValueError.__new__"))
    (r0 : PySem.HandSPX.refsVE bm0 = true)
    (sa0 : PySem.W.findIn K (.ref c0) "__setattr__" = some (some (.builtin "object.__setattr__")))
    (ga0 : PySem.W.findIn K (.ref c0) "__getattribute__" = some (some (.builtin "BaseException.__getattribute__")))
    (gg0 : PySem.W.findIn K (.ref c0) "__getattr__" = some none)
    (no0 : PySem.W.findIn K (.ref c0) "value" = some none)
    (ini0 : PySem.W.findIn K (.ref c0) "__init__" = some (some (.ref fI)))
    (kp0 : PySem.W.keepIn K (.ref c0) = true)
    (ex0 : PySem.W.subIn K (.ref c0) (.type "BaseException") = some true)
    (ty0 : PySem.W.typeIn K (.ref c0) = some (.type "type"))
    (kl0 : PySem.W.findIn K (.ref c0) "__class__" = some (some (.builtin "object.__class__")))
    (hd0 : PySem.W.hasDictIn K c0 = true)
    (ic0 : PySem.W.isClsIn K c0 = true)
    (ob0 : PySem.W.mroIn K c0 (.type "object") = some true)
    (v0 : PySem.W.subIn K (.ref c0) (.type "ValueError") = some true)
    (a1 : PySem.W.nsIn K mainGlobals "InvalidFilm" = some (some (.ref c1)))
    (x1 : K.lookup c1 = some (excClassObj nm1 q1 c1 N1 bs1 bm1 true sn1 sb1 ab1 co1 dd1 ma1 mb1 mc1 md1 me1 "ValueError.__new__"))
    (r1 : PySem.HandSPX.refsVE bm1 = true)
    (sa1 : PySem.W.findIn K (.ref c1) "__setattr__" = some (some (.builtin "object.__setattr__")))
    (ga1 : PySem.W.findIn K (.ref c1) "__getattribute__" = some (some (.builtin "BaseException.__getattribute__")))
    (gg1 : PySem.W.findIn K (.ref c1) "__getattr__" = some none)
    (no1 : PySem.W.findIn K (.ref c1) "value" = some none)
    (ini1 : PySem.W.findIn K (.ref c1) "__init__" = some (some (.ref fI)))
    (kp1 : PySem.W.keepIn K (.ref c1) = true)
    (ex1 : PySem.W.subIn K (.ref c1) (.type "BaseException") = some true)
    (ty1 : PySem.W.typeIn K (.ref c1) = some (.type "type"))
    (kl1 : PySem.W.findIn K (.ref c1) "__class__" = some (some (.builtin "object.__class__")))
    (hd1 : PySem.W.hasDictIn K c1 = true)
    (ic1 : PySem.W.isClsIn K c1 = true)
    (ob1 : PySem.W.mroIn K c1 (.type "object") = some true)
    (v1 : PySem.W.subIn K (.ref c1) (.type "ValueError") = some true)
    (a2 : PySem.W.nsIn K mainGlobals "InvalidPiece" = some (some (.ref c2)))
    (x2 : K.lookup c2 = some (excClassObj nm2 q2 c2 N2 bs2 bm2 true sn2 sb2 ab2 co2 dd2 ma2 mb2 mc2 md2 me2 "ValueError.__new__"))
    (r2 : PySem.HandSPX.refsVE bm2 = true)
    (sa2 : PySem.W.findIn K (.ref c2) "__setattr__" = some (some (.builtin "object.__setattr__")))
    (ga2 : PySem.W.findIn K (.ref c2) "__getattribute__" = some (some (.builtin "BaseException.__getattribute__")))
    (gg2 : PySem.W.findIn K (.ref c2) "__getattr__" = some none)
    (no2 : PySem.W.findIn K (.ref c2) "value" = some none)
    (ini2 : PySem.W.findIn K (.ref c2) "__init__" = some (some (.ref fI)))
    (kp2 : PySem.W.keepIn K (.ref c2) = true)
    (ex2 : PySem.W.subIn K (.ref c2) (.type "BaseException") = some true)
    (ty2 : PySem.W.typeIn K (.ref c2) = some (.type "type"))
    (kl2 : PySem.W.findIn K (.ref c2) "__class__" = some (some (.builtin "object.__class__")))
    (hd2 : PySem.W.hasDictIn K c2 = true)
    (ic2 : PySem.W.isClsIn K c2 = true)
    (ob2 : PySem.W.mroIn K c2 (.type "object") = some true)
    (v2 : PySem.W.subIn K (.ref c2) (.type "ValueError") = some true)
    (a3 : PySem.W.nsIn K mainGlobals "InvalidRule" = some (some (.ref c3)))
    (x3 : K.lookup c3 = some (excClassObj nm3 q3 c3 N3 bs3 bm3 true sn3 sb3 ab3 co3 dd3 ma3 mb3 mc3 md3 me3 "ValueError.__new__"))
    (r3 : PySem.HandSPX.refsVE bm3 = true)
    (sa3 : PySem.W.findIn K (.ref c3) "__setattr__" = some (some (.builtin "object.__setattr__")))
    (ga3 : PySem.W.findIn K (.ref c3) "__getattribute__" = some (some (.builtin "BaseException.__getattribute__")))
    (gg3 : PySem.W.findIn K (.ref c3) "__getattr__" = some none)
    (no3 : PySem.W.findIn K (.ref c3) "value" = some none)
    (ini3 : PySem.W.findIn K (.ref c3) "__init__" = some (some (.ref fI)))
    (kp3 : PySem.W.keepIn K (.ref c3) = true)
    (ex3 : PySem.W.subIn K (.ref c3) (.type "BaseException") = some true)
    (ty3 : PySem.W.typeIn K (.ref c3) = some (.type "type"))
    (kl3 : PySem.W.findIn K (.ref c3) "__class__" = some (some (.builtin "object.__class__")))
    (hd3 : PySem.W.hasDictIn K c3 = true)
    (ic3 : PySem.W.isClsIn K c3 = true)
    (ob3 : PySem.W.mroIn K c3 (.type "object") = some true)
    (v3 : PySem.W.subIn K (.ref c3) (.type "ValueError") = some true)
    (a4 : PySem.W.nsIn K mainGlobals "UnknownStrip" = some (some (.ref c4)))
    (x4 : K.lookup c4 = some (excClassObj nm4 q4 c4 N4 bs4 bm4 true sn4 sb4 ab4 co4 dd4 ma4 mb4 mc4 md4 me4 "ValueError.__new__"))
    (r4 : PySem.HandSPX.refsVE bm4 = true)
    (sa4 : PySem.W.findIn K (.ref c4) "__setattr__" = some (some (.builtin "object.__setattr__")))
    (ga4 : PySem.W.findIn K (.ref c4) "__getattribute__" = some (some (.builtin "BaseException.__getattribute__")))
    (gg4 : PySem.W.findIn K (.ref c4) "__getattr__" = some none)
    (no4 : PySem.W.findIn K (.ref c4) "value" = some none)
    (ini4 : PySem.W.findIn K (.ref c4) "__init__" = some (some (.ref fI)))
    (kp4 : PySem.W.keepIn K (.ref c4) = true)
    (ex4 : PySem.W.subIn K (.ref c4) (.type "BaseException") = some true)
    (ty4 : PySem.W.typeIn K (.ref c4) = some (.type "type"))
    (kl4 : PySem.W.findIn K (.ref c4) "__class__" = some (some (.builtin "object.__class__")))
    (hd4 : PySem.W.hasDictIn K c4 = true)
    (ic4 : PySem.W.isClsIn K c4 = true)
    (ob4 : PySem.W.mroIn K c4 (.type "object") = some true)
    (v4 : PySem.W.subIn K (.ref c4) (.type "ValueError") = some true)
    (a5 : PySem.W.nsIn K mainGlobals "UnknownRule" = some (some (.ref c5)))
    (x5 : K.lookup c5 = some (excClassObj nm5 q5 c5 N5 bs5 bm5 true sn5 sb5 ab5 co5 dd5 ma5 mb5 mc5 md5 me5 "ValueError.__new__"))
    (r5 : PySem.HandSPX.refsVE bm5 = true)
    (sa5 : PySem.W.findIn K (.ref c5) "__setattr__" = some (some (.builtin "object.__setattr__")))
    (ga5 : PySem.W.findIn K (.ref c5) "__getattribute__" = some (some (.builtin "BaseException.__getattribute__")))
    (gg5 : PySem.W.findIn K (.ref c5) "__getattr__" = some none)
    (no5 : PySem.W.findIn K (.ref c5) "value" = some none)
    (ini5 : PySem.W.findIn K (.ref c5) "__init__" = some (some (.ref fI)))
    (kp5 : PySem.W.keepIn K (.ref c5) = true)
    (ex5 : PySem.W.subIn K (.ref c5) (.type "BaseException") = some true)
    (ty5 : PySem.W.typeIn K (.ref c5) = some (.type "type"))
    (kl5 : PySem.W.findIn K (.ref c5) "__class__" = some (some (.builtin "object.__class__")))
    (hd5 : PySem.W.hasDictIn K c5 = true)
    (ic5 : PySem.W.isClsIn K c5 = true)
    (ob5 : PySem.W.mroIn K c5 (.type "object") = some true)
    (v5 : PySem.W.subIn K (.ref c5) (.type "ValueError") = some true)
    (a6 : PySem.W.nsIn K mainGlobals "InvalidTable" = some (some (.ref c6)))
    (x6 : K.lookup c6 = some (excClassObj nm6 q6 c6 N6 bs6 bm6 true sn6 sb6 ab6 co6 dd6 ma6 mb6 mc6 md6 me6 "ValueError.__new__"))
    (r6 : PySem.HandSPX.refsVE bm6 = true)
    (sa6 : PySem.W.findIn K (.ref c6) "__setattr__" = some (some (.builtin "object.__setattr__")))
    (ga6 : PySem.W.findIn K (.ref c6) "__getattribute__" = some (some (.builtin "BaseException.__getattribute__")))
    (gg6 : PySem.W.findIn K (.ref c6) "__getattr__" = some none)
    (no6 : PySem.W.findIn K (.ref c6) "value" = some none)
    (ini6 : PySem.W.findIn K (.ref c6) "__init__" = some (some (.ref fI)))
    (kp6 : PySem.W.keepIn K (.ref c6) = true)
    (ex6 : PySem.W.subIn K (.ref c6) (.type "BaseException") = some true)
    (ty6 : PySem.W.typeIn K (.ref c6) = some (.type "type"))
    (kl6 : PySem.W.findIn K (.ref c6) "__class__" = some (some (.builtin "object.__class__")))
    (hd6 : PySem.W.hasDictIn K c6 = true)
    (ic6 : PySem.W.isClsIn K c6 = true)
    (ob6 : PySem.W.mroIn K c6 (.type "object") = some true)
    (v6 : PySem.W.subIn K (.ref c6) (.type "ValueError") = some true)
    (a7 : PySem.W.nsIn K mainGlobals "InvalidNumber" = some (some (.ref c7)))
    (x7 : K.lookup c7 = some (excClassObj nm7 q7 c7 N7 bs7 bm7 true sn7 sb7 ab7 co7 dd7 ma7 mb7 mc7 md7 me7 "ValueError.__new__"))
    (r7 : PySem.HandSPX.refsVE bm7 = true)
    (sa7 : PySem.W.findIn K (.ref c7) "__setattr__" = some (some (.builtin "object.__setattr__")))
    (ga7 : PySem.W.findIn K (.ref c7) "__getattribute__" = some (some (.builtin "BaseException.__getattribute__")))
    (gg7 : PySem.W.findIn K (.ref c7) "__getattr__" = some none)
    (no7 : PySem.W.findIn K (.ref c7) "value" = some none)
    (ini7 : PySem.W.findIn K (.ref c7) "__init__" = some (some (.ref fI)))
    (kp7 : PySem.W.keepIn K (.ref c7) = true)
    (ex7 : PySem.W.subIn K (.ref c7) (.type "BaseException") = some true)
    (ty7 : PySem.W.typeIn K (.ref c7) = some (.type "type"))
    (kl7 : PySem.W.findIn K (.ref c7) "__class__" = some (some (.builtin "object.__class__")))
    (hd7 : PySem.W.hasDictIn K c7 = true)
    (ic7 : PySem.W.isClsIn K c7 = true)
    (ob7 : PySem.W.mroIn K c7 (.type "object") = some true)
    (v7 : PySem.W.subIn K (.ref c7) (.type "ValueError") = some true)
    (a8 : PySem.W.nsIn K mainGlobals "NoSplice" = some (some (.ref c8)))
    (x8 : K.lookup c8 = some (excClassObj nm8 q8 c8 N8 bs8 bm8 true sn8 sb8 ab8 co8 dd8 ma8 mb8 mc8 md8 me8 "ValueError.__new__"))
    (r8 : PySem.HandSPX.refsVE bm8 = true)
    (sa8 : PySem.W.findIn K (.ref c8) "__setattr__" = some (some (.builtin "object.__setattr__")))
    (ga8 : PySem.W.findIn K (.ref c8) "__getattribute__" = some (some (.builtin "BaseException.__getattribute__")))
    (gg8 : PySem.W.findIn K (.ref c8) "__getattr__" = some none)
    (no8 : PySem.W.findIn K (.ref c8) "value" = some none)
    (ini8 : PySem.W.findIn K (.ref c8) "__init__" = some (some (.ref fI)))
    (kp8 : PySem.W.keepIn K (.ref c8) = true)
    (ex8 : PySem.W.subIn K (.ref c8) (.type "BaseException") = some true)
    (ty8 : PySem.W.typeIn K (.ref c8) = some (.type "type"))
    (kl8 : PySem.W.findIn K (.ref c8) "__class__" = some (some (.builtin "object.__class__")))
    (hd8 : PySem.W.hasDictIn K c8 = true)
    (ic8 : PySem.W.isClsIn K c8 = true)
    (ob8 : PySem.W.mroIn K c8 (.type "object") = some true)
    (v8 : PySem.W.subIn K (.ref c8) (.type "ValueError") = some true)
    (a9 : PySem.W.nsIn K mainGlobals "NothingToUndo" = some (some (.ref c9)))
    (x9 : K.lookup c9 = some (excClassObj nm9 q9 c9 N9 bs9 bm9 true sn9 sb9 ab9 co9 dd9 ma9 mb9 mc9 md9 me9 "ValueError.__new__"))
    (r9 : PySem.HandSPX.refsVE bm9 = true)
    (sa9 : PySem.W.findIn K (.ref c9) "__setattr__" = some (some (.builtin "object.__setattr__")))
    (ga9 : PySem.W.findIn K (.ref c9) "__getattribute__" = some (some (.builtin "BaseException.__getattribute__")))
    (gg9 : PySem.W.findIn K (.ref c9) "__getattr__" = some none)
    (no9 : PySem.W.findIn K (.ref c9) "value" = some none)
    (ini9 : PySem.W.findIn K (.ref c9) "__init__" = some (some (.ref fI)))
    (kp9 : PySem.W.keepIn K (.ref c9) = true)
    (ex9 : PySem.W.subIn K (.ref c9) (.type "BaseException") = some true)
    (ty9 : PySem.W.typeIn K (.ref c9) = some (.type "type"))
    (kl9 : PySem.W.findIn K (.ref c9) "__class__" = some (some (.builtin "object.__class__")))
    (hd9 : PySem.W.hasDictIn K c9 = true)
    (ic9 : PySem.W.isClsIn K c9 = true)
    (ob9 : PySem.W.mroIn K c9 (.type "object") = some true)
    (v9 : PySem.W.subIn K (.ref c9) (.type "ValueError") = some true)
    (a10 : PySem.W.nsIn K mainGlobals "Unreadable" = some (some (.ref c10)))
    (x10 : K.lookup c10 = some (excClassObj nm10 q10 c10 N10 bs10 bm10 true sn10 sb10 ab10 co10 dd10 ma10 mb10 mc10 md10 me10 "ValueError.__new__"))
    (r10 : PySem.HandSPX.refsVE bm10 = true)
    (sa10 : PySem.W.findIn K (.ref c10) "__setattr__" = some (some (.builtin "object.__setattr__")))
    (ga10 : PySem.W.findIn K (.ref c10) "__getattribute__" = some (some (.builtin "BaseException.__getattribute__")))
    (gg10 : PySem.W.findIn K (.ref c10) "__getattr__" = some none)
    (no10 : PySem.W.findIn K (.ref c10) "value" = some none)
    (ini10 : PySem.W.findIn K (.ref c10) "__init__" = some (some (.ref fI)))
    (kp10 : PySem.W.keepIn K (.ref c10) = true)
    (ex10 : PySem.W.subIn K (.ref c10) (.type "BaseException") = some true)
    (ty10 : PySem.W.typeIn K (.ref c10) = some (.type "type"))
    (kl10 : PySem.W.findIn K (.ref c10) "__class__" = some (some (.builtin "object.__class__")))
    (hd10 : PySem.W.hasDictIn K c10 = true)
    (ic10 : PySem.W.isClsIn K c10 = true)
    (ob10 : PySem.W.mroIn K c10 (.type "object") = some true)
    (v10 : PySem.W.subIn K (.ref c10) (.type "ValueError") = some true)
    (spO : PySem.W.specialIn K (.builtin "object.__class__") "__get__" = some (some (.builtin "getset_descriptor.__get__")))
    (tkO : PySem.W.takesIn K (.builtin "object.__class__") = some true)
    (tyI : PySem.W.typeIn K (.ref fI) = some (.type "function"))
    (s0_0 : PySem.W.subIn K (.ref c0) (.ref c0) = some true)
    (s0_1 : PySem.W.subIn K (.ref c0) (.ref c1) = some false)
    (s0_2 : PySem.W.subIn K (.ref c0) (.ref c2) = some false)
    (s0_3 : PySem.W.subIn K (.ref c0) (.ref c3) = some false)
    (s0_4 : PySem.W.subIn K (.ref c0) (.ref c4) = some false)
    (s0_5 : PySem.W.subIn K (.ref c0) (.ref c5) = some false)
    (s0_6 : PySem.W.subIn K (.ref c0) (.ref c6) = some false)
    (s0_7 : PySem.W.subIn K (.ref c0) (.ref c7) = some false)
    (s0_8 : PySem.W.subIn K (.ref c0) (.ref c8) = some false)
    (s0_9 : PySem.W.subIn K (.ref c0) (.ref c9) = some false)
    (s0_10 : PySem.W.subIn K (.ref c0) (.ref c10) = some false)
    (s1_0 : PySem.W.subIn K (.ref c1) (.ref c0) = some true)
    (s1_1 : PySem.W.subIn K (.ref c1) (.ref c1) = some true)
    (s1_2 : PySem.W.subIn K (.ref c1) (.ref c2) = some false)
    (s1_3 : PySem.W.subIn K (.ref c1) (.ref c3) = some false)
    (s1_4 : PySem.W.subIn K (.ref c1) (.ref c4) = some false)
    (s1_5 : PySem.W.subIn K (.ref c1) (.ref c5) = some false)
    (s1_6 : PySem.W.subIn K (.ref c1) (.ref c6) = some false)
    (s1_7 : PySem.W.subIn K (.ref c1) (.ref c7) = some false)
    (s1_8 : PySem.W.subIn K (.ref c1) (.ref c8) = some false)
    (s1_9 : PySem.W.subIn K (.ref c1) (.ref c9) = some false)
    (s1_10 : PySem.W.subIn K (.ref c1) (.ref c10) = some false)
    (s2_0 : PySem.W.subIn K (.ref c2) (.ref c0) = some true)
    (s2_1 : PySem.W.subIn K (.ref c2) (.ref c1) = some false)
    (s2_2 : PySem.W.subIn K (.ref c2) (.ref c2) = some true)
    (s2_3 : PySem.W.subIn K (.ref c2) (.ref c3) = some false)
    (s2_4 : PySem.W.subIn K (.ref c2) (.ref c4) = some false)
    (s2_5 : PySem.W.subIn K (.ref c2) (.ref c5) = some false)
    (s2_6 : PySem.W.subIn K (.ref c2) (.ref c6) = some false)
    (s2_7 : PySem.W.subIn K (.ref c2) (.ref c7) = some false)
    (s2_8 : PySem.W.subIn K (.ref c2) (.ref c8) = some false)
    (s2_9 : PySem.W.subIn K (.ref c2) (.ref c9) = some false)
    (s2_10 : PySem.W.subIn K (.ref c2) (.ref c10) = some false)
    (s3_0 : PySem.W.subIn K (.ref c3) (.ref c0) = some true)
    (s3_1 : PySem.W.subIn K (.ref c3) (.ref c1) = some false)
    (s3_2 : PySem.W.subIn K (.ref c3) (.ref c2) = some false)
    (s3_3 : PySem.W.subIn K (.ref c3) (.ref c3) = some true)
    (s3_4 : PySem.W.subIn K (.ref c3) (.ref c4) = some false)
    (s3_5 : PySem.W.subIn K (.ref c3) (.ref c5) = some false)
    (s3_6 : PySem.W.subIn K (.ref c3) (.ref c6) = some false)
    (s3_7 : PySem.W.subIn K (.ref c3) (.ref c7) = some false)
    (s3_8 : PySem.W.subIn K (.ref c3) (.ref c8) = some false)
    (s3_9 : PySem.W.subIn K (.ref c3) (.ref c9) = some false)
    (s3_10 : PySem.W.subIn K (.ref c3) (.ref c10) = some false)
    (s4_0 : PySem.W.subIn K (.ref c4) (.ref c0) = some true)
    (s4_1 : PySem.W.subIn K (.ref c4) (.ref c1) = some false)
    (s4_2 : PySem.W.subIn K (.ref c4) (.ref c2) = some false)
    (s4_3 : PySem.W.subIn K (.ref c4) (.ref c3) = some false)
    (s4_4 : PySem.W.subIn K (.ref c4) (.ref c4) = some true)
    (s4_5 : PySem.W.subIn K (.ref c4) (.ref c5) = some false)
    (s4_6 : PySem.W.subIn K (.ref c4) (.ref c6) = some false)
    (s4_7 : PySem.W.subIn K (.ref c4) (.ref c7) = some false)
    (s4_8 : PySem.W.subIn K (.ref c4) (.ref c8) = some false)
    (s4_9 : PySem.W.subIn K (.ref c4) (.ref c9) = some false)
    (s4_10 : PySem.W.subIn K (.ref c4) (.ref c10) = some false)
    (s5_0 : PySem.W.subIn K (.ref c5) (.ref c0) = some true)
    (s5_1 : PySem.W.subIn K (.ref c5) (.ref c1) = some false)
    (s5_2 : PySem.W.subIn K (.ref c5) (.ref c2) = some false)
    (s5_3 : PySem.W.subIn K (.ref c5) (.ref c3) = some false)
    (s5_4 : PySem.W.subIn K (.ref c5) (.ref c4) = some false)
    (s5_5 : PySem.W.subIn K (.ref c5) (.ref c5) = some true)
    (s5_6 : PySem.W.subIn K (.ref c5) (.ref c6) = some false)
    (s5_7 : PySem.W.subIn K (.ref c5) (.ref c7) = some false)
    (s5_8 : PySem.W.subIn K (.ref c5) (.ref c8) = some false)
    (s5_9 : PySem.W.subIn K (.ref c5) (.ref c9) = some false)
    (s5_10 : PySem.W.subIn K (.ref c5) (.ref c10) = some false)
    (s6_0 : PySem.W.subIn K (.ref c6) (.ref c0) = some true)
    (s6_1 : PySem.W.subIn K (.ref c6) (.ref c1) = some false)
    (s6_2 : PySem.W.subIn K (.ref c6) (.ref c2) = some false)
    (s6_3 : PySem.W.subIn K (.ref c6) (.ref c3) = some false)
    (s6_4 : PySem.W.subIn K (.ref c6) (.ref c4) = some false)
    (s6_5 : PySem.W.subIn K (.ref c6) (.ref c5) = some false)
    (s6_6 : PySem.W.subIn K (.ref c6) (.ref c6) = some true)
    (s6_7 : PySem.W.subIn K (.ref c6) (.ref c7) = some false)
    (s6_8 : PySem.W.subIn K (.ref c6) (.ref c8) = some false)
    (s6_9 : PySem.W.subIn K (.ref c6) (.ref c9) = some false)
    (s6_10 : PySem.W.subIn K (.ref c6) (.ref c10) = some false)
    (s7_0 : PySem.W.subIn K (.ref c7) (.ref c0) = some true)
    (s7_1 : PySem.W.subIn K (.ref c7) (.ref c1) = some false)
    (s7_2 : PySem.W.subIn K (.ref c7) (.ref c2) = some false)
    (s7_3 : PySem.W.subIn K (.ref c7) (.ref c3) = some false)
    (s7_4 : PySem.W.subIn K (.ref c7) (.ref c4) = some false)
    (s7_5 : PySem.W.subIn K (.ref c7) (.ref c5) = some false)
    (s7_6 : PySem.W.subIn K (.ref c7) (.ref c6) = some false)
    (s7_7 : PySem.W.subIn K (.ref c7) (.ref c7) = some true)
    (s7_8 : PySem.W.subIn K (.ref c7) (.ref c8) = some false)
    (s7_9 : PySem.W.subIn K (.ref c7) (.ref c9) = some false)
    (s7_10 : PySem.W.subIn K (.ref c7) (.ref c10) = some false)
    (s8_0 : PySem.W.subIn K (.ref c8) (.ref c0) = some true)
    (s8_1 : PySem.W.subIn K (.ref c8) (.ref c1) = some false)
    (s8_2 : PySem.W.subIn K (.ref c8) (.ref c2) = some false)
    (s8_3 : PySem.W.subIn K (.ref c8) (.ref c3) = some false)
    (s8_4 : PySem.W.subIn K (.ref c8) (.ref c4) = some false)
    (s8_5 : PySem.W.subIn K (.ref c8) (.ref c5) = some false)
    (s8_6 : PySem.W.subIn K (.ref c8) (.ref c6) = some false)
    (s8_7 : PySem.W.subIn K (.ref c8) (.ref c7) = some false)
    (s8_8 : PySem.W.subIn K (.ref c8) (.ref c8) = some true)
    (s8_9 : PySem.W.subIn K (.ref c8) (.ref c9) = some false)
    (s8_10 : PySem.W.subIn K (.ref c8) (.ref c10) = some false)
    (s9_0 : PySem.W.subIn K (.ref c9) (.ref c0) = some true)
    (s9_1 : PySem.W.subIn K (.ref c9) (.ref c1) = some false)
    (s9_2 : PySem.W.subIn K (.ref c9) (.ref c2) = some false)
    (s9_3 : PySem.W.subIn K (.ref c9) (.ref c3) = some false)
    (s9_4 : PySem.W.subIn K (.ref c9) (.ref c4) = some false)
    (s9_5 : PySem.W.subIn K (.ref c9) (.ref c5) = some false)
    (s9_6 : PySem.W.subIn K (.ref c9) (.ref c6) = some false)
    (s9_7 : PySem.W.subIn K (.ref c9) (.ref c7) = some false)
    (s9_8 : PySem.W.subIn K (.ref c9) (.ref c8) = some false)
    (s9_9 : PySem.W.subIn K (.ref c9) (.ref c9) = some true)
    (s9_10 : PySem.W.subIn K (.ref c9) (.ref c10) = some false)
    (s10_0 : PySem.W.subIn K (.ref c10) (.ref c0) = some true)
    (s10_1 : PySem.W.subIn K (.ref c10) (.ref c1) = some false)
    (s10_2 : PySem.W.subIn K (.ref c10) (.ref c2) = some false)
    (s10_3 : PySem.W.subIn K (.ref c10) (.ref c3) = some false)
    (s10_4 : PySem.W.subIn K (.ref c10) (.ref c4) = some false)
    (s10_5 : PySem.W.subIn K (.ref c10) (.ref c5) = some false)
    (s10_6 : PySem.W.subIn K (.ref c10) (.ref c6) = some false)
    (s10_7 : PySem.W.subIn K (.ref c10) (.ref c7) = some false)
    (s10_8 : PySem.W.subIn K (.ref c10) (.ref c8) = some false)
    (s10_9 : PySem.W.subIn K (.ref c10) (.ref c9) = some false)
    (s10_10 : PySem.W.subIn K (.ref c10) (.ref c10) = some true)
    (lI : K.lookup fI = some ⟨ocI, odI, .func (PySem.W.fnOf "__init__" "FilmError.__init__" (defArgs s_FilmError___init__) (defBody s_FilmError___init__) (defScope s_FilmError___init__) .none kVI dcI pmI anI cdI ctI), slI⟩)
    (oI : PySem.W.codeIn K cdI "FilmError.__init__" = true)
    (kI : PySem.W.keepIn K (.ref fI) = true)
    (gcoin : PySem.W.nsIn K mainGlobals "_law_coin" = some (some (.ref fcoin)))
    (lcoin : K.lookup fcoin = some ⟨occoin, odcoin, .func (PySem.W.fnOf "_law_coin" "_law_coin" (defArgs s_coin) (defBody s_coin) (defScope s_coin) .none kVcoin dccoin pmcoin ancoin cdcoin ctcoin), slcoin⟩)
    (ocoin : PySem.W.codeIn K cdcoin "_law_coin" = true)
    (kcoin : PySem.W.keepIn K (.ref fcoin) = true)
    (gpurse : PySem.W.nsIn K mainGlobals "_law_fm_purse" = some (some (.ref fpurse)))
    (lpurse : K.lookup fpurse = some ⟨ocpurse, odpurse, .func (PySem.W.fnOf "_law_fm_purse" "_law_fm_purse" (defArgs s_purse) (defBody s_purse) (defScope s_purse) .none kVpurse dcpurse pmpurse anpurse cdpurse ctpurse), slpurse⟩)
    (opurse : PySem.W.codeIn K cdpurse "_law_fm_purse" = true)
    (kpurse : PySem.W.keepIn K (.ref fpurse) = true)
    (gthrow : PySem.W.nsIn K mainGlobals "_law_throw" = some (some (.ref fthrow)))
    (lthrow : K.lookup fthrow = some ⟨octhrow, odthrow, .func (PySem.W.fnOf "_law_throw" "_law_throw" (defArgs s_throw) (defBody s_throw) (defScope s_throw) .none kVthrow dcthrow pmthrow anthrow cdthrow ctthrow), slthrow⟩)
    (othrow : PySem.W.codeIn K cdthrow "_law_throw" = true)
    (kthrow : PySem.W.keepIn K (.ref fthrow) = true)
    (gthrow_by_name : PySem.W.nsIn K mainGlobals "_law_throw_by_name" = some (some (.ref fthrow_by_name)))
    (lthrow_by_name : K.lookup fthrow_by_name = some ⟨octhrow_by_name, odthrow_by_name, .func (PySem.W.fnOf "_law_throw_by_name" "_law_throw_by_name" (defArgs s_throw_by_name) (defBody s_throw_by_name) (defScope s_throw_by_name) .none kVthrow_by_name dcthrow_by_name pmthrow_by_name anthrow_by_name cdthrow_by_name ctthrow_by_name), slthrow_by_name⟩)
    (othrow_by_name : PySem.W.codeIn K cdthrow_by_name "_law_throw_by_name" = true)
    (kthrow_by_name : PySem.W.keepIn K (.ref fthrow_by_name) = true)
    (gcaught : PySem.W.nsIn K mainGlobals "_law_caught" = some (some (.ref fcaught)))
    (lcaught : K.lookup fcaught = some ⟨occaught, odcaught, .func (PySem.W.fnOf "_law_caught" "_law_caught" (defArgs s_caught) (defBody s_caught) (defScope s_caught) .none kVcaught dccaught pmcaught ancaught cdcaught ctcaught), slcaught⟩)
    (ocaught : PySem.W.codeIn K cdcaught "_law_caught" = true)
    (kcaught : PySem.W.keepIn K (.ref fcaught) = true)
    (gworth : PySem.W.nsIn K mainGlobals "_law_worth" = some (some (.ref fworth)))
    (lworth : K.lookup fworth = some ⟨ocworth, odworth, .func (PySem.W.fnOf "_law_worth" "_law_worth" (defArgs s_worth) (defBody s_worth) (defScope s_worth) .none kVworth dcworth pmworth anworth cdworth ctworth), slworth⟩)
    (oworth : PySem.W.codeIn K cdworth "_law_worth" = true)
    (kworth : PySem.W.keepIn K (.ref fworth) = true)
    (gright : PySem.W.nsIn K mainGlobals "_law_right" = some (some (.ref fright)))
    (lright : K.lookup fright = some ⟨ocright, odright, .func (PySem.W.fnOf "_law_right" "_law_right" (defArgs s_right) (defBody s_right) (defScope s_right) .none kVright dcright pmright anright cdright ctright), slright⟩)
    (oright : PySem.W.codeIn K cdright "_law_right" = true)
    (kright : PySem.W.keepIn K (.ref fright) = true)
    (glaw : PySem.W.nsIn K mainGlobals "law" = some (some (.ref flaw)))
    (llaw : K.lookup flaw = some ⟨oclaw, odlaw, .func (PySem.W.fnOf "law" "law" (defArgs s_law) (defBody s_law) (defScope s_law) .none kVlaw dclaw pmlaw anlaw cdlaw ctlaw), sllaw⟩)
    (olaw : PySem.W.codeIn K cdlaw "law" = true)
    (klaw : PySem.W.keepIn K (.ref flaw) = true)
    (zint : PySem.W.nsIn K mainGlobals "int" = some none)
    (zlen : PySem.W.nsIn K mainGlobals "len" = some none)
    (zmax : PySem.W.nsIn K mainGlobals "max" = some none)
    (zmin : PySem.W.nsIn K mainGlobals "min" = some none)
    (zabs : PySem.W.nsIn K mainGlobals "abs" = some none)
    (zrepr : PySem.W.nsIn K mainGlobals "repr" = some none)
    (zisinstance : PySem.W.nsIn K mainGlobals "isinstance" = some none)
    (zlist : PySem.W.nsIn K mainGlobals "list" = some none)
    (zrange : PySem.W.nsIn K mainGlobals "range" = some none)
    (zValueError : PySem.W.nsIn K mainGlobals "ValueError" = some none) :
    ∃ fd : FuncData, (∀ (s : Shared) (v : Value), BindsTo s fd ⟨[v], []⟩ [("script", v)]) ∧ ∀ base : Heap, K.In base → base.Ns mainGlobals mg → Gd P w K mg base 8 fa fd ["script"] (spLaw K) := by
  have e := hfa.symm.trans (PySem.W.mg_of X G glaw)
  cases e
  have T : Txt K mg ⟨c0, c1, c2, c3, c4, c5, c6, c7, c8, c9, c10, fI, fcoin, fpurse, fthrow, fthrow_by_name, fcaught, fworth, fright, fa⟩ := {
    g_FilmError := PySem.W.mg_of X G a0
    g_InvalidFilm := PySem.W.mg_of X G a1
    g_InvalidPiece := PySem.W.mg_of X G a2
    g_InvalidRule := PySem.W.mg_of X G a3
    g_UnknownStrip := PySem.W.mg_of X G a4
    g_UnknownRule := PySem.W.mg_of X G a5
    g_InvalidTable := PySem.W.mg_of X G a6
    g_InvalidNumber := PySem.W.mg_of X G a7
    g_NoSplice := PySem.W.mg_of X G a8
    g_NothingToUndo := PySem.W.mg_of X G a9
    g_Unreadable := PySem.W.mg_of X G a10
    e_FilmError := ⟨⟨⟨_, _, _, _, _, _, _, _, _, _, _, _, _, _, _, x0, r0⟩, sa0, ex0, ty0, kp0⟩, ini0, tyI, no0, ⟨ga0, gg0, ex0, hd0⟩, ⟨ic0, ga0, gg0, ex0, kl0, spO, tkO, ob0⟩⟩
    e_InvalidFilm := ⟨⟨⟨_, _, _, _, _, _, _, _, _, _, _, _, _, _, _, x1, r1⟩, sa1, ex1, ty1, kp1⟩, ini1, tyI, no1, ⟨ga1, gg1, ex1, hd1⟩, ⟨ic1, ga1, gg1, ex1, kl1, spO, tkO, ob1⟩⟩
    e_InvalidPiece := ⟨⟨⟨_, _, _, _, _, _, _, _, _, _, _, _, _, _, _, x2, r2⟩, sa2, ex2, ty2, kp2⟩, ini2, tyI, no2, ⟨ga2, gg2, ex2, hd2⟩, ⟨ic2, ga2, gg2, ex2, kl2, spO, tkO, ob2⟩⟩
    e_InvalidRule := ⟨⟨⟨_, _, _, _, _, _, _, _, _, _, _, _, _, _, _, x3, r3⟩, sa3, ex3, ty3, kp3⟩, ini3, tyI, no3, ⟨ga3, gg3, ex3, hd3⟩, ⟨ic3, ga3, gg3, ex3, kl3, spO, tkO, ob3⟩⟩
    e_UnknownStrip := ⟨⟨⟨_, _, _, _, _, _, _, _, _, _, _, _, _, _, _, x4, r4⟩, sa4, ex4, ty4, kp4⟩, ini4, tyI, no4, ⟨ga4, gg4, ex4, hd4⟩, ⟨ic4, ga4, gg4, ex4, kl4, spO, tkO, ob4⟩⟩
    e_UnknownRule := ⟨⟨⟨_, _, _, _, _, _, _, _, _, _, _, _, _, _, _, x5, r5⟩, sa5, ex5, ty5, kp5⟩, ini5, tyI, no5, ⟨ga5, gg5, ex5, hd5⟩, ⟨ic5, ga5, gg5, ex5, kl5, spO, tkO, ob5⟩⟩
    e_InvalidTable := ⟨⟨⟨_, _, _, _, _, _, _, _, _, _, _, _, _, _, _, x6, r6⟩, sa6, ex6, ty6, kp6⟩, ini6, tyI, no6, ⟨ga6, gg6, ex6, hd6⟩, ⟨ic6, ga6, gg6, ex6, kl6, spO, tkO, ob6⟩⟩
    e_InvalidNumber := ⟨⟨⟨_, _, _, _, _, _, _, _, _, _, _, _, _, _, _, x7, r7⟩, sa7, ex7, ty7, kp7⟩, ini7, tyI, no7, ⟨ga7, gg7, ex7, hd7⟩, ⟨ic7, ga7, gg7, ex7, kl7, spO, tkO, ob7⟩⟩
    e_NoSplice := ⟨⟨⟨_, _, _, _, _, _, _, _, _, _, _, _, _, _, _, x8, r8⟩, sa8, ex8, ty8, kp8⟩, ini8, tyI, no8, ⟨ga8, gg8, ex8, hd8⟩, ⟨ic8, ga8, gg8, ex8, kl8, spO, tkO, ob8⟩⟩
    e_NothingToUndo := ⟨⟨⟨_, _, _, _, _, _, _, _, _, _, _, _, _, _, _, x9, r9⟩, sa9, ex9, ty9, kp9⟩, ini9, tyI, no9, ⟨ga9, gg9, ex9, hd9⟩, ⟨ic9, ga9, gg9, ex9, kl9, spO, tkO, ob9⟩⟩
    e_Unreadable := ⟨⟨⟨_, _, _, _, _, _, _, _, _, _, _, _, _, _, _, x10, r10⟩, sa10, ex10, ty10, kp10⟩, ini10, tyI, no10, ⟨ga10, gg10, ex10, hd10⟩, ⟨ic10, ga10, gg10, ex10, kl10, spO, tkO, ob10⟩⟩
    subs := fun i j hi hj => match i, hi with
      | 0, _ => (match j, hj with | 0, _ => s0_0 | 1, _ => s0_1 | 2, _ => s0_2 | 3, _ => s0_3 | 4, _ => s0_4 | 5, _ => s0_5 | 6, _ => s0_6 | 7, _ => s0_7 | 8, _ => s0_8 | 9, _ => s0_9 | 10, _ => s0_10 | (_ + 11), h => absurd h (by omega))
      | 1, _ => (match j, hj with | 0, _ => s1_0 | 1, _ => s1_1 | 2, _ => s1_2 | 3, _ => s1_3 | 4, _ => s1_4 | 5, _ => s1_5 | 6, _ => s1_6 | 7, _ => s1_7 | 8, _ => s1_8 | 9, _ => s1_9 | 10, _ => s1_10 | (_ + 11), h => absurd h (by omega))
      | 2, _ => (match j, hj with | 0, _ => s2_0 | 1, _ => s2_1 | 2, _ => s2_2 | 3, _ => s2_3 | 4, _ => s2_4 | 5, _ => s2_5 | 6, _ => s2_6 | 7, _ => s2_7 | 8, _ => s2_8 | 9, _ => s2_9 | 10, _ => s2_10 | (_ + 11), h => absurd h (by omega))
      | 3, _ => (match j, hj with | 0, _ => s3_0 | 1, _ => s3_1 | 2, _ => s3_2 | 3, _ => s3_3 | 4, _ => s3_4 | 5, _ => s3_5 | 6, _ => s3_6 | 7, _ => s3_7 | 8, _ => s3_8 | 9, _ => s3_9 | 10, _ => s3_10 | (_ + 11), h => absurd h (by omega))
      | 4, _ => (match j, hj with | 0, _ => s4_0 | 1, _ => s4_1 | 2, _ => s4_2 | 3, _ => s4_3 | 4, _ => s4_4 | 5, _ => s4_5 | 6, _ => s4_6 | 7, _ => s4_7 | 8, _ => s4_8 | 9, _ => s4_9 | 10, _ => s4_10 | (_ + 11), h => absurd h (by omega))
      | 5, _ => (match j, hj with | 0, _ => s5_0 | 1, _ => s5_1 | 2, _ => s5_2 | 3, _ => s5_3 | 4, _ => s5_4 | 5, _ => s5_5 | 6, _ => s5_6 | 7, _ => s5_7 | 8, _ => s5_8 | 9, _ => s5_9 | 10, _ => s5_10 | (_ + 11), h => absurd h (by omega))
      | 6, _ => (match j, hj with | 0, _ => s6_0 | 1, _ => s6_1 | 2, _ => s6_2 | 3, _ => s6_3 | 4, _ => s6_4 | 5, _ => s6_5 | 6, _ => s6_6 | 7, _ => s6_7 | 8, _ => s6_8 | 9, _ => s6_9 | 10, _ => s6_10 | (_ + 11), h => absurd h (by omega))
      | 7, _ => (match j, hj with | 0, _ => s7_0 | 1, _ => s7_1 | 2, _ => s7_2 | 3, _ => s7_3 | 4, _ => s7_4 | 5, _ => s7_5 | 6, _ => s7_6 | 7, _ => s7_7 | 8, _ => s7_8 | 9, _ => s7_9 | 10, _ => s7_10 | (_ + 11), h => absurd h (by omega))
      | 8, _ => (match j, hj with | 0, _ => s8_0 | 1, _ => s8_1 | 2, _ => s8_2 | 3, _ => s8_3 | 4, _ => s8_4 | 5, _ => s8_5 | 6, _ => s8_6 | 7, _ => s8_7 | 8, _ => s8_8 | 9, _ => s8_9 | 10, _ => s8_10 | (_ + 11), h => absurd h (by omega))
      | 9, _ => (match j, hj with | 0, _ => s9_0 | 1, _ => s9_1 | 2, _ => s9_2 | 3, _ => s9_3 | 4, _ => s9_4 | 5, _ => s9_5 | 6, _ => s9_6 | 7, _ => s9_7 | 8, _ => s9_8 | 9, _ => s9_9 | 10, _ => s9_10 | (_ + 11), h => absurd h (by omega))
      | 10, _ => (match j, hj with | 0, _ => s10_0 | 1, _ => s10_1 | 2, _ => s10_2 | 3, _ => s10_3 | 4, _ => s10_4 | 5, _ => s10_5 | 6, _ => s10_6 | 7, _ => s10_7 | 8, _ => s10_8 | 9, _ => s10_9 | 10, _ => s10_10 | (_ + 11), h => absurd h (by omega))
      | (_ + 11), h => absurd h (by omega)
    subV := fun i hi => match i, hi with | 0, _ => v0 | 1, _ => v1 | 2, _ => v2 | 3, _ => v3 | 4, _ => v4 | 5, _ => v5 | 6, _ => v6 | 7, _ => v7 | 8, _ => v8 | 9, _ => v9 | 10, _ => v10 | (_ + 11), h => absurd h (by omega)
    cls := fun i hi => match i, hi with | 0, _ => ic0 | 1, _ => ic1 | 2, _ => ic2 | 3, _ => ic3 | 4, _ => ic4 | 5, _ => ic5 | 6, _ => ic6 | 7, _ => ic7 | 8, _ => ic8 | 9, _ => ic9 | 10, _ => ic10 | (_ + 11), h => absurd h (by omega)
    g_coin := PySem.W.mg_of X G gcoin
    k_coin := kcoin
    g_purse := PySem.W.mg_of X G gpurse
    k_purse := kpurse
    g_throw := PySem.W.mg_of X G gthrow
    k_throw := kthrow
    g_throw_by_name := PySem.W.mg_of X G gthrow_by_name
    k_throw_by_name := kthrow_by_name
    g_caught := PySem.W.mg_of X G gcaught
    k_caught := kcaught
    g_worth := PySem.W.mg_of X G gworth
    k_worth := kworth
    g_right := PySem.W.mg_of X G gright
    k_right := kright
    b_int := PySem.W.mg_none_of X G zint
    b_len := PySem.W.mg_none_of X G zlen
    b_max := PySem.W.mg_none_of X G zmax
    b_min := PySem.W.mg_none_of X G zmin
    b_abs := PySem.W.mg_none_of X G zabs
    b_repr := PySem.W.mg_none_of X G zrepr
    b_isinstance := PySem.W.mg_none_of X G zisinstance
    b_list := PySem.W.mg_none_of X G zlist
    b_range := PySem.W.mg_none_of X G zrange
    b_ValueError := PySem.W.mg_none_of X G zValueError  }
  have Fcoin := fun_mk (st := s_coin) lcoin ocoin kcoin
  have Fpurse := fun_mk (st := s_purse) lpurse opurse kpurse
  have Fthrow := fun_mk (st := s_throw) lthrow othrow kthrow
  have Fname := fun_mk (st := s_throw_by_name) lthrow_by_name othrow_by_name kthrow_by_name
  have Fcaught := fun_mk (st := s_caught) lcaught ocaught kcaught
  have Fworth := fun_mk (st := s_worth) lworth oworth kworth
  have Fright := fun_mk (st := s_right) lright oright kright
  have Fini := fun_mk (st := s_FilmError___init__) lI oI kI
  have Flaw := fun_mk (st := s_law) llaw olaw klaw
  have bcoin := Fcoin.binds (ps := ["purse", "many"]) fun _ _ _ _ _ _ us hl => match us, hl with | [_, _], _ => rfl
  have bpurse := Fpurse.binds (ps := ["script", "spot"]) fun _ _ _ _ _ _ us hl => match us, hl with | [_, _], _ => rfl
  have bthrow := Fthrow.binds (ps := ["spot", "worth"]) fun _ _ _ _ _ _ us hl => match us, hl with | [_, _], _ => rfl
  have bname := Fname.binds (ps := ["spot", "worth"]) fun _ _ _ _ _ _ us hl => match us, hl with | [_, _], _ => rfl
  have bcaught := Fcaught.binds (ps := ["spot", "worth", "by_name"]) fun _ _ _ _ _ _ us hl => match us, hl with | [_, _, _], _ => rfl
  have bworth := Fworth.binds (ps := ["sack"]) fun _ _ _ _ _ _ us hl => match us, hl with | [_], _ => rfl
  have bright := Fright.binds (ps := ["sack"]) fun _ _ _ _ _ _ us hl => match us, hl with | [_], _ => rfl
  have bini := Fini.binds (ps := ["self", "value"]) fun _ _ _ _ _ _ us hl => match us, hl with | [_, _], _ => rfl
  have kini := kw1 Fini (ps := ["self", "value"]) (n := 1) (ks := ["value"]) (fun _ _ _ _ _ _ us ws h1 h2 => match us, ws, h1, h2 with | [_], [_], _, _ => rfl)
  refine ⟨PySem.W.fnOf "law" "law" (defArgs s_law) (defBody s_law) (defScope s_law) .none kVlaw dclaw pmlaw anlaw cdlaw ctlaw, fun s v => .of_eq rfl, fun base _ _ => ?_⟩
  have cini : Cal P w K mg base 1 fI _ ["self", "value"] (spErrInit K) := ⟨ok_init Fini, bini⟩
  have ccoin : Cal P w K mg base 1 fcoin _ ["purse", "many"] spCoin := ⟨ok_coin Fcoin T, bcoin⟩
  exact ok_law Flaw T ⟨ok_purse Fpurse T, bpurse⟩ ⟨ok_right Fright T ccoin ⟨ok_worth Fworth T ccoin, bworth⟩ ⟨ok_caught Fcaught T ⟨ok_throw Fthrow T cini, bthrow⟩ ⟨ok_throw_by_name Fname T cini kini, bname⟩, bcaught⟩, bright⟩
end A1
open PySem PySem.W PyProof.Rows
set_option maxRecDepth 100000 in
set_option maxHeartbeats 0 in
theorem PySem.Challenge.cw_splicedfilms_k01_errors_holds : PySem.Challenge.rw_splicedfilms_k01_errors.Holds := by
  w_on; o_law; k_head; (case hw => w_witness2)
  k_fill
  refine Sf.walkG (l := PySem.Challenge.rw_splicedfilms_k01_errors) (k := 8) (x := "script") (sp := A1.spLaw) rfl (by decide) rfl ⟨rfl, by decide, by decide⟩ (fun w h Y => PySem.W.kIn_of Y) ?F (fun K H a ns hl hb hS => ⟨a, ns, rfl, hS, hl, hb, fun _ => rfl⟩)
  case F =>
    intro w mg fa h KX G hmg
    refine' A1.all_mk KX G hmg ?a0 ?x0 ?r0 ?sa0 ?ga0 ?gg0 ?no0 ?ini0 ?kp0 ?ex0 ?ty0 ?kl0 ?hd0 ?ic0 ?ob0 ?v0 ?a1 ?x1 ?r1 ?sa1 ?ga1 ?gg1 ?no1 ?ini1 ?kp1 ?ex1 ?ty1 ?kl1 ?hd1 ?ic1 ?ob1 ?v1 ?a2 ?x2 ?r2 ?sa2 ?ga2 ?gg2 ?no2 ?ini2 ?kp2 ?ex2 ?ty2 ?kl2 ?hd2 ?ic2 ?ob2 ?v2 ?a3 ?x3 ?r3 ?sa3 ?ga3 ?gg3 ?no3 ?ini3 ?kp3 ?ex3 ?ty3 ?kl3 ?hd3 ?ic3 ?ob3 ?v3 ?a4 ?x4 ?r4 ?sa4 ?ga4 ?gg4 ?no4 ?ini4 ?kp4 ?ex4 ?ty4 ?kl4 ?hd4 ?ic4 ?ob4 ?v4 ?a5 ?x5 ?r5 ?sa5 ?ga5 ?gg5 ?no5 ?ini5 ?kp5 ?ex5 ?ty5 ?kl5 ?hd5 ?ic5 ?ob5 ?v5 ?a6 ?x6 ?r6 ?sa6 ?ga6 ?gg6 ?no6 ?ini6 ?kp6 ?ex6 ?ty6 ?kl6 ?hd6 ?ic6 ?ob6 ?v6 ?a7 ?x7 ?r7 ?sa7 ?ga7 ?gg7 ?no7 ?ini7 ?kp7 ?ex7 ?ty7 ?kl7 ?hd7 ?ic7 ?ob7 ?v7 ?a8 ?x8 ?r8 ?sa8 ?ga8 ?gg8 ?no8 ?ini8 ?kp8 ?ex8 ?ty8 ?kl8 ?hd8 ?ic8 ?ob8 ?v8 ?a9 ?x9 ?r9 ?sa9 ?ga9 ?gg9 ?no9 ?ini9 ?kp9 ?ex9 ?ty9 ?kl9 ?hd9 ?ic9 ?ob9 ?v9 ?a10 ?x10 ?r10 ?sa10 ?ga10 ?gg10 ?no10 ?ini10 ?kp10 ?ex10 ?ty10 ?kl10 ?hd10 ?ic10 ?ob10 ?v10 ?spO ?tkO ?tyI ?s0_0 ?s0_1 ?s0_2 ?s0_3 ?s0_4 ?s0_5 ?s0_6 ?s0_7 ?s0_8 ?s0_9 ?s0_10 ?s1_0 ?s1_1 ?s1_2 ?s1_3 ?s1_4 ?s1_5 ?s1_6 ?s1_7 ?s1_8 ?s1_9 ?s1_10 ?s2_0 ?s2_1 ?s2_2 ?s2_3 ?s2_4 ?s2_5 ?s2_6 ?s2_7 ?s2_8 ?s2_9 ?s2_10 ?s3_0 ?s3_1 ?s3_2 ?s3_3 ?s3_4 ?s3_5 ?s3_6 ?s3_7 ?s3_8 ?s3_9 ?s3_10 ?s4_0 ?s4_1 ?s4_2 ?s4_3 ?s4_4 ?s4_5 ?s4_6 ?s4_7 ?s4_8 ?s4_9 ?s4_10 ?s5_0 ?s5_1 ?s5_2 ?s5_3 ?s5_4 ?s5_5 ?s5_6 ?s5_7 ?s5_8 ?s5_9 ?s5_10 ?s6_0 ?s6_1 ?s6_2 ?s6_3 ?s6_4 ?s6_5 ?s6_6 ?s6_7 ?s6_8 ?s6_9 ?s6_10 ?s7_0 ?s7_1 ?s7_2 ?s7_3 ?s7_4 ?s7_5 ?s7_6 ?s7_7 ?s7_8 ?s7_9 ?s7_10 ?s8_0 ?s8_1 ?s8_2 ?s8_3 ?s8_4 ?s8_5 ?s8_6 ?s8_7 ?s8_8 ?s8_9 ?s8_10 ?s9_0 ?s9_1 ?s9_2 ?s9_3 ?s9_4 ?s9_5 ?s9_6 ?s9_7 ?s9_8 ?s9_9 ?s9_10 ?s10_0 ?s10_1 ?s10_2 ?s10_3 ?s10_4 ?s10_5 ?s10_6 ?s10_7 ?s10_8 ?s10_9 ?s10_10 ?lI ?oI ?kI ?gcoin ?lcoin ?ocoin ?kcoin ?gpurse ?lpurse ?opurse ?kpurse ?gthrow ?lthrow ?othrow ?kthrow ?gthrow_by_name ?lthrow_by_name ?othrow_by_name ?kthrow_by_name ?gcaught ?lcaught ?ocaught ?kcaught ?gworth ?lworth ?oworth ?kworth ?gright ?lright ?oright ?kright ?glaw ?llaw ?olaw ?klaw ?zint ?zlen ?zmax ?zmin ?zabs ?zrepr ?zisinstance ?zlist ?zrange ?zValueError
    (case a0 => k_is)
    (case x0 => k_is)
    (case r0 => first | rfl | decide +kernel)
    (case sa0 => k_is)
    (case ga0 => k_is)
    (case gg0 => k_is)
    (case no0 => k_is)
    (case ini0 => k_is)
    (case kp0 => k_is)
    (case ex0 => k_is)
    (case ty0 => k_is)
    (case kl0 => k_is)
    (case hd0 => k_is)
    (case ic0 => k_is)
    (case ob0 => k_is)
    (case v0 => k_is)
    (case a1 => k_is)
    (case x1 => k_is)
    (case r1 => first | rfl | decide +kernel)
    (case sa1 => k_is)
    (case ga1 => k_is)
    (case gg1 => k_is)
    (case no1 => k_is)
    (case ini1 => k_is)
    (case kp1 => k_is)
    (case ex1 => k_is)
    (case ty1 => k_is)
    (case kl1 => k_is)
    (case hd1 => k_is)
    (case ic1 => k_is)
    (case ob1 => k_is)
    (case v1 => k_is)
    (case a2 => k_is)
    (case x2 => k_is)
    (case r2 => first | rfl | decide +kernel)
    (case sa2 => k_is)
    (case ga2 => k_is)
    (case gg2 => k_is)
    (case no2 => k_is)
    (case ini2 => k_is)
    (case kp2 => k_is)
    (case ex2 => k_is)
    (case ty2 => k_is)
    (case kl2 => k_is)
    (case hd2 => k_is)
    (case ic2 => k_is)
    (case ob2 => k_is)
    (case v2 => k_is)
    (case a3 => k_is)
    (case x3 => k_is)
    (case r3 => first | rfl | decide +kernel)
    (case sa3 => k_is)
    (case ga3 => k_is)
    (case gg3 => k_is)
    (case no3 => k_is)
    (case ini3 => k_is)
    (case kp3 => k_is)
    (case ex3 => k_is)
    (case ty3 => k_is)
    (case kl3 => k_is)
    (case hd3 => k_is)
    (case ic3 => k_is)
    (case ob3 => k_is)
    (case v3 => k_is)
    (case a4 => k_is)
    (case x4 => k_is)
    (case r4 => first | rfl | decide +kernel)
    (case sa4 => k_is)
    (case ga4 => k_is)
    (case gg4 => k_is)
    (case no4 => k_is)
    (case ini4 => k_is)
    (case kp4 => k_is)
    (case ex4 => k_is)
    (case ty4 => k_is)
    (case kl4 => k_is)
    (case hd4 => k_is)
    (case ic4 => k_is)
    (case ob4 => k_is)
    (case v4 => k_is)
    (case a5 => k_is)
    (case x5 => k_is)
    (case r5 => first | rfl | decide +kernel)
    (case sa5 => k_is)
    (case ga5 => k_is)
    (case gg5 => k_is)
    (case no5 => k_is)
    (case ini5 => k_is)
    (case kp5 => k_is)
    (case ex5 => k_is)
    (case ty5 => k_is)
    (case kl5 => k_is)
    (case hd5 => k_is)
    (case ic5 => k_is)
    (case ob5 => k_is)
    (case v5 => k_is)
    (case a6 => k_is)
    (case x6 => k_is)
    (case r6 => first | rfl | decide +kernel)
    (case sa6 => k_is)
    (case ga6 => k_is)
    (case gg6 => k_is)
    (case no6 => k_is)
    (case ini6 => k_is)
    (case kp6 => k_is)
    (case ex6 => k_is)
    (case ty6 => k_is)
    (case kl6 => k_is)
    (case hd6 => k_is)
    (case ic6 => k_is)
    (case ob6 => k_is)
    (case v6 => k_is)
    (case a7 => k_is)
    (case x7 => k_is)
    (case r7 => first | rfl | decide +kernel)
    (case sa7 => k_is)
    (case ga7 => k_is)
    (case gg7 => k_is)
    (case no7 => k_is)
    (case ini7 => k_is)
    (case kp7 => k_is)
    (case ex7 => k_is)
    (case ty7 => k_is)
    (case kl7 => k_is)
    (case hd7 => k_is)
    (case ic7 => k_is)
    (case ob7 => k_is)
    (case v7 => k_is)
    (case a8 => k_is)
    (case x8 => k_is)
    (case r8 => first | rfl | decide +kernel)
    (case sa8 => k_is)
    (case ga8 => k_is)
    (case gg8 => k_is)
    (case no8 => k_is)
    (case ini8 => k_is)
    (case kp8 => k_is)
    (case ex8 => k_is)
    (case ty8 => k_is)
    (case kl8 => k_is)
    (case hd8 => k_is)
    (case ic8 => k_is)
    (case ob8 => k_is)
    (case v8 => k_is)
    (case a9 => k_is)
    (case x9 => k_is)
    (case r9 => first | rfl | decide +kernel)
    (case sa9 => k_is)
    (case ga9 => k_is)
    (case gg9 => k_is)
    (case no9 => k_is)
    (case ini9 => k_is)
    (case kp9 => k_is)
    (case ex9 => k_is)
    (case ty9 => k_is)
    (case kl9 => k_is)
    (case hd9 => k_is)
    (case ic9 => k_is)
    (case ob9 => k_is)
    (case v9 => k_is)
    (case a10 => k_is)
    (case x10 => k_is)
    (case r10 => first | rfl | decide +kernel)
    (case sa10 => k_is)
    (case ga10 => k_is)
    (case gg10 => k_is)
    (case no10 => k_is)
    (case ini10 => k_is)
    (case kp10 => k_is)
    (case ex10 => k_is)
    (case ty10 => k_is)
    (case kl10 => k_is)
    (case hd10 => k_is)
    (case ic10 => k_is)
    (case ob10 => k_is)
    (case v10 => k_is)
    (case spO => k_is)
    (case tkO => k_is)
    (case tyI => k_is)
    (case s0_0 => k_is)
    (case s0_1 => k_is)
    (case s0_2 => k_is)
    (case s0_3 => k_is)
    (case s0_4 => k_is)
    (case s0_5 => k_is)
    (case s0_6 => k_is)
    (case s0_7 => k_is)
    (case s0_8 => k_is)
    (case s0_9 => k_is)
    (case s0_10 => k_is)
    (case s1_0 => k_is)
    (case s1_1 => k_is)
    (case s1_2 => k_is)
    (case s1_3 => k_is)
    (case s1_4 => k_is)
    (case s1_5 => k_is)
    (case s1_6 => k_is)
    (case s1_7 => k_is)
    (case s1_8 => k_is)
    (case s1_9 => k_is)
    (case s1_10 => k_is)
    (case s2_0 => k_is)
    (case s2_1 => k_is)
    (case s2_2 => k_is)
    (case s2_3 => k_is)
    (case s2_4 => k_is)
    (case s2_5 => k_is)
    (case s2_6 => k_is)
    (case s2_7 => k_is)
    (case s2_8 => k_is)
    (case s2_9 => k_is)
    (case s2_10 => k_is)
    (case s3_0 => k_is)
    (case s3_1 => k_is)
    (case s3_2 => k_is)
    (case s3_3 => k_is)
    (case s3_4 => k_is)
    (case s3_5 => k_is)
    (case s3_6 => k_is)
    (case s3_7 => k_is)
    (case s3_8 => k_is)
    (case s3_9 => k_is)
    (case s3_10 => k_is)
    (case s4_0 => k_is)
    (case s4_1 => k_is)
    (case s4_2 => k_is)
    (case s4_3 => k_is)
    (case s4_4 => k_is)
    (case s4_5 => k_is)
    (case s4_6 => k_is)
    (case s4_7 => k_is)
    (case s4_8 => k_is)
    (case s4_9 => k_is)
    (case s4_10 => k_is)
    (case s5_0 => k_is)
    (case s5_1 => k_is)
    (case s5_2 => k_is)
    (case s5_3 => k_is)
    (case s5_4 => k_is)
    (case s5_5 => k_is)
    (case s5_6 => k_is)
    (case s5_7 => k_is)
    (case s5_8 => k_is)
    (case s5_9 => k_is)
    (case s5_10 => k_is)
    (case s6_0 => k_is)
    (case s6_1 => k_is)
    (case s6_2 => k_is)
    (case s6_3 => k_is)
    (case s6_4 => k_is)
    (case s6_5 => k_is)
    (case s6_6 => k_is)
    (case s6_7 => k_is)
    (case s6_8 => k_is)
    (case s6_9 => k_is)
    (case s6_10 => k_is)
    (case s7_0 => k_is)
    (case s7_1 => k_is)
    (case s7_2 => k_is)
    (case s7_3 => k_is)
    (case s7_4 => k_is)
    (case s7_5 => k_is)
    (case s7_6 => k_is)
    (case s7_7 => k_is)
    (case s7_8 => k_is)
    (case s7_9 => k_is)
    (case s7_10 => k_is)
    (case s8_0 => k_is)
    (case s8_1 => k_is)
    (case s8_2 => k_is)
    (case s8_3 => k_is)
    (case s8_4 => k_is)
    (case s8_5 => k_is)
    (case s8_6 => k_is)
    (case s8_7 => k_is)
    (case s8_8 => k_is)
    (case s8_9 => k_is)
    (case s8_10 => k_is)
    (case s9_0 => k_is)
    (case s9_1 => k_is)
    (case s9_2 => k_is)
    (case s9_3 => k_is)
    (case s9_4 => k_is)
    (case s9_5 => k_is)
    (case s9_6 => k_is)
    (case s9_7 => k_is)
    (case s9_8 => k_is)
    (case s9_9 => k_is)
    (case s9_10 => k_is)
    (case s10_0 => k_is)
    (case s10_1 => k_is)
    (case s10_2 => k_is)
    (case s10_3 => k_is)
    (case s10_4 => k_is)
    (case s10_5 => k_is)
    (case s10_6 => k_is)
    (case s10_7 => k_is)
    (case s10_8 => k_is)
    (case s10_9 => k_is)
    (case s10_10 => k_is)
    (case lI => k_is)
    (case oI => k_is)
    (case kI => k_is)
    (case gcoin => k_is)
    (case lcoin => k_is)
    (case ocoin => k_is)
    (case kcoin => k_is)
    (case gpurse => k_is)
    (case lpurse => k_is)
    (case opurse => k_is)
    (case kpurse => k_is)
    (case gthrow => k_is)
    (case lthrow => k_is)
    (case othrow => k_is)
    (case kthrow => k_is)
    (case gthrow_by_name => k_is)
    (case lthrow_by_name => k_is)
    (case othrow_by_name => k_is)
    (case kthrow_by_name => k_is)
    (case gcaught => k_is)
    (case lcaught => k_is)
    (case ocaught => k_is)
    (case kcaught => k_is)
    (case gworth => k_is)
    (case lworth => k_is)
    (case oworth => k_is)
    (case kworth => k_is)
    (case gright => k_is)
    (case lright => k_is)
    (case oright => k_is)
    (case kright => k_is)
    (case glaw => k_is)
    (case llaw => k_is)
    (case olaw => k_is)
    (case klaw => k_is)
    (case zint => k_is)
    (case zlen => k_is)
    (case zmax => k_is)
    (case zmin => k_is)
    (case zabs => k_is)
    (case zrepr => k_is)
    (case zisinstance => k_is)
    (case zlist => k_is)
    (case zrange => k_is)
    (case zValueError => k_is)
#print axioms PySem.Challenge.cw_splicedfilms_k01_errors_holds
