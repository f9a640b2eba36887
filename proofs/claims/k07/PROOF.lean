import PyProof.Rows.All
import Wide.All
import OpenK.AllK
import Wide.FinOn
import PyProof.ReprRoads
import HandS.ForExc
import HandS.ForMost
import HandS.Wide
import HandS.EndBits
import HandS.ExcInit
import HandS.ExcField
import HandS.ExcIs
import HandS.IsInst
import HandS.MakeKwOnly
import KE.KExcIs
import PyProof.StrLawsRepr
import HandS.Evl
import HandS.Text
import HandS.StrMore
import HandS.Walk
import HandS.More
import PyProof.StrLawsFrom
import PyProof.Rows.StrCut
import PyProof.StrBlock2
import PySem.Challenge.RW_splicedfilms_k07_splices
set_option Elab.async false
set_option linter.all false
set_option maxRecDepth 100000
set_option maxHeartbeats 8000000
namespace Sf
open PySem PySem.Spec PyProof.Rows L2

/-! ### repr of data -/
mutual
theorem Dp.noDict {K : PySem.W.Frag} {H : Hp} : ∀ (d : PyData) (v : V), Dp K H v d → d.hasDict = false
  | .none, _, h => by simp only [PyData.hasDict]
  | .bool _, _, h => by simp only [PyData.hasDict]
  | .int _, _, h => by simp only [PyData.hasDict]
  | .str _, _, h => by simp only [PyData.hasDict]
  | .list ds, _, h => by
    cases h with
    | lst _ a => simp only [PyData.hasDict]; exact DpAll.noDict ds _ a
  | .tuple ds, _, h => by
    cases h with
    | tup _ a => simp only [PyData.hasDict]; exact DpAll.noDict ds _ a
  | .dict _, _, h => by cases h
theorem DpAll.noDict {K : PySem.W.Frag} {H : Hp} : ∀ (ds : List PyData) (vs : List V), DpAll K H vs ds → PyData.hasDictAll ds = false
  | [], _, h => by simp only [PyData.hasDictAll]
  | d :: ds, _, h => by
    cases h with
    | cons a b => simp only [PyData.hasDictAll, Dp.noDict d _ a, DpAll.noDict ds _ b, Bool.or_self]
end
def rRepr (K : PySem.W.Frag) : List V → Hp → VK → Prop := fun xs H Q =>
  ∃ x d, xs = [x] ∧ Dp K H x d ∧ d.showable = true ∧ d.shown.length ≤ sizeLine ∧ d.depth ≤ 60 ∧ Q (.str d.shown) H
theorem call_repr {X : Cx} (hg : X.A.guards = some []) (hu : X.A.units + 64 < cLine) : CallR X (.builtin "repr") (rRepr X.K) := by
  intro pins s σ H xs us Q I r h
  obtain ⟨x, d, rfl, hd, hs, hz, hdep, q⟩ := h
  obtain ⟨u, rfl, ru⟩ := vals1 r
  obtain ⟨as, rd⟩ := Dp.reads I d x u hd ru
  have nd := Dp.noDict d x hd
  cases rd with
  | none => simp only [PyData.shown] at q; exact PySem.P.repr_of_none ⟨.str _, H, I.tok _, ⟨_, rfl⟩, q⟩
  | bool b => simp only [PyData.shown] at q; exact PySem.P.repr_of_bool ⟨.str _, H, I.tok _, ⟨_, rfl⟩, q⟩
  | int i t => simp only [PyData.shown] at q; exact PySem.P.repr_of_int (by simpa [PyData.showable] using hs) ⟨.str _, H, I.tok _, ⟨_, rfl⟩, q⟩
  | str y t => simp only [PyData.shown] at q hz; exact PySem.P.repr_of_str ⟨.str _, H, I.tok _, ⟨_, rfl⟩, q⟩ hz
  | list h1 h2 h3 h4 =>
    exact repr_of_reads' (.list h1 h2 h3 h4) hs (fun z => by rw [nd] at z; cases z) hg (by omega) (fun _ _ e => e)
      (fun h' u tk k => ⟨.str _, H, I.kept (t' := tk) k, ⟨_, rfl⟩, q⟩) hz
  | tuple h1 h2 h3 h4 =>
    exact repr_of_reads' (.tuple h1 h2 h3 h4) hs (fun z => by rw [nd] at z; cases z) hg (by omega) (fun _ _ e => e)
      (fun h' u tk k => ⟨.str _, H, I.kept (t' := tk) k, ⟨_, rfl⟩, q⟩) hz
  | dict h1 h2 h3 h4 h5 => cases hd

/-! ### defs that run where no repr is under way -/
/-- FnOk's like, for stacks without a guard; nothing is let out -/
structure Gd (P : Program) (w : World) (K : PySem.W.Frag) (mg : Str → Option Value) (base : Heap) (k : Nat) (f : Addr) (fd : FuncData) (ps : List Str) (sp : Sp) : Prop where
  size : ∀ vs H Q E, sp vs H Q E → vs.length = ps.length
  go : ∀ (A : Around) (outer : List Env) (s : Shared) (H : Hp) (args : Args) (us : List Value) (vs : List V) (Q : VK) (E : XK), A.guards = some [] → Room k A →
    Env0 P w K mg base A outer s H → BindsTo s fd args (ps.zip us) → Vals vs us → sp vs H Q E → codeAny (model P w) A (.call (.ref f) args) (CR CX0 outer P w H s Q E) s
section
variable {P : Program} {w : World} {K : PySem.W.Frag} {mg : Str → Option Value} {base : Heap}
theorem gd_of {k : Nat} {f : Addr} {fd : FuncData} {ps : List Str} {sp : Sp} (F : FnOk P w K mg base CX0 k f fd ps sp) : Gd P w K mg base k f fd ps sp :=
  ⟨F.len, fun A outer s H args us vs Q E _ hr => F.run A outer s H args us vs Q E hr⟩
theorem gd_mono {j k : Nat} {f : Addr} {fd : FuncData} {ps : List Str} {sp : Sp} (F : Gd P w K mg base j f fd ps sp) (h : j ≤ k) : Gd P w K mg base k f fd ps sp :=
  ⟨F.size, fun A outer s H args us vs Q E hg hr => F.go A outer s H args us vs Q E hg (hr.mono h)⟩
theorem okG {x qual : Str} {st : Stmt} {f : Addr} {fd : FuncData} {N ps : List Str} {k : Nat} {sp : Sp} (F : Fun K x qual st f fd) (S : FnScope N ps (defScope st)) (len : ∀ vs H Q E, sp vs H Q E → vs.length = ps.length)
    (body : ∀ (cdv : Value) (A : Around) (outer : List Env) (s : Shared) (H : Hp) (vs : List V) (Q : VK) (E : XK), (A.deeper (envOfC qual (defScope st) s.heap.objs.size f cdv)).guards = some [] →
      Room k (A.deeper (envOfC qual (defScope st) s.heap.objs.size f cdv)) → sp vs H Q E →
      ∃ t, PSs (cxOf CX0 P w K mg base N qual (defScope st) f cdv A outer s H E).nox (defBody st) t ∧ t { nx := fun _ H' => Q .non H', rt := Q } (start N vs) H) : Gd P w K mg base (k + 1) f fd ps sp := by
  obtain ⟨oc, od, kV, doc, pm, an, cdv, ct, osl, e, lk, hcd⟩ := F.ex
  subst e
  refine ⟨len, ?_⟩
  intro A outer s H args us vs Q E hg hr e0 hb r hsp
  have size := len _ _ _ _ hsp
  have old : ∀ b o, base.get? b = some o → s.heap.get? b = some o := fun b o z => (e0.bs b o z).1
  have KX : K.In s.heap := e0.mod.kin.keeps old
  have kinds : ∀ y ∈ ps.zip us, (defScope st).names.lookup y.1 = some .local ∨ ((defScope st).names.lookup y.1 = some .cell ∧ ((cellsFrom (s.heap.objs.size + 1) (defScope st).names []).lookup y.1).isSome = true) := by
    intro y hy
    obtain ⟨n, v⟩ := y
    cases S.par n (List.of_mem_zip hy).1 with
    | inl q => exact .inl q
    | inr q => exact .inr ⟨q, PySem.W.cellsFrom_some _ _ _ (.inl q)⟩
  apply codeAny_call_function hr.depth (KX _ _ lk) rfl S.co S.gen rfl (PySem.W.codeRec_of KX hcd)
  apply hb
  apply wpAny_newFunctionEnv_cells S.kind kinds
  intro env he s1 x
  subst he
  refine ⟨(e0.mod.nolimit.keeps old).keeps x.toInCall.keep, codeAny_func ?_⟩
  obtain ⟨t, ht, hq⟩ := body cdv A outer s H vs Q E (by exact hg) (hr.deeper _) hsp
  have I := inv_start (CX := CX0) (f := f) (cd := cdv) (qual := qual) (outer := outer) (E := E) S hr.hd e0 size r x
  apply wpAny_mono (ht.nox.run [] s1 (start N vs) H _ I hq)
  · intro fl s' hs
    cases fl with
    | ret u => exact let ⟨v, _, H', J, rv, q⟩ := hs; ⟨v, H', J.os, J.bare, J.base, J.hok, rv, q⟩
    | next => exact let ⟨_, H', J, q⟩ := hs; ⟨V.non, H', J.os, J.bare, J.base, J.hok, rfl, q⟩
    | brk => exact let ⟨_, _, _, q⟩ := hs; q.elim
    | cont => exact let ⟨_, _, _, q⟩ := hs; q.elim
  · exact fun _ _ z => z
end
section
variable {X : Cx} {k : Nat} {f : Addr} {fd : FuncData} {ps : List Str} {sp : Sp} {x : Str} {p pos : Pos} {e : Expr} {es : List Expr} {t : TA}
/-- the call of such a def -/
theorem pe_callG (hG : X.A.guards = some []) (F : Gd X.prog X.w X.K X.mg X.base k f fd ps sp) (hr : Room k X.A) (hg : Gl X x) (hm : X.mg x = some (.ref f)) (hk : PySem.W.keepIn X.K (.ref f) = true) (hb : Binds X.K fd ps [])
    (ha : PA X (e :: es) t) (hdb : (x == ("__debug__" : Str)) = false := by decide) (he : starEach (e :: es) X.env = (false, eval e X.env) :: starEach es X.env := by rfl) (hpl : (backTo pos (starEach es X.env)).any (·.1) = false := by rfl) :
    PE X (.Call (.Name x p) (e :: es) [] pos) (tCall sp [] E0 t) := by
  constructor
  intro pins s σ H Q I h
  apply wpAny_Call_Name_kw (ld_glob I hg hm ?_ hdb)
  apply PySem.W.callWith_K (h₀ := X.base) I.ok.mod.kin hk (thn (ha.run pos pins s σ H _ I h) ?_) he hpl
  rintro us s1 ⟨vs, H1, I1, r, q⟩
  refine ⟨I1.kIn, ?_⟩
  rw [List.append_nil] at q
  have l := F.size _ _ _ _ q
  have b := hb s1 us I1.kIn (by rw [List.append_nil, ← r.length]; exact l)
  rw [List.append_nil] at b
  apply wpAny_call
  apply codeAny_mono (F.go X.A X.stack s1 H1 ⟨us, []⟩ us vs Q E0 hG hr I1.env0 b r q)
  intro res s' hq
  cases res with
  | error er => exact False.elim hq
  | ok fl =>
    cases fl with
    | ret u => exact I1.after hq
    | next => exact hq.elim
    | brk => exact hq.elim
    | cont => exact hq.elim
end

/-! ### the end of a law whose def runs where no repr is under way -/
/-- the law's call, over an abstract heap that tracks the script alone -/
theorem law_at {P : Program} {w : World} {K : PySem.W.Frag} {mg mb : Str → Option Value} {k : Nat} {fa a : Addr} {fd : FuncData} {x : Str} {sp : Sp} {s₁ : Shared} {vs : List Value} (H : Hp)
    (KX : K.In s₁.heap) (gl : s₁.heap.Ns mainGlobals mg) (hb : s₁.heap.Ns builtinsNs mb) (hbb : ∀ x : Str, x ≠ "__name__" → mb x = bootBuiltins x) (hlim : s₁.heap.NoLimit) (hg : s₁.gens = #[])
    (ha : s₁.heap.get? a = some { cls := .type "list", data := .seq vs.toArray }) (hr : Room k callerA)
    (F : ∀ base : Heap, K.In base → base.Ns mainGlobals mg → Gd P w K mg base k fa fd [x] sp) (hbind : ∀ (s : Shared) (u : Value), BindsTo s fd ⟨[u], []⟩ [(x, u)])
    (only : Only H) (lone : ∀ b u, H b = some u → b = a ∧ K.lookup a = none) (hok : HOk P w H s₁.heap) (hsp : sp [.ref a] H (fun v _ => v = .bl true) E0) :
    codeAny (model P w) callerA (.call (.ref fa) ⟨[.ref a], []⟩) (fun r s' => r = .ok (.ret (.bool true)) ∧ OldK s₁.heap s'.heap ∧ s'.os = s₁.os ∧ AllBare s'.gens) s₁ := by
  have isK : ∀ b o, K.lookup b = some o → H b = none := by
    intro b o e
    cases q : H b with
    | none => rfl
    | some u =>
      obtain ⟨z, n⟩ := lone b u q
      rw [z, n] at e
      cases e
  have isD : ∀ b o es ep, s₁.heap.get? b = some o → o.data = .dict es ep → H b = none := by
    intro b o es ep e d
    cases q : H b with
    | none => rfl
    | some u =>
      rw [(lone b u q).1, ha] at e
      cases e
      cases d
  have ns : ∀ {b : Addr} {m : Str → Option Value}, s₁.heap.Ns b m → (hidT s₁.heap H).Ns b m := by
    rintro b m ⟨o, es, ep, e, d, r⟩
    exact ⟨o, es, ep, hidT_get e (isD b o es ep e d), d, r⟩
  have kin : K.In (hidT s₁.heap H) := fun b o e => hidT_get (KX b o e) (isK b o e)
  obtain ⟨mc, l1, l2⟩ := hlim
  have e0 : Env0 P w K mg (hidT s₁.heap H) callerA [] s₁ H := {
    frames := rfl
    mod := ⟨kin, ns gl, ⟨mb, ns hb, hbb⟩, ⟨mc, ns l1, l2⟩⟩
    bs := fun b o e => of_hidT e
    bsz := Nat.le_of_eq (hidT_size _ _)
    funs := trivial
    frf := fun b z => (List.not_mem_nil z).elim
    hok := hok
    bare := .of_eq hg }
  have run := (F _ kin (ns gl)).go callerA [] s₁ H ⟨[.ref a], []⟩ [.ref a] [.ref a] _ _ rfl hr e0 (hbind s₁ (.ref a)) (.cons rfl .nil) hsp
  apply codeAny_mono run
  intro r s' h
  cases r with
  | error er => exact h.elim
  | ok fl =>
    cases fl with
    | next => exact h.elim
    | brk => exact h.elim
    | cont => exact h.elim
    | ret u =>
      obtain ⟨v, H', os, bare, un, hok', r', q⟩ := h
      have q : v = V.bl true := q
      subst q
      have r' : u = Value.bool true := r'
      subst r'
      refine ⟨rfl, OldK.of_keep ?_, os, bare⟩
      intro b o e
      cases q : H b with
      | none => exact un.keep b o e q (List.not_mem_nil) (List.not_mem_nil)
      | some u =>
        rcases only b with z | ⟨ob, xs, z⟩
        · rw [q] at z
          cases z
        · have z2 := (hok' b _ (un.frzs b ob _ z)).1
          rw [(hok b _ z).1] at e
          cases e
          exact z2
theorem law_any {P : Program} {w : World} {K : PySem.W.Frag} {mg mb : Str → Option Value} {k : Nat} {fa a : Addr} {fd : FuncData} {x : Str} {sp : Sp} {s₁ : Shared} {vs : List Value} {ns : List Int}
    (KX : K.In s₁.heap) (gl : s₁.heap.Ns mainGlobals mg) (hb : s₁.heap.Ns builtinsNs mb) (hbb : ∀ x : Str, x ≠ "__name__" → mb x = bootBuiltins x) (hlim : s₁.heap.NoLimit) (hg : s₁.gens = #[])
    (ha : s₁.heap.get? a = some { cls := .type "list", data := .seq vs.toArray }) (hi : IntsAre vs ns) (hl : ns.length ≤ sizeLine) (hr : Room k callerA)
    (F : ∀ base : Heap, K.In base → base.Ns mainGlobals mg → Gd P w K mg base k fa fd [x] sp) (hbind : ∀ (s : Shared) (u : Value), BindsTo s fd ⟨[u], []⟩ [(x, u)])
    (hsp : ∀ H : Hp, Only H → SqL K H a (ns.map V.int) → sp [.ref a] H (fun v _ => v = .bl true) E0) :
    codeAny (model P w) callerA (.call (.ref fa) ⟨[.ref a], []⟩) (fun r s' => r = .ok (.ret (.bool true)) ∧ OldK s₁.heap s'.heap ∧ s'.os = s₁.os ∧ AllBare s'.gens) s₁ := by
  have rv := vals_ints hi
  have len : vs.length = ns.length := hi.length
  cases hk : K.lookup a with
  | some o =>
    have e := KX a o hk
    rw [ha] at e
    cases e
    have sq : SqL K (fun _ => none) a (ns.map V.int) := .inr ⟨_, vs.toArray, _, hk, rfl, rfl, rfl, by rw [List.size_toArray, len]; exact hl, by simpa using rv⟩
    exact law_at (fun _ => none) KX gl hb hbb hlim hg ha hr F hbind (fun _ => .inl rfl) (fun _ _ z => by cases z) (fun b u z => by cases z) (hsp _ (fun _ => .inl rfl) sq)
  | none =>
    let frozen : HO := .frz { cls := .type "list", data := .seq vs.toArray } (.lst (ns.map V.int))
    let H : Hp := fun b => if b = a then some frozen else none
    have at_a : H a = some frozen := if_pos rfl
    have none_else : ∀ b, b ≠ a → H b = none := fun b n => if_neg n
    have one : ∀ b u, H b = some u → b = a ∧ u = frozen := by
      intro b u z
      by_cases n : b = a
      · subst n
        rw [at_a] at z
        exact ⟨rfl, (Option.some.inj z).symm⟩
      · rw [none_else b n] at z
        cases z
    have only : Only H := by
      intro b
      by_cases n : b = a
      · subst n
        exact .inr ⟨_, _, at_a⟩
      · exact .inl (none_else b n)
    refine law_at H KX gl hb hbb hlim hg ha hr F hbind only (fun b u z => ⟨(one b u z).1, hk⟩) ?_ (hsp H only (.inl (.inr ⟨_, at_a⟩)))
    intro b u z
    obtain ⟨e1, e2⟩ := one b u z
    subst e1 e2
    exact ⟨ha, by rw [List.length_map]; exact hl, vs, _, rv, ha⟩
theorem walkG {l : PySem.W.OpenLaw} {n k : Nat} {q : Program} {loose : List Str} {XP : (Str → Option Value) → Heap → Prop} {YP : World → Heap → Prop} {d : DefRec} {K : Params → PySem.W.Frag} {sp : PySem.W.Frag → Sp} {x : Str}
    (hn : l.most = some n) (hn2 : n ≤ sizeLine) (hdf : d.params.defaults = []) (hr : Room k callerA) (hY : ∀ (w : World) (h : Heap), YP w h → (K w.params).In h)
    (F : ∀ (w : World) (mg : Str → Option Value) (fa : Addr) (h : Heap), (K w.params).In h → h.Ns mainGlobals mg → mg d.name = some (.ref fa) →
      ∃ fd : FuncData, (∀ (s : Shared) (u : Value), BindsTo s fd ⟨[u], []⟩ [(x, u)]) ∧ ∀ base : Heap, (K w.params).In base → base.Ns mainGlobals mg → Gd l.prog w (K w.params) mg base k fa fd [x] (sp (K w.params)))
    (hsp : ∀ (K : PySem.W.Frag) (H : Hp) (a : Addr) (ns : List Int), ns.length ≤ n → (∀ z ∈ ns, Builtin.Int.intBits z ≤ 1048576) → SqL K H a (ns.map V.int) → sp K [.ref a] H (fun v _ => v = .bl true) E0) :
    PySem.W.WalkO q loose XP YP l.row.toRowW d [] (fun f vs => PySem.call f vs) := by
  apply Att.attach_callB hn hdf
  intro w s₀ s₁ mg mb fa o pm cd doc a vs ns G Y ho hd hcd hmg hobj hints hlen hbits hg
  have KX := hY w _ Y
  obtain ⟨fd, hb, hF⟩ := F w mg fa _ KX G.T.g hmg
  exact law_any KX G.T.g G.T.b G.T.builtins G.T.nolimit hg hobj hints (Nat.le_trans hlen hn2) hr hF hb fun H _ hS => hsp _ H a ns hlen hbits hS
end Sf

namespace Sf
open PySem PySem.Spec PyProof.Rows L2
/-! ### numbers of any size -/
def CMulX (i j : Int) : Prop := Builtin.Int.intBits i + Builtin.Int.intBits j ≤ 100000000
def CPowX (i j : Int) : Prop := 0 ≤ j ∧ (Builtin.Int.intBits i : Int) * j ≤ 100000000
section
variable {X : Cx}
theorem op_mulX : OpR X (binaryOp .Mult) (rI CMulX fun i j => .int (i * j)) := opI fun i j _ _ _ _ _ hc q => mul_int q (by
  unfold IntMulOk
  intro z
  rw [Bool.and_eq_true] at z
  have z2 := z.2
  unfold Builtin.Int.intTooBig at z2
  have z3 := of_decide_eq_true z2
  have e : bitsLine = 134217728 := by decide
  have hc' : Builtin.Int.intBits i + Builtin.Int.intBits j ≤ 100000000 := hc
  rw [e] at z3
  omega)
theorem op_powX : OpR X (binaryOp .Pow) (rI CPowX fun i j => .int (i ^ j.toNat)) := opI fun i j _ _ _ _ _ hc q => pow_int hc.1 (by
  exact Int.le_trans hc.2 (by decide)) q
end

theorem bits_le {x : Int} {n : Nat} (h : x.natAbs < 2 ^ n) : Builtin.Int.intBits x ≤ n := by
  unfold Builtin.Int.intBits
  split
  · exact Nat.zero_le _
  · rename_i hx
    have x0 : x.natAbs ≠ 0 := fun z => hx (by rw [Int.natAbs_eq_zero.mp z]; rfl)
    have := (Nat.log2_lt x0).mpr h
    omega
theorem bits_in {x : Int} {n : Nat} (h0 : 0 ≤ x) (h : x < 2 ^ n) : Builtin.Int.intBits x ≤ n := by
  apply bits_le
  have e : (x.natAbs : Int) = x := Int.natAbs_of_nonneg h0
  have e2 : ((2 ^ n : Nat) : Int) = 2 ^ n := by simp
  omega
theorem pow_ok {x j : Int} {n : Nat} (h0 : 0 ≤ x) (h : x < 2 ^ n) (hj : 0 ≤ j) (hn : (n : Int) * j ≤ 100000000) : (Builtin.Int.intBits x : Int) * j ≤ 100000000 :=
  Int.le_trans (Int.mul_le_mul_of_nonneg_right (by have := bits_in h0 h; omega) hj) hn

/-! ### where draws come from: three numbers in a list -/
/-- at a the sack, behind at most n draws -/
def Sk (n : Nat) (H : Hp) (a : Addr) : Prop := ∃ p q r : Int, H a = some (.lst [.int p, .int q, .int r]) ∧ 0 ≤ q ∧ q < 2 ^ 90 ∧ 0 ≤ r ∧ r ≤ n
/-- all but what stands at a is as it was -/
def Kp (a : Addr) (H H' : Hp) : Prop := ∀ b o, b ≠ a → H b = some o → H' b = some o
theorem Kp.refl (a : Addr) (H : Hp) : Kp a H H := fun _ _ _ h => h
theorem Kp.trans {a : Addr} {H H1 H2 : Hp} (x : Kp a H H1) (y : Kp a H1 H2) : Kp a H H2 := fun b o n h => y b o n (x b o n h)
theorem Sk.mono {n m : Nat} {H : Hp} {a : Addr} (h : Sk n H a) (l : n ≤ m) : Sk m H a := by
  obtain ⟨p, q, r, e, h1, h2, h3, h4⟩ := h
  exact ⟨p, q, r, e, h1, h2, h3, by omega⟩
def spCoin : Sp := fun vs H Q _ => ∃ (a : Addr) (n : Nat) (m : Int), vs = [.ref a, .int m] ∧ Sk n H a ∧ n ≤ 1000000000 ∧ 0 < m ∧ m < 2 ^ 200 ∧
  ∀ z H', 0 ≤ z → z < m → Sk (n + 1) H' a → Kp a H H' → Q (.int z) H'
/-- a def that can be called: its promise, how its arguments bind -/
structure Cal (P : Program) (w : World) (K : PySem.W.Frag) (mg : Str → Option Value) (base : Heap) (k : Nat) (f : Addr) (fd : FuncData) (ps : List Str) (sp : Sp) : Prop where
  ok : FnOk P w K mg base CX0 k f fd ps sp
  binds : Binds K fd ps []
structure CalG (P : Program) (w : World) (K : PySem.W.Frag) (mg : Str → Option Value) (base : Heap) (k : Nat) (f : Addr) (fd : FuncData) (ps : List Str) (sp : Sp) : Prop where
  go : Gd P w K mg base k f fd ps sp
  binds : Binds K fd ps []
end Sf

namespace Sf
open PySem PySem.Spec PySem.Calls L2 PySem.HandSPX
/-! ### an own error class called with a keyword -/
section
variable {prog : Program} {w : World} {A : Around} {E : Value → Shared → Prop} {R : Result → Shared → Prop} {h : Heap} {g : Array GenState} {d : Drawn} {t : Nat} {os : OsState}
variable {nm q : Str} {C N : Addr} {bs bm bmB : List Value} {hdct : Bool} {sn : List Str} {sub : List Value} {ab : Bool} {col : Option Bool} {dd : Option Addr} {k0 k1 k2 k3 k5 : Option Value} {B newId initId : String}
theorem newK (F : ExcBaseFacts B newId initId bmB) (hT : ∀ Y : String, bm.contains (.type Y) = bmB.contains (.type Y)) {kw : List (Str × Value)}
    (hC : h.get? C = some (excClassObj nm q C N bs bm hdct sn sub ab col dd k0 k1 k2 k3 k5 newId))
    (hq : R (.ok (.ret (.ref (h.objs.size + 1)))) ⟨(h.push (W.kdv_tup [])).push (excO C h.objs.size), g, d, t, os⟩) :
    codeAny (model prog w) A (.builtin newId ⟨[.ref C], kw⟩) R ⟨h, g, d, t, os⟩ := by
  have ends := F.ends
  have isB : (Value.ref C :: bm).contains (.type B) = true := by rw [List.contains_cons, hT, F.hasB, Bool.or_true]
  have noA : (Value.ref C :: bm).contains (.type "AttributeError") = false := by rw [List.contains_cons, hT, F.noAttr]; rfl
  have noN : (Value.ref C :: bm).contains (.type "NameError") = false := by rw [List.contains_cons, hT, F.noName]; rfl
  apply codeAny_builtinAt F.entry
  unfold Builtin.«BaseException.__new__»
  apply wpAt_bind
  show wpAt _ _ _ (stack >>= _) _ _ _
  refine wpAt_bind (wpAt_stack fun _ _ => wpAt_of_wpAny ?_)
  wp_walk
  apply wpAt_of_wpAny
  rw [F.owner]
  repeat (first | with_reducible refine wpAny_madeHere_exc F.canon hC ?_ | with_reducible refine wpAny_loadPart_at hC ?_ | (with_reducible refine wpAny_isSubtype_exc hC ?_; (first | rw [isB] | rw [noA] | rw [noN])) | wp_step)
  show R _ _
  rw [Heap.size_push]
  exact hq
theorem checkK (F : ExcBaseFacts B newId initId bmB) (hT : ∀ Y : String, bm.contains (.type Y) = bmB.contains (.type Y)) {kw : List (Str × Value)} {M : Model} {Q : Unit → Shared → Prop}
    (hC : h.get? C = some (excClassObj nm q C N bs bm hdct sn sub ab col dd k0 k1 k2 k3 k5 newId)) (hq : Q () ⟨h, g, d, t, os⟩) : wpAny M A (checkBuiltinCall newId ⟨[.ref C], kw⟩) Q E ⟨h, g, d, t, os⟩ := by
  have isB : (Value.ref C :: bm).contains (.type B) = true := by rw [List.contains_cons, hT, F.hasB, Bool.or_true]
  have star := F.noStar
  simp only [checkBuiltinCall, F.newKind, F.newSplit, F.newRow]
  repeat (first | refine wpAny_loadPart_at hC ?_ | (refine wpAny_isSubtype_exc hC ?_; rw [isB]) | refine wpAny_staticBase_exc hC ?_ | refine wpAny_madeBy_exc hC ?_ | (simp only [bne_self_eq_false, Bool.false_eq_true, if_false]) | wp_step)
  exact hq
theorem checkTK {M : Model} {kw : List (Str × Value)} {Q : Unit → Shared → Prop} (hC : h.get? C = some (excClassObj nm q C N bs bm hdct sn sub ab col dd k0 k1 k2 k3 k5 newId))
    (hq : Q () ⟨h, g, d, t, os⟩) : wpAny M A (checkBuiltinCall "type.__call__" ⟨[.ref C], kw⟩) Q E ⟨h, g, d, t, os⟩ := by
  have ts := tc_sub
  have ty : (⟨h, g, d, t, os⟩ : Shared).TypeIs (.ref C) "type" := ⟨_, hC, rfl⟩
  simp only [checkBuiltinCall, tc_kind, tc_split]
  repeat (any_goals (first | assumption | with_reducible refine wpAny_loadPart_at hC ?_ | with_reducible refine wpAny_onRaise ?_ | with_reducible refine wpAny_map ?_ | wp_step))
theorem typeK (F : ExcBaseFacts B newId initId bmB) (hT : ∀ Y : String, bm.contains (.type Y) = bmB.contains (.type Y)) {kw : List (Str × Value)} {fI : Addr} {Q : Fin → Shared → Prop}
    (hC : h.get? C = some (excClassObj nm q C N bs bm hdct sn sub ab col dd k0 k1 k2 k3 k5 newId))
    (hi : W.Looks (model prog w) h (typeLookup (.ref C) "__init__") (some (.ref fI))) (hb : ∀ self, W.Looks (model prog w) h (bindSpecial (.ref fI) self) (.ref fI, [self]))
    (hq : codeAny (model prog w) A (.call (.ref fI) ⟨[.ref (h.objs.size + 1)], kw⟩)
      (fun r s' => match r with | .ok (.ret v) => v = .none ∧ Q (.done (.ret (.ref (h.objs.size + 1)))) s' | .ok _ => False | .error e => E e s')
      ⟨(h.push (W.kdv_tup [])).push (excO C h.objs.size), g, d, t, os⟩) :
    wpAny (model prog w) A (Builtin.«type.__call__» ⟨[.ref C], kw⟩) Q E ⟨h, g, d, t, os⟩ := by
  repeat (first | with_reducible refine wpAny_loadPart_at hC ?_ | with_reducible refine wpAny_madeBy_exc hC ?_ | wp_step)
  apply codeAny_call_builtin_code (Code.quiet_builtin _ F.quiet) (checkK F hT hC ?_)
  apply newK F hT hC
  show wpAny _ _ _ _ _ _
  have old : ∀ b o, h.get? b = some o → ((h.push (W.kdv_tup [])).push (excO C h.objs.size)).get? b = some o := fun b o e => Heap.get?_push_of_some _ (Heap.get?_push_of_some _ e)
  have hC2 := old _ _ hC
  have here : ((h.push (W.kdv_tup [])).push (excO C h.objs.size)).get? (h.objs.size + 1) = some (excO C h.objs.size) := by heap_get
  have self : (Value.ref C :: bm).contains (.ref C) = true := by simp
  have look := hi.keeps old
  have bind := (hb (.ref (h.objs.size + 1))).keeps old
  unfold isInstance
  repeat (first | with_reducible refine wpAny_loadPart_at here ?_ | (with_reducible refine wpAny_isSubtype_exc hC2 ?_; rw [self]) | wp_step)
  show wpAny _ _ (typeLookup (.ref C) _) _ _ _
  apply look.at
  apply wpAny_holding (wpAny_bind (bind.at ?_))
  apply wpAny_bind (wpAny_call (codeAny_mono hq ?_))
  intro r s' z
  cases r with
  | error e => exact z
  | ok fl =>
    cases fl with
    | ret v =>
      obtain ⟨rfl, z⟩ := z
      first | exact wpAny_pure (wpAny_pure z) | (wp_walk; exact z)
    | next => exact z.elim
    | brk => exact z.elim
    | cont => exact z.elim
theorem callK (F : ExcBaseFacts B newId initId bmB) (hT : ∀ Y : String, bm.contains (.type Y) = bmB.contains (.type Y)) {kw : List (Str × Value)} {fI : Addr}
    (hC : h.get? C = some (excClassObj nm q C N bs bm hdct sn sub ab col dd k0 k1 k2 k3 k5 newId))
    (hi : W.Looks (model prog w) h (typeLookup (.ref C) "__init__") (some (.ref fI))) (hb : ∀ self, W.Looks (model prog w) h (bindSpecial (.ref fI) self) (.ref fI, [self]))
    (hq : codeAny (model prog w) (A.under (.builtin "type.__call__" ⟨[.ref C], kw⟩)) (.call (.ref fI) ⟨[.ref (h.objs.size + 1)], kw⟩) (W.InitBack (h.objs.size + 1) R)
      ⟨(h.push (W.kdv_tup [])).push (excO C h.objs.size), g, d, t, os⟩) : codeAny (model prog w) A (.call (.ref C) ⟨[], kw⟩) R ⟨h, g, d, t, os⟩ := by
  have lk := tc_lookup
  have bd := tc_bind (.ref C)
  have ty : (⟨h, g, d, t, os⟩ : Shared).TypeIs (.ref C) "type" := ⟨_, hC, rfl⟩
  apply codeAny_of_tree
  show wpAny _ _ (callAny (.ref C) _) _ _ _
  repeat (any_goals (first | assumption | with_reducible refine wpAny_loadPart_at hC ?_ | wp_step))
  refine ⟨rfl, ?_⟩
  apply codeAny_call_builtin_at (Code.quiet_builtin _ (by decide +kernel)) entry_typeCall (checkTK hC (typeK F hT hC hi hb ?_))
  apply codeAny_mono hq
  intro r s' z
  cases r with
  | error e => exact z
  | ok fl => cases fl <;> exact z
end
end Sf
namespace Sf
open PySem PySem.Spec PyProof.Rows L2
/-! ### the readings over it -/
/-- C(k = v, ..), C's __init__ keeping sp -/
def tMkK (C : Addr) (sp : Sp) (gV : List V → List V → List V) (n : Nat) (tk : TA) : L2.St → Hp → XK → Prop := fun σ H Q => tk σ H fun zs H1 => zs.length = n ∧ ∀ a, H1 a = none →
  sp (gV [.ref a] zs) (upd H1 a (exo a C none)) (fun v H2 => v = .non ∧ ∃ (d : Addr) (fs : List (Str × V)), H2 a = some (exo a C (some d)) ∧ H2 d = some (exd d fs) ∧ H1 d = none ∧
    Q (.ref C) (some d) (upd (del H2 a) d (.xd fs))) E0
section
variable {X : Cx} {x : Str} {C fI : Addr} {k : Nat} {fd : FuncData} {ps ks : List Str} {sp : Sp} {g : List Value → List Value → List Value} {gV : List V → List V → List V} {kws : List Keyword} {tk : TA} {p pos : Pos}
theorem pmk_kw (T : OexC X.K C) (iC : PySem.W.findIn X.K (.ref C) "__init__" = some (some (.ref fI))) (tI : PySem.W.typeIn X.K (.ref fI) = some (.type "function"))
    (F1 : FnOk X.prog X.w X.K X.mg X.base CX0 k fI fd ps sp) (hr : Room (k + 1) X.A) (hb : KBn X.K fd ps 1 ks g gV) (hg : Gl X x) (hm : X.mg x = some (.ref C)) (hkw : PK X kws tk)
    (hall : (backToKw pos (keywordEach kws X.env)).all (·.1.isSome) = true := by rfl) (hks : (backToKw pos (keywordEach kws X.env)).filterMap (·.1) = ks := by rfl) (hdb : (x == ("__debug__" : Str)) = false := by decide)
    (hpl : ((backTo pos (starEach [] X.env)).any (·.1) || (backToKw pos (keywordEach kws X.env)).any (·.1.isNone)) = false := by rfl) :
    PMk X (.Call (.Name x p) [] kws pos) (tMkK C sp gV ks.length tk) := by
  intro pins s σ H Q I h
  obtain ⟨nm, q, N, bs, bm, sn, sub, ab, col, dd, k0, k1, k2, k3, k5, hC, hbm⟩ := T.cls
  apply wpAny_Call_Name_kw (ld_glob I hg hm ?_ hdb)
  apply PySem.W.callWith_KW0 (h₀ := X.base) I.ok.mod.kin T.kC hall ?_ hpl
  apply thn (hkw.run pos pins s σ H _ I h)
  rintro ws s1 ⟨zs, H1, I1, rz, len, q1⟩
  refine ⟨I1.kIn, ?_⟩
  rw [hks]
  show wpAny _ _ (call (.ref C) [] (ks.zip ws)) _ _ _
  obtain ⟨hp, g0, dr, t0, os⟩ := s1
  have free : H1 (hp.objs.size + 1) = none := I1.hok.fresh (Nat.le_succ _)
  have want := q1 (hp.objs.size + 1) free
  have old : ∀ b o, hp.get? b = some o → ((hp.push (PySem.W.kdv_tup [])).push (PySem.HandSPX.excO C hp.objs.size)).get? b = some o := fun b o e => Heap.get?_push_of_some _ (Heap.get?_push_of_some _ e)
  have here : ((hp.push (PySem.W.kdv_tup [])).push (PySem.HandSPX.excO C hp.objs.size)).get? (hp.objs.size + 1) = some (PySem.HandSPX.excO C hp.objs.size) := by heap_get
  have I2 := I1.laid (t' := t0) (a := hp.objs.size + 1) (o := exo (hp.objs.size + 1) C none) old (Nat.le_succ _) (exo_ok here)
  have n2 : ws.length = ks.length := by rw [← rz.length]; exact len
  have r2 := hb.rel (Paired.cons (F := RelV) (show RelV (V.ref (hp.objs.size + 1)) (Value.ref (hp.objs.size + 1)) from rfl) .nil) rz
  apply wpAny_call
  apply callK F.excBase_ValueError (fun Y => PySem.HandSPX.refsVE_contains Y bm hbm) (I1.kIn _ _ hC) (PySem.W.looks_findIn I1.kIn iC) (fun self => PySem.W.bind_fn I1.kIn self tI)
  apply codeAny_mono (F1.run _ X.stack _ _ ⟨[Value.ref (hp.objs.size + 1)], ks.zip ws⟩ _ _ _ E0 (hr.make C [] (ks.zip ws)) (I2.env0.make C [] (ks.zip ws)) (hb.to _ [Value.ref (hp.objs.size + 1)] ws I2.kIn rfl n2) r2 want)
  intro r s' hq
  cases r with
  | error er => exact False.elim hq
  | ok fl =>
    cases fl with
    | ret u =>
      obtain ⟨v, H2, os2, bare2, un2, hok2, rv, ev, d, fs, ea, ed, hd1, q2⟩ := hq
      subst ev
      obtain ⟨h2, g2, d2, t2, os'⟩ := s'
      exact ⟨rv, mk_end (raises_own T.exC T.tyC) I1 (Nat.le_succ _) old un2 hok2 os2 bare2 ea ed hd1 q2⟩
    | next => exact hq.elim
    | brk => exact hq.elim
    | cont => exact hq.elim
end
end Sf
namespace Sf
open PySem PySem.Spec PyProof.Rows L2
/-! ### a caught error: isinstance -/
/-- what a class of errors must say, so that isinstance asks its instances rightly -/
structure IsiC (K : PySem.W.Frag) (C : Addr) : Prop where
  cl : (PySem.W.clsIn K C).isSome = true
  ga : PySem.W.findIn K (.ref C) "__getattribute__" = some (some (.builtin "BaseException.__getattribute__"))
  gg : PySem.W.findIn K (.ref C) "__getattr__" = some none
  sub : PySem.W.subIn K (.ref C) (.type "BaseException") = some true
  kl : PySem.W.findIn K (.ref C) "__class__" = some (some (.builtin "object.__class__"))
  sp : PySem.W.specialIn K (.builtin "object.__class__") "__get__" = some (some (.builtin "getset_descriptor.__get__"))
  tk : PySem.W.takesIn K (.builtin "object.__class__") = some true
  ob : PySem.W.mroIn K C (.type "object") = some true
/-- isinstance(e, c), e the error that the suite holds: at a, its class cls, its own dict d -/
def rIsX (K : PySem.W.Frag) (a : Addr) (cls : Value) (d : Option Addr) : List V → Hp → VK → Prop := fun xs H Q => ∃ (C dd : Addr) (fs : List (Str × V)) (c : V) (cv : Value) (b : Bool),
  cls = .ref C ∧ d = some dd ∧ xs = [.ref a, c] ∧ H dd = some (.xd fs) ∧ IsiC K C ∧ (∀ u, RelV c u → u = cv) ∧ PySem.W.kitOne K (.ref C) cv = some b ∧ Q (.bl b) H
theorem call_isX {X : Cx} {a : Addr} {cls : Value} {d : Option Addr} {oe : Obj} {pn : List (Addr × Obj)} (hz : Zc cls d oe) (hf : ∃ vs, oe.data = .fields vs) : CallR (X.suite a ((a, oe) :: pn)) (.builtin "isinstance") (rIsX X.K a cls d) := by
  intro pins s σ H xs us Q I r h
  obtain ⟨C, dd, fs, c, cv, b, ec, ed, rfl, hdd, T, hcv, ek, q⟩ := h
  subst ec
  subst ed
  cases r with
  | cons rx r1 =>
    cases r1 with
    | cons rc r2 =>
      cases r2
      have e1 : _ = Value.ref a := rx
      subst e1
      have e2 := hcv _ rc
      subst e2
      obtain ⟨ha, _⟩ := I.pin (a, oe) (List.mem_append_left _ List.mem_cons_self)
      obtain ⟨vs, hv⟩ := hf
      have ob : ObjOk X.prog X.w H s.heap dd (.xd fs) := I.hok dd _ hdd
      obtain ⟨mA, hns, _⟩ := ob
      obtain ⟨od, ho, _⟩ := lookIn_ns hns
      have J : PySem.W.InstAt s.heap a oe C (some od) := ⟨ha, hz.1, by unfold PySem.W.notCls; rw [hv] <;> rfl, by rw [hz.2]; exact ho⟩
      exact PySem.W.kia_one (PySem.W.kitx_exc T.cl T.ga T.gg T.sub T.kl T.sp T.tk T.ob) I.kIn J ek (fun z => nomatch z) fun t => ⟨.bl b, H, I.kept (t' := t) fun _ _ z => z, rfl, q⟩
/-- a class of errors over FilmError, whose __init__ stands at fI -/
structure ErrC (K : PySem.W.Frag) (C fI : Addr) : Prop where
  oe : OexC K C
  iC : PySem.W.findIn K (.ref C) "__init__" = some (some (.ref fI))
  tI : PySem.W.typeIn K (.ref fI) = some (.type "function")
  no : PySem.W.findIn K (.ref C) "value" = some none
  xf : XfC K C
  isi : IsiC K C
/-- FilmError.__init__(self, value) -/
def spErrInit (K : PySem.W.Frag) : Sp := fun vs H Q _ => ∃ (a C : Addr) (v : V), vs = [.ref a, v] ∧ H a = some (exo a C none) ∧ OexC K C ∧ PySem.W.findIn K (.ref C) "value" = some none ∧
  ∀ dx, H dx = none → dx ≠ a → Q .non (upd (upd H dx (exd dx [(("value" : Str), v)])) a (exo a C (some dx)))
/-- behind the making of an error: its own dict alone is new -/
theorem made_err {H : Hp} {a d : Addr} {o u : HO} {fs : List (Str × V)} (ha : H a = none) (nd : d ≠ a) : upd (del (upd (upd (upd H a o) d (exd d fs)) a u) a) d (.xd fs) = upd H d (.xd fs) := by
  funext b
  by_cases h1 : b = d
  · subst h1
    rw [upd_same, upd_same]
  · rw [upd_ne h1, upd_ne h1]
    by_cases h2 : b = a
    · subst h2
      rw [del_same, ha]
    · rw [del_ne h2, upd_ne h2, upd_ne h1, upd_ne h2]
/-- an error raised: its own dict alone is new -/
theorem err_made {K : PySem.W.Frag} {C fI : Addr} (T : ErrC K C fI) {v : V} {H : Hp} {Q : XK} (k : ∀ d, H d = none → Q (.ref C) (some d) (upd H d (.xd [(("value" : Str), v)]))) : ∀ a, H a = none →
    spErrInit K [.ref a, v] (upd H a (exo a C none)) (fun u H2 => u = .non ∧ ∃ (d : Addr) (fs : List (Str × V)), H2 a = some (exo a C (some d)) ∧ H2 d = some (exd d fs) ∧ H d = none ∧
      Q (.ref C) (some d) (upd (del H2 a) d (.xd fs))) E0 := by
  intro a ha
  refine ⟨a, C, v, rfl, upd_same, T.oe, T.no, fun dx hdx ne => ⟨rfl, dx, [(("value" : Str), v)], upd_same, ?_, ?_, ?_⟩⟩
  · rw [upd_ne ne, upd_same]
  · rw [upd_ne ne] at hdx
    exact hdx
  · rw [made_err ha ne]
    rw [upd_ne ne] at hdx
    exact k dx hdx
/-- e.value in an except suite -/
def tErrV (K : PySem.W.Frag) (a : Addr) (cls : Value) (d : Option Addr) (te : TE) : TE := fun σ H Q => te σ H fun x H1 => x = .ref a ∧ ∃ (C fI dd : Addr) (v : V), cls = .ref C ∧ d = some dd ∧ ErrC K C fI ∧ H1 dd = some (.xd [(("value" : Str), v)]) ∧ Q v H1
theorem pe_errv {X : Cx} {a : Addr} {oe : Obj} {cls : Value} {d : Option Addr} {pn : List (Addr × Obj)} {e : Expr} {te : TE} {pos : Pos} (hz : Zc cls d oe) (hf : ∃ vs, oe.data = .fields vs) (he : PE (X.suite a ((a, oe) :: pn)) e te)
    (hb : attributeBase e "value" X.env (eval e X.env) = eval e X.env := by rfl) : PE (X.suite a ((a, oe) :: pn)) (.Attribute e "value" pos) (tErrV X.K a cls d te) := by
  constructor
  intro pins s σ H Q I h
  apply attr_of hb
  apply thn (he.run pins s σ H _ I h)
  rintro u s1 ⟨x, H1, I1, rx, ex, C, fI, dd, v, ec, ed, T, hdd, q⟩
  subst ex ec ed
  have eu : u = Value.ref a := rx
  subst eu
  obtain ⟨ha, _⟩ := I1.pin (a, oe) (List.mem_append_left _ List.mem_cons_self)
  obtain ⟨vs, hd⟩ := hf
  have ob : ObjOk X.prog X.w H1 s1.heap dd (.xd [(("value" : Str), v)]) := I1.hok dd _ hdd
  obtain ⟨mA, hns, hr⟩ := ob
  obtain ⟨od, ho, hl⟩ := lookIn_ns hns
  have l : List.lookup ("value" : Str) [(("value" : Str), v)] = some v := by simp [List.lookup]
  obtain ⟨u, hu, ru⟩ := RelO.some_of (v := v) (o := mA "value") (by rw [← l]; exact hr "value")
  have J : PySem.W.InstAt s1.heap a oe C (some od) := ⟨ha, hz.1, by unfold PySem.W.notCls; rw [hd] <;> rfl, by rw [hz.2]; exact ho⟩
  exact HandSPX.exc_get I1.kIn J T.xf.ga T.xf.gg T.xf.exC (PySem.W.findObj_own T.xf.hdC T.no rfl (by rw [hl, hu])) (handed_of ru) ⟨v, H1, I1.tok _, ru, q⟩
structure CalX (P : Program) (w : World) (K : PySem.W.Frag) (mg : Str → Option Value) (base : Heap) (k : Nat) (f : Addr) (fd : FuncData) (ps : List Str) (sp : Sp) : Prop where
  ok : FnOk P w K mg base (L2.CX P w) k f fd ps sp
  binds : Binds K fd ps []
theorem upd_old {H : Hp} {d p : Addr} {o u : HO} (h : H d = some o) (n : H p = none) : upd H p u d = some o := (upd_ne (ne_of_none h n)).trans h
theorem free_old {H : Hp} {d p : Addr} {u : HO} (h : upd H p u d = none) : H d = none ∧ d ≠ p := by
  by_cases z : d = p
  · rw [z, upd_same] at h
    cases h
  · rw [upd_ne z] at h
    exact ⟨h, z⟩
theorem same_new {S H : Hp} {p : Addr} {u : HO} (s : Same S H) (n : H p = none) : Same S (upd H p u) := fun b o h => upd_old (s b o h) n
theorem kit_sub {K : PySem.W.Frag} {t : Value} {D : Addr} {b : Bool} (c : PySem.W.isClsIn K D = true) (ty : PySem.W.typeIn K (.ref D) = some (.type "type")) (s : PySem.W.subIn K t (.ref D) = some b) : PySem.W.kitCls K t (.ref D) = some b := by
  have c' : (PySem.W.clsIn K D).isSome = true := c
  have e : ((PySem.W.clsIn K D).isSome && PySem.W.typeIn K (.ref D) == some (.type "type")) = true := by rw [c', ty]; rfl
  show (if ((PySem.W.clsIn K D).isSome && PySem.W.typeIn K (.ref D) == some (.type "type")) = true then PySem.W.subIn K t (.ref D) else none) = some b
  rw [if_pos e]
  exact s
theorem kit_one {K : PySem.W.Frag} {C D : Addr} {b : Bool} (c : PySem.W.isClsIn K D = true) (ty : PySem.W.typeIn K (.ref D) = some (.type "type")) (s : PySem.W.subIn K (.ref C) (.ref D) = some b) (r : C = D → b = true) : PySem.W.kitOne K (.ref C) (.ref D) = some b := by
  unfold PySem.W.kitOne
  split
  · rename_i z
    rw [r (Value.ref.inj (beq_iff_eq.mp z))]
  · exact kit_sub c ty s
theorem kit_exm {K : PySem.W.Frag} {C D : Addr} {b : Bool} (e : PySem.W.subIn K (.ref D) (.type "BaseException") = some true) (c : PySem.W.isClsIn K D = true) (ty : PySem.W.typeIn K (.ref D) = some (.type "type")) (s : PySem.W.subIn K (.ref C) (.ref D) = some b) :
    PySem.W.exmOne K (.ref C) (.ref D) = some b := by
  unfold PySem.W.exmOne
  rw [e, if_pos (by decide)]
  exact kit_sub c ty s
theorem kit_ve {K : PySem.W.Frag} {C : Addr} (s : PySem.W.subIn K (.ref C) (.type "ValueError") = some true) : PySem.W.kitOne K (.ref C) (.type "ValueError") = some true := by
  have e : PySem.W.kitOne K (.ref C) (.type "ValueError") = PySem.W.subIn K (.ref C) (.type "ValueError") := rfl
  rw [e, s]
end Sf

namespace Sf
open PySem PySem.Spec PyProof.Rows L2
/-! ### data: what stays, sizes of what is shown -/
theorem sameL {K : PySem.W.Frag} {S H : Hp} (s : Same S H) {a : Addr} {xs : List V} (h : SqL K S a xs) : SqL K H a xs := s.seq h
theorem sameT {K : PySem.W.Frag} {S H : Hp} (s : Same S H) {a : Addr} {xs : List V} (h : SqT K S a xs) : SqT K H a xs := by
  rcases h with (h | ⟨o, h⟩) | h
  · exact .inl (.inl (s _ _ h))
  · exact .inl (.inr ⟨o, s _ _ h⟩)
  · exact .inr h
mutual
theorem Dp.mono {K : PySem.W.Frag} {S H : Hp} (s : Same S H) : ∀ (d : PyData) (v : V), Dp K S v d → Dp K H v d
  | .none, _, h => by cases h; exact .non
  | .bool _, _, h => by cases h; exact .bl _
  | .int _, _, h => by cases h; exact .int _
  | .str _, _, h => by cases h; exact .str _
  | .list ds, _, h => by cases h with | lst e a => exact .lst (sameL s e) (DpAll.mono s ds _ a)
  | .tuple ds, _, h => by cases h with | tup e a => exact .tup (sameT s e) (DpAll.mono s ds _ a)
  | .dict _, _, h => by cases h
theorem DpAll.mono {K : PySem.W.Frag} {S H : Hp} (s : Same S H) : ∀ (ds : List PyData) (vs : List V), DpAll K S vs ds → DpAll K H vs ds
  | [], _, h => by cases h; exact .nil
  | d :: ds, _, h => by cases h with | cons a b => exact .cons (Dp.mono s d _ a) (DpAll.mono s ds _ b)
end
theorem DpAll.append {K : PySem.W.Frag} {H : Hp} : ∀ {vs ws : List V} {ds es : List PyData}, DpAll K H vs ds → DpAll K H ws es → DpAll K H (vs ++ ws) (ds ++ es)
  | _, _, _, _, .nil, h => h
  | _, _, _, _, .cons a b, h => .cons a (DpAll.append b h)
theorem DpAll.len {K : PySem.W.Frag} {H : Hp} : ∀ {vs : List V} {ds : List PyData}, DpAll K H vs ds → vs.length = ds.length
  | _, _, .nil => rfl
  | _, _, .cons _ b => by rw [List.length_cons, List.length_cons, DpAll.len b]
theorem DpAll.bools {K : PySem.W.Frag} {H : Hp} : ∀ (bs : List Bool), DpAll K H (bs.map V.bl) (bs.map PyData.bool)
  | [] => .nil
  | b :: bs => .cons (.bl b) (DpAll.bools bs)
theorem DpAll.ints {K : PySem.W.Frag} {H : Hp} : ∀ (bs : List Int), DpAll K H (bs.map V.int) (bs.map PyData.int)
  | [] => .nil
  | b :: bs => .cons (.int b) (DpAll.ints bs)
theorem DpAll.strs {K : PySem.W.Frag} {H : Hp} : ∀ (bs : List Str), DpAll K H (bs.map V.str) (bs.map PyData.str)
  | [] => .nil
  | b :: bs => .cons (.str b) (DpAll.strs bs)

theorem listText_le : ∀ ts : List Str, (listText ts).length ≤ piled ts + 2
  | [] => by rw [listText_nil]; exact (by decide)
  | t :: r => by
    have h := textFrom_length_pos r 1 (("[" : Str) ++ (if (0 : Nat) > 0 then ", " else "" : String) ++ t) (Nat.succ_pos 0)
    have e1 : (listText (t :: r)).length = (textFrom 1 (("[" : Str) ++ (if (0 : Nat) > 0 then ", " else "" : String) ++ t) r).length + 1 := by
      show (textFrom 0 "[" (t :: r) ++ "]" : Str).length = _
      rw [Str.length_append]
      rfl
    have e2 : (("[" : Str) ++ (if (0 : Nat) > 0 then ", " else "" : String) ++ t : Str).length = 1 + t.length := by
      rw [Str.length_append, Str.length_append]
      rfl
    rw [e1, h, e2, piled_cons]
    omega
theorem tupleText_le (ts : List Str) : (tupleText ts).length ≤ piled ts + 4 := by
  unfold tupleText
  rw [Str.length_append, Str.length_append]
  have e1 : (("(" : String) : Str).length = 1 := rfl
  have e2 : ((if ts.length == 1 then ",)" else ")" : String) : Str).length ≤ 2 := by split <;> decide
  have e3 : (Str.join ", " ts).length ≤ piled ts := by
    cases ts with
    | nil => exact Nat.zero_le _
    | cons t r => have := join_length_add (t :: r) (by simp); omega
  omega
/-- may be shown: nested at most k deep, at most n signs -/
structure Sz (k n : Nat) (d : PyData) : Prop where
  sh : d.showable = true
  dp : d.depth ≤ k
  ln : d.shown.length ≤ n
structure SzAll (k n : Nat) (ds : List PyData) : Prop where
  sh : PyData.showableAll ds = true
  dp : PyData.depthAll ds ≤ k
  ln : piled (PyData.shownAll ds) ≤ n
theorem SzAll.nil {k : Nat} : SzAll k 0 [] := ⟨rfl, Nat.zero_le _, Nat.le_refl _⟩
theorem SzAll.cons {k n m : Nat} {d : PyData} {ds : List PyData} (a : Sz k n d) (b : SzAll k m ds) : SzAll k (n + 2 + m) (d :: ds) := by
  refine ⟨?_, ?_, ?_⟩
  · show (PyData.showable d && PyData.showableAll ds) = true
    rw [a.sh, b.sh]; rfl
  · show max (PyData.depth d) (PyData.depthAll ds) ≤ k
    have := a.dp; have := b.dp; omega
  · show piled (PyData.shown d :: PyData.shownAll ds) ≤ _
    rw [piled_cons]
    have := a.ln; have := b.ln; omega
theorem SzAll.of {k n : Nat} : ∀ {ds : List PyData}, (∀ d ∈ ds, Sz k n d) → SzAll k (ds.length * (n + 2)) ds
  | [], _ => by rw [List.length_nil, Nat.zero_mul]; exact SzAll.nil
  | d :: ds, h => by
    have a := SzAll.cons (h d List.mem_cons_self) (SzAll.of fun x hx => h x (List.mem_cons_of_mem _ hx))
    rw [List.length_cons, Nat.succ_mul, Nat.add_comm]
    exact a
theorem SzAll.append {k n m : Nat} : ∀ {ds es : List PyData}, SzAll k n ds → SzAll k m es → SzAll k (n + m) (ds ++ es)
  | [], es, a, b => ⟨b.sh, b.dp, Nat.le_trans b.ln (Nat.le_add_left _ _)⟩
  | d :: ds, es, a, b => by
    have a1 : PyData.showable d = true ∧ PyData.showableAll ds = true := by
      have := a.sh
      simp only [PyData.showableAll, Bool.and_eq_true] at this
      exact this
    have a2 : max (PyData.depth d) (PyData.depthAll ds) ≤ k := a.dp
    have a3 : piled (PyData.shown d :: PyData.shownAll ds) ≤ n := a.ln
    rw [piled_cons] at a3
    have r := SzAll.append (n := n - ((PyData.shown d).length + 2)) (ds := ds) ⟨a1.2, by omega, by omega⟩ b
    have c := SzAll.cons (d := d) (n := (PyData.shown d).length) ⟨a1.1, by omega, Nat.le_refl _⟩ r
    exact ⟨c.sh, c.dp, by have := c.ln; show piled (PyData.shownAll (d :: (ds ++ es))) ≤ _; omega⟩
theorem SzAll.mono {k k' n n' : Nat} {ds : List PyData} (a : SzAll k n ds) (h : k ≤ k') (h2 : n ≤ n') : SzAll k' n' ds := ⟨a.sh, Nat.le_trans a.dp h, Nat.le_trans a.ln h2⟩
theorem Sz.mono {k k' n n' : Nat} {d : PyData} (a : Sz k n d) (h : k ≤ k') (h2 : n ≤ n') : Sz k' n' d := ⟨a.sh, Nat.le_trans a.dp h, Nat.le_trans a.ln h2⟩
theorem Sz.list {k n : Nat} {ds : List PyData} (a : SzAll k n ds) : Sz (k + 1) (n + 2) (.list ds) := by
  refine ⟨?_, ?_, ?_⟩
  · simp only [PyData.showable]; exact a.sh
  · simp only [PyData.depth]; have := a.dp; omega
  · simp only [PyData.shown]; exact Nat.le_trans (listText_le _) (by have := a.ln; omega)
theorem Sz.tuple {k n : Nat} {ds : List PyData} (a : SzAll k n ds) : Sz (k + 1) (n + 4) (.tuple ds) := by
  refine ⟨?_, ?_, ?_⟩
  · simp only [PyData.showable]; exact a.sh
  · simp only [PyData.depth]; have := a.dp; omega
  · simp only [PyData.shown]; exact Nat.le_trans (tupleText_le _) (by have := a.ln; omega)
theorem Sz.non {k : Nat} : Sz k 4 .none := ⟨rfl, by simp only [PyData.depth]; omega, by simp only [PyData.shown]; decide⟩
theorem Sz.bool {k : Nat} (b : Bool) : Sz k 5 (.bool b) := ⟨rfl, by simp only [PyData.depth]; omega, by simp only [PyData.shown]; cases b <;> decide⟩
theorem Sz.int {k n : Nat} {i : Int} (h : i.natAbs < 2 ^ n) (hn : 0 < n) (h2 : n ≤ 1900) : Sz k (n + 2) (.int i) := by
  have lg := PySem.Flt.log2_lt_of hn h
  refine ⟨?_, by simp only [PyData.depth]; omega, ?_⟩
  · simp only [PyData.showable]; exact decide_eq_true (by omega)
  · simp only [PyData.shown]
    rw [PySem.ofString_length]
    exact Nat.le_succ_of_le (int_text_length_le hn lg)
theorem Sz.str {k n : Nat} {x : Str} (hx : ∀ c ∈ x.cps.toList, c < 16 ^ 8) (h : x.length ≤ n) : Sz k (10 * n + 2) (.str x) := by
  refine ⟨rfl, by simp only [PyData.depth]; omega, ?_⟩
  simp only [PyData.shown]
  exact Nat.le_trans (PySem.StrLaws.reprText_len x hx) (by omega)
theorem Sk.at {n : Nat} {H : Hp} {a : Addr} (h : Sk n H a) : ∃ o, H a = some o := let ⟨_, _, _, e, _⟩ := h; ⟨_, e⟩
theorem Sk.new {n : Nat} {H : Hp} {a p : Addr} {o : HO} (h : Sk n H a) (f : H p = none) : Sk n (upd H p o) a := let ⟨x, y, z, e, r⟩ := h; ⟨x, y, z, upd_old e f, r⟩
theorem Sk.ne {n : Nat} {H : Hp} {a p : Addr} (h : Sk n H a) (f : H p = none) : p ≠ a := let ⟨_, _, _, e, _⟩ := h; (ne_of_none e f).symm
theorem Kp.new {H H1 : Hp} {a p : Addr} {o : HO} (h : Kp a H H1) (f : H1 p = none) : Kp a H (upd H1 p o) := fun b u n e => upd_old (h b u n e) f
theorem Kp.free {H H1 : Hp} {a p : Addr} (h : Kp a H H1) (n : p ≠ a) (f : H1 p = none) : H p = none := by
  cases q : H p with
  | none => rfl
  | some o => rw [h p o n q] at f; cases f
/-! ### a heap of one object -/
def one (p : Addr) (o : HO) : Hp := fun b => if b = p then some o else none
theorem one_same {p : Addr} {o : HO} {H : Hp} (h : H p = some o) : Same (one p o) H := fun b u e => by
  unfold one at e
  by_cases z : b = p
  · rw [if_pos z] at e
    cases e
    rw [z]
    exact h
  · rw [if_neg z] at e
    cases e
theorem one_at {p : Addr} {o : HO} : one p o p = some o := if_pos rfl
theorem one_no {p q : Addr} {o : HO} (h : q ≠ p) : one p o q = none := if_neg h
def nil : Hp := fun _ => none
theorem nil_same {H : Hp} : Same nil H := fun _ _ e => by cases e
theorem lt16 {x : Str} (h : x.cps.toList.all (fun c => decide (c < 1000)) = true) : ∀ c ∈ x.cps.toList, c < 16 ^ 8 := fun c hc => Nat.lt_trans (of_decide_eq_true (List.all_eq_true.mp h c hc)) (by decide)
theorem same_kp {S H H' : Hp} {a : Addr} (s : Same S H) (k : Kp a H H') (n : S a = none) : Same S H' := fun b o h => k b o (ne_of_none h n) (s b o h)
theorem same_mut {S H : Hp} {p : Addr} {u : HO} (s : Same S H) (n : S p = none) : Same S (upd H p u) := fun b o h => by rw [upd_ne (ne_of_none h n)]; exact s b o h
theorem kp_same {a : Addr} {H H1 H2 : Hp} (k : Kp a H H1) (s : Same H1 H2) : Kp a H H2 := fun b o n h => s b o (k b o n h)
theorem kp_mut {a p : Addr} {H H1 : Hp} {u : HO} (k : Kp a H H1) (n : H p = none) : Kp a H (upd H1 p u) := fun b o m h => by rw [upd_ne (ne_of_none h n)]; exact k b o m h
theorem sk_same {n : Nat} {a : Addr} {H H1 : Hp} (k : Sk n H a) (s : Same H H1) : Sk n H1 a := let ⟨x, y, z, e, r⟩ := k; ⟨x, y, z, s _ _ e, r⟩
theorem sk_mut {n : Nat} {a p : Addr} {H : Hp} {u : HO} (k : Sk n H a) (ne : p ≠ a) : Sk n (upd H p u) a := let ⟨x, y, z, e, r⟩ := k; ⟨x, y, z, by rw [upd_ne ne.symm]; exact e, r⟩
theorem seq_kp {K : PySem.W.Frag} {H H' : Hp} {a p : Addr} {xs : List V} (h : SqL K H a xs) (n : H p = none) (k : Kp p H H') : SqL K H' a xs := by
  rcases h with (h | ⟨o, h⟩) | h
  · exact .inl (.inl (k _ _ (ne_of_none h n) h))
  · exact .inl (.inr ⟨o, k _ _ (ne_of_none h n) h⟩)
  · exact .inr h
theorem kw1 {K : PySem.W.Frag} {x qual : Str} {st : Stmt} {f : Addr} {fd : FuncData} {ps ks : List Str} {n : Nat} (F : Fun K x qual st f fd)
    (h : ∀ (kV doc pm : Value) (an : Option Addr) (cdv ct : Value) (us ws : List Value), us.length = n → ws.length = ks.length → bindArgs (PySem.W.fnOf x qual (defArgs st) (defBody st) (defScope st) .none kV doc pm an cdv ct) ⟨us, ks.zip ws⟩ = pure (ps.zip (us ++ ws))) :
    KBn K fd ps n ks (fun us ws => us ++ ws) (fun vs zs => vs ++ zs) := by
  obtain ⟨oc, od, kV, doc, pm, an, cdv, ct, osl, e, lk, hcd⟩ := F.ex
  subst e
  exact ⟨fun s us ws _ l1 l2 => .of_eq (h kV doc pm an cdv ct us ws l1 l2), fun a b => a.append b⟩
end Sf

namespace Sf
open PySem PySem.Spec PyProof.Rows L2
/-! ### texts as lists of signs -/
def tx (l : List Nat) : Str := ⟨l.toArray⟩
theorem ls_tx (l : List Nat) : (tx l).cps.toList = l := rfl
theorem len_ls (x : Str) : x.length = x.cps.toList.length := by show x.cps.size = _; simp
theorem ext_ls {a b : Str} (h : a.cps.toList = b.cps.toList) : a = b := PySem.Str.ext' (by
  have := congrArg List.toArray h
  simpa using this)
theorem ls_append (a b : Str) : (a ++ b).cps.toList = a.cps.toList ++ b.cps.toList := by rw [Str.cps_append]; simp
def abcS : Str := "abcdefghijklmnopqrstuvwxyz"
/-- letters alone -/
def plain (x : Str) : Bool := x.cps.toList.all fun c => decide (c ∈ abcS.cps.toList)
theorem plain_iff {x : Str} : plain x = true ↔ ∀ c ∈ x.cps.toList, c ∈ abcS.cps.toList := by
  unfold plain
  rw [List.all_eq_true]
  exact ⟨fun h c hc => of_decide_eq_true (h c hc), fun h c hc => decide_eq_true (h c hc)⟩
theorem abc_lt : ∀ c ∈ abcS.cps.toList, c < 1000 := by decide
/-- at most n signs, all of them small -/
structure Tx (n : Nat) (x : Str) : Prop where
  len : x.length ≤ n
  ch : ∀ c ∈ x.cps.toList, c < 1000
/-- letters, at most n -/
structure Wd (n : Nat) (x : Str) : Prop where
  len : x.length ≤ n
  pl : plain x = true
theorem Wd.tx {n : Nat} {x : Str} (h : Wd n x) : Tx n x := ⟨h.len, fun c hc => abc_lt c (plain_iff.mp h.pl c hc)⟩
theorem Tx.mono {n m : Nat} {x : Str} (h : Tx n x) (l : n ≤ m) : Tx m x := ⟨Nat.le_trans h.len l, h.ch⟩
theorem Wd.mono {n m : Nat} {x : Str} (h : Wd n x) (l : n ≤ m) : Wd m x := ⟨Nat.le_trans h.len l, h.pl⟩
theorem Tx.append {n m : Nat} {x y : Str} (h : Tx n x) (k : Tx m y) : Tx (n + m) (x ++ y) := by
  refine ⟨by rw [Str.length_append]; have := h.len; have := k.len; omega, fun c hc => ?_⟩
  rw [ls_append] at hc
  rcases List.mem_append.mp hc with z | z
  · exact h.ch c z
  · exact k.ch c z
theorem plain_append {x y : Str} : plain (x ++ y) = (plain x && plain y) := by
  unfold plain
  rw [ls_append, List.all_append]
theorem Wd.append {n m : Nat} {x y : Str} (h : Wd n x) (k : Wd m y) : Wd (n + m) (x ++ y) := by
  refine ⟨by rw [Str.length_append]; have := h.len; have := k.len; omega, ?_⟩
  rw [plain_append, h.pl, k.pl]
  rfl
theorem Tx.cut {n : Nat} {x : Str} (h : Tx n x) (lo hi : Option Int) : Tx n (cutS x lo hi) :=
  ⟨Nat.le_trans (cutS_length x lo hi) h.len, fun c hc => h.ch c (List.mem_of_mem_drop (List.mem_of_mem_take hc))⟩
theorem plain_sub {x y : Str} (h : plain x = true) (s : ∀ c ∈ y.cps.toList, c ∈ x.cps.toList) : plain y = true := plain_iff.mpr fun c hc => plain_iff.mp h c (s c hc)
theorem mem_cut {x : Str} {lo hi : Option Int} : ∀ c ∈ (cutS x lo hi).cps.toList, c ∈ x.cps.toList := fun c hc => List.mem_of_mem_drop (List.mem_of_mem_take hc)
theorem Wd.cut {n : Nat} {x : Str} (h : Wd n x) (lo hi : Option Int) : Wd n (cutS x lo hi) :=
  ⟨Nat.le_trans (cutS_length x lo hi) h.len, plain_sub h.pl mem_cut⟩
theorem Tx.one {c : Nat} (h : c < 1000) : Tx 1 ⟨#[c]⟩ := ⟨Nat.le_refl _, fun d hd => by
  have : d = c := by simpa using hd
  rw [this]; exact h⟩
theorem Wd.one {x : Str} {i c : Nat} (h : plain x = true) (e : x.cps.toList[i]? = some c) : Wd 1 ⟨#[c]⟩ := ⟨Nat.le_refl _, plain_sub h fun d hd => by
  have : d = c := by simpa using hd
  rw [this]
  exact List.mem_of_getElem? e⟩
theorem Tx.lit {n : Nat} {x : Str} (h : x.cps.toList.all (fun c => decide (c < 1000)) = true) (l : x.length ≤ n) : Tx n x := ⟨l, fun c hc => of_decide_eq_true (List.all_eq_true.mp h c hc)⟩
theorem Tx.sz {n k : Nat} {x : Str} (h : Tx n x) : Sz k (10 * n + 2) (.str x) := Sz.str (fun c hc => Nat.lt_trans (h.ch c hc) (by decide)) h.len
theorem small_line {n : Nat} (h : n ≤ 100000) : n ≤ sizeLine := by rw [sizeLine_eq]; omega
theorem Tx.line {n : Nat} {x : Str} (h : Tx n x) (l : n ≤ 100000) : x.length ≤ sizeLine := Nat.le_trans h.len (small_line l)
/-! ### cuts at a place -/
theorem cut_to {x : Str} {j : Nat} (h : j ≤ x.length) : (cutS x none (some (j : Int))).cps.toList = x.cps.toList.take j := by
  show ((x.cps.toList.drop 0).take (HT.sIx x.length x.length (some (j : Int)) - 0)) = _
  rw [HT.sIx_nat, Nat.min_eq_left h, List.drop_zero, Nat.sub_zero]
theorem cut_from {x : Str} {j : Nat} (h : j ≤ x.length) : (cutS x (some (j : Int)) none).cps.toList = x.cps.toList.drop j := by
  show ((x.cps.toList.drop (HT.sIx x.length 0 (some (j : Int)))).take (x.length - HT.sIx x.length 0 (some (j : Int)))) = _
  rw [HT.sIx_nat, Nat.min_eq_left h]
  apply List.take_of_length_le
  rw [List.length_drop, len_ls]
  omega
theorem cut_in {x : Str} {i j : Nat} (h : i ≤ x.length) : (cutS x (some (i : Int)) (some (j : Int))).cps.toList = (x.cps.toList.drop i).take (min j x.length - i) := by
  show ((x.cps.toList.drop (HT.sIx x.length 0 (some (i : Int)))).take (HT.sIx x.length x.length (some (j : Int)) - HT.sIx x.length 0 (some (i : Int)))) = _
  rw [HT.sIx_nat, HT.sIx_nat, Nat.min_eq_left h]
theorem len_cut_in {x : Str} {i j : Nat} (h : i ≤ x.length) : (cutS x (some (i : Int)) (some (j : Int))).length = min j x.length - i := by
  rw [len_ls, cut_in h, List.length_take, List.length_drop, ← len_ls]
  omega
theorem len_cut_to {x : Str} {j : Nat} (h : j ≤ x.length) : (cutS x none (some (j : Int))).length = j := by
  rw [len_ls, cut_to h, List.length_take, ← len_ls]
  omega
theorem len_cut_from {x : Str} {j : Nat} (h : j ≤ x.length) : (cutS x (some (j : Int)) none).length = x.length - j := by
  rw [len_ls, cut_from h, List.length_drop, ← len_ls]
/-! ### strip: letters alone are stripped to nothing -/
theorem strip_plain (x : Str) : decide (V.str (Txt.stripChars x abcS) = V.str "") = plain x := by
  have e : (V.str (Txt.stripChars x abcS) = V.str "") ↔ Txt.stripChars x abcS = ("" : Str) := ⟨fun h => V.str.inj h, fun h => by rw [h]⟩
  have key : Txt.stripChars x abcS = ("" : Str) ↔ plain x = true := by
    unfold Txt.stripChars
    rw [stripBy_eq]
    have lo := lo_facts abcS.cps.contains x
    have hi := hi_facts abcS.cps.contains x (stripLo abcS.cps.contains true x) lo.1
    have ct : ∀ c, abcS.cps.contains c = true ↔ c ∈ abcS.cps.toList := fun c => by
      rw [Array.contains_iff_mem]
      simp
    constructor
    · intro h
      have h2 : ((x.cps.toList.drop (stripLo abcS.cps.contains true x)).take (stripHi abcS.cps.contains true x (stripLo abcS.cps.contains true x) - stripLo abcS.cps.contains true x)) = [] := by
        rw [← StrLaws.strSub_toList, h]
        rfl
      have h3 := congrArg List.length h2
      rw [List.length_take, List.length_drop, ← len_ls, List.length_nil] at h3
      have le : stripLo abcS.cps.contains true x = stripHi abcS.cps.contains true x (stripLo abcS.cps.contains true x) := by
        have := hi.1
        have := hi.2.1
        omega
      refine plain_iff.mpr fun c hc => ?_
      obtain ⟨k, hk, ek⟩ := List.getElem_of_mem hc
      have kl : k < x.length := by rw [len_ls]; exact hk
      have gk : x.cps.getD k 0 = c := PySem.StrLaws.getD_of_getElem? (by rw [List.getElem?_eq_getElem hk, ek])
      rw [← ct, ← gk]
      by_cases z : k < stripLo abcS.cps.contains true x
      · exact lo.2.1 k z
      · exact hi.2.2.1 k (by omega) kl
    · intro h
      have all : stripLo abcS.cps.contains true x = x.length := by
        rcases lo.2.2 with z | z
        · exact z
        · by_cases l : stripLo abcS.cps.contains true x = x.length
          · exact l
          · exfalso
            have kl : stripLo abcS.cps.contains true x < x.length := by have := lo.1; omega
            have hk : stripLo abcS.cps.contains true x < x.cps.toList.length := by rw [← len_ls]; exact kl
            have gk : x.cps.getD (stripLo abcS.cps.contains true x) 0 = x.cps.toList[stripLo abcS.cps.contains true x] := PySem.StrLaws.getD_of_getElem? (List.getElem?_eq_getElem hk)
            have m := plain_iff.mp h _ (List.getElem_mem hk)
            rw [← ct, ← gk, z] at m
            cases m
      apply ext_ls
      rw [StrLaws.strSub_toList, all]
      have : x.cps.toList.drop x.length = [] := List.drop_of_length_le (by rw [len_ls]; exact Nat.le_refl _)
      rw [this, List.take_nil]
      rfl
  by_cases z : plain x = true
  · rw [z, decide_eq_true (e.mpr (key.mpr z))]
  · have z' : plain x = false := by simpa using z
    rw [z', decide_eq_false fun h => z (key.mp (e.mp h))]
/-! ### where a text stands in another one -/
def atB (x y : Str) (i : Nat) : Bool := decide (i + y.length ≤ x.length) && Builtin.Str.subAt x y i
def occs (x y : Str) : List Nat := (List.range (x.length + 1)).filter (atB x y)
theorem at_iff {x y : Str} {i : Nat} : atB x y i = true ↔ StrLaws.At x y x.length i := by
  unfold atB StrLaws.At
  rw [Bool.and_eq_true, decide_eq_true_eq]
theorem occs_mem {x y : Str} {i : Nat} : i ∈ occs x y ↔ StrLaws.At x y x.length i := by
  unfold occs
  rw [List.mem_filter, List.mem_range, at_iff]
  exact ⟨fun h => h.2, fun h => ⟨by have := h.1; omega, h⟩⟩
theorem occs_lt (x y : Str) : (occs x y).Pairwise (· < ·) := List.Pairwise.filter _ List.pairwise_lt_range
theorem occs_len {x y : Str} (h : 0 < y.length) : (occs x y).length ≤ x.length := by
  have e : occs x y = (List.range x.length).filter (atB x y) := by
    unfold occs
    rw [List.range_succ, List.filter_append]
    have : atB x y x.length = false := by
      unfold atB
      rw [decide_eq_false (by omega)]
      rfl
    simp [this]
  rw [e]
  exact Nat.le_trans (List.length_filter_le _ _) (by rw [List.length_range]; exact Nat.le_refl _)
/-- the i-th place, -1 if there is none -/
def nxt (x y : Str) (i : Nat) : Int := match (occs x y)[i]? with | some v => (v : Int) | none => -1
theorem first_of {x y : Str} {lo m : Nat} (hm : ∀ j v, (occs x y)[j]? = some v → (lo ≤ v ↔ m ≤ j)) :
    (match Builtin.Str.occurrences x y lo x.length 1 with | i :: _ => (i : Int) | [] => -1) = nxt x y m := by
  unfold nxt
  rcases StrLaws.occ_head_from x y lo 1 (Nat.le_refl _) with ⟨e, no⟩ | ⟨i, r, e, li, ai, no⟩
  · rw [e]
    have : (occs x y)[m]? = none := by
      cases q : (occs x y)[m]? with
      | none => rfl
      | some v =>
        exfalso
        exact no v ((hm m v q).mpr (Nat.le_refl _)) (occs_mem.mp (List.mem_of_getElem? q))
    rw [this]
  · rw [e]
    obtain ⟨j, hj, ej⟩ := List.getElem_of_mem (occs_mem.mpr ai)
    have mj : m ≤ j := (hm j i (by rw [List.getElem?_eq_getElem hj, ej])).mp li
    have : j = m := by
      rcases Nat.lt_or_ge m j with z | z
      · exfalso
        have hm2 : m < (occs x y).length := by omega
        have q := List.pairwise_iff_getElem.mp (occs_lt x y) m j hm2 hj z
        rw [ej] at q
        exact no _ ((hm m _ (List.getElem?_eq_getElem hm2)).mpr (Nat.le_refl _)) q (occs_mem.mp (List.getElem_mem hm2))
      · omega
    subst this
    rw [List.getElem?_eq_getElem hj, ej]
theorem find_nxt (x y : Str) : Txt.find x y = nxt x y 0 := first_of (lo := 0) (m := 0) fun j v _ => ⟨fun _ => Nat.zero_le _, fun _ => Nat.zero_le _⟩
theorem find3_nxt {x y : Str} {i v : Nat} (h : (occs x y)[i]? = some v) : Txt.find3 x y ((v : Int) + 1) = nxt x y (i + 1) := by
  unfold Txt.find3
  have at' := occs_mem.mp (List.mem_of_getElem? h)
  by_cases z : v + 1 ≤ x.length
  · have e : PySem.fromIndex x.length ((v : Int) + 1) = v + 1 := by
      unfold PySem.fromIndex
      omega
    rw [e]
    refine first_of fun j w hw => ?_
    obtain ⟨hi, ei⟩ := List.getElem?_eq_some_iff.mp h
    obtain ⟨hj, ej⟩ := List.getElem?_eq_some_iff.mp hw
    rcases Nat.lt_trichotomy i j with q | q | q
    · have := List.pairwise_iff_getElem.mp (occs_lt x y) i j hi hj q
      rw [ei, ej] at this
      exact ⟨fun _ => q, fun _ => this⟩
    · subst q
      rw [ei] at ej
      subst ej
      exact ⟨fun k => by omega, fun k => by omega⟩
    · have := List.pairwise_iff_getElem.mp (occs_lt x y) j i hj hi q
      rw [ei, ej] at this
      exact ⟨fun k => by omega, fun k => by omega⟩
  · have e : PySem.fromIndex x.length ((v : Int) + 1) = v + 1 := by
      have := at'.1
      unfold PySem.fromIndex
      omega
    rw [e]
    refine first_of fun j w hw => ?_
    have wl := (occs_mem.mp (List.mem_of_getElem? hw)).1
    obtain ⟨hi, ei⟩ := List.getElem?_eq_some_iff.mp h
    obtain ⟨hj, ej⟩ := List.getElem?_eq_some_iff.mp hw
    rcases Nat.lt_trichotomy i j with q | q | q
    · have := List.pairwise_iff_getElem.mp (occs_lt x y) i j hi hj q
      rw [ei, ej] at this
      exact ⟨fun _ => q, fun _ => this⟩
    · subst q
      rw [ei] at ej
      subst ej
      exact ⟨fun k => by omega, fun k => by omega⟩
    · have := List.pairwise_iff_getElem.mp (occs_lt x y) j i hj hi q
      rw [ei, ej] at this
      exact ⟨fun k => by omega, fun k => by omega⟩
/-! ### a cut between two pieces -/
def stB (l r x : Str) (c : Nat) : Bool := Txt.endswith (cutS x none (some (c : Int))) l && Txt.startswith (cutS x (some (c : Int)) none) r
theorem stB_eq {l r x : Str} {c : Nat} (h : c ≤ x.length) : stB l r x c = (decide (l.length ≤ c) && atB x (l ++ r) (c - l.length)) := by
  unfold stB Txt.endswith Txt.startswith atB
  rw [StrLaws.subAt_eq, StrLaws.subAt_eq, StrLaws.subAt_eq, cut_to h, cut_from h, len_cut_to h, len_cut_from h, Str.length_append, ls_append, Nat.zero_add, Nat.zero_add, List.drop_zero]
  by_cases z : l.length ≤ c
  · rw [decide_eq_true z, Bool.true_and, Bool.true_and]
    have e1 : ((x.cps.toList.take c).drop (c - l.length)).take l.length = (x.cps.toList.drop (c - l.length)).take l.length := by
      rw [List.drop_take, List.take_take]
      congr 1
      omega
    have e2 : (x.cps.toList.drop (c - l.length)).take (l.length + r.length) = (x.cps.toList.drop (c - l.length)).take l.length ++ (x.cps.toList.drop c).take r.length := by
      rw [List.take_add, List.drop_drop]
      congr 3
      omega
    rw [e1, e2]
    have ll := len_ls l
    have lr := len_ls r
    have lx := len_ls x
    by_cases q : c - l.length + (l.length + r.length) ≤ x.length
    · have q2 : r.length ≤ x.length - c := by omega
      rw [decide_eq_true q, decide_eq_true q2, Bool.true_and, Bool.true_and]
      have h1 : ((x.cps.toList.drop (c - l.length)).take l.length).length = l.cps.toList.length := by rw [List.length_take, List.length_drop]; omega
      rw [Bool.eq_iff_iff, Bool.and_eq_true, beq_iff_eq, beq_iff_eq, beq_iff_eq]
      constructor
      · rintro ⟨a, b⟩
        rw [a, b]
      · intro a
        exact List.append_inj a h1
    · have q2 : ¬ r.length ≤ x.length - c := by omega
      rw [decide_eq_false q, decide_eq_false q2]
      simp
  · rw [decide_eq_false z]
    rfl
theorem filter_shift (p q : Nat → Bool) (n k : Nat) (h : ∀ c, c ≤ n → p c = (decide (k ≤ c) && q (c - k))) (hq : ∀ i, q i = true → i + k ≤ n) :
    (List.range (n + 1)).filter p = ((List.range (n + 1)).filter q).map (· + k) := by
  by_cases z : k ≤ n + 1
  · obtain ⟨m, e⟩ : ∃ m, n + 1 = k + m := ⟨n + 1 - k, by omega⟩
    have e2 : n + 1 = m + k := by omega
    have l1 : (List.range (n + 1)).filter p = ((List.range m).filter q).map (· + k) := by
      rw [e, List.range_add, List.filter_append]
      have a1 : (List.range k).filter p = [] := List.filter_eq_nil_iff.mpr fun c hc => by
        have := List.mem_range.mp hc
        rw [h c (by omega), decide_eq_false (by omega)]
        simp
      rw [a1, List.nil_append, List.filter_map]
      have a2 : (List.range m).filter (p ∘ fun x => k + x) = (List.range m).filter q := List.filter_congr fun c hc => by
        have := List.mem_range.mp hc
        show p (k + c) = q c
        rw [h (k + c) (by omega), decide_eq_true (by omega), Bool.true_and]
        congr 1
        omega
      rw [a2]
      apply List.map_congr_left
      intro c _
      omega
    have l2 : (List.range (n + 1)).filter q = (List.range m).filter q := by
      rw [e2, List.range_add, List.filter_append]
      have a1 : ((List.range k).map fun x => m + x).filter q = [] := List.filter_eq_nil_iff.mpr fun c hc => by
        obtain ⟨j, _, rfl⟩ := List.mem_map.mp hc
        intro z
        have := hq _ z
        omega
      rw [a1, List.append_nil]
    rw [l1, l2]
  · have a1 : (List.range (n + 1)).filter p = [] := List.filter_eq_nil_iff.mpr fun c hc => by
      have := List.mem_range.mp hc
      rw [h c (by omega), decide_eq_false (by omega)]
      simp
    have a2 : (List.range (n + 1)).filter q = [] := List.filter_eq_nil_iff.mpr fun c hc y => by
      have := hq _ y
      omega
    rw [a1, a2]
    rfl
def seats (l r x : Str) : List Nat := (List.range (x.length + 1)).filter (stB l r x)
theorem seats_eq (l r x : Str) : seats l r x = (occs x (l ++ r)).map (· + l.length) := by
  unfold seats occs
  refine filter_shift _ _ x.length l.length (fun c hc => stB_eq hc) fun i hi => ?_
  have := (at_iff.mp hi).1
  rw [Str.length_append] at this
  omega
/-! ### text * number -/
def rRepS : R2 := fun x y H Q => ∃ (z : Str) (n : Nat), x = .str z ∧ y = .int n ∧ z.length * n ≤ 100000 ∧ n ≤ 100000 ∧ Q (.str (Txt.mul z n)) H
theorem mul_ok {z : Str} {n : Nat} (h : z.length * n ≤ 100000) (hn : n ≤ 100000) : MulOk z (n : Int) := by
  refine ⟨?_, fun h1 _ => ?_, fun _ _ => ?_⟩
  · rw [decide_eq_false (by omega), decide_eq_false (by omega)]
    rfl
  · have n1 : 1 ≤ n := by omega
    have zl : z.length ≤ 100000 := Nat.le_trans (Nat.le_mul_of_pos_right _ n1) h
    have b : (100000 : Int) ≤ (2 ^ 63 - 1) / (n : Int) := by
      rw [Int.le_ediv_iff_mul_le (by omega)]
      omega
    omega
  · show decide _ = false
    rw [Int.toNat_natCast]
    exact decide_eq_false (by have e := sizeLine_eq; omega)
theorem op_repS {X : Cx} : OpR X (binaryOp .Mult) rRepS := by
  intro pins s σ H x y v u Q I rx ry h
  obtain ⟨z, n, rfl, rfl, hz, hn, q⟩ := h
  obtain ⟨t, rfl⟩ := rx
  obtain ⟨t', rfl⟩ := ry
  exact PySem.SB.mul (mul_ok hz hn) fun t' k => ⟨.str _, H, I.tok _, ⟨_, rfl⟩, q⟩
theorem foldl_reps (c : Array Nat) : ∀ (n : Nat) (a : Array Nat), ((List.replicate n c).foldl (· ++ ·) a).toList = a.toList ++ (List.replicate n c.toList).flatten
  | 0, a => by simp
  | n + 1, a => by
    rw [List.replicate_succ, List.foldl_cons, foldl_reps c n, List.replicate_succ, List.flatten_cons, Array.toList_append, List.append_assoc]
theorem ls_mul (z : Str) (n : Nat) : (Txt.mul z (n : Int)).cps.toList = (List.replicate n z.cps.toList).flatten := by
  unfold Txt.mul
  by_cases h1 : (n : Int) < 1
  · have : n = 0 := by omega
    subst this
    rw [if_pos h1]
    rfl
  · rw [if_neg h1]
    by_cases h2 : ((n : Int) == 1 || z.length == 0) = true
    · rw [if_pos h2]
      rcases Bool.or_eq_true _ _ ▸ h2 with q | q
      · have : n = 1 := by have := beq_iff_eq.mp q; omega
        subst this
        simp
      · have : z.cps.toList = [] := List.eq_nil_of_length_eq_zero (by rw [← len_ls]; exact beq_iff_eq.mp q)
        rw [this]
        simp
    · rw [if_neg h2, Int.toNat_natCast]
      show ((List.replicate n z.cps).foldl (· ++ ·) #[]).toList = _
      rw [foldl_reps]
      rfl
theorem len_mul (z : Str) (n : Nat) : (Txt.mul z (n : Int)).length = n * z.length := by
  rw [len_ls, ls_mul, List.length_flatten]
  simp
  rfl
theorem plain_mul {z : Str} (h : plain z = true) (n : Nat) : plain (Txt.mul z (n : Int)) = true := plain_sub h fun c hc => by
  rw [ls_mul] at hc
  obtain ⟨l, hl, hc⟩ := List.mem_flatten.mp hc
  rw [(List.mem_replicate.mp hl).2] at hc
  exact hc
/-! ### an own def called by keyword alone, within a try -/
section
variable {X : Cx} {CX : CXT} {k : Nat} {f : Addr} {fd : FuncData} {ps ks : List Str} {sp : Sp} {E : L2.St → XK} {x : Str} {p pos : Pos} {kws : List Keyword} {tk : TA} {g : List Value → List Value → List Value} {gV : List V → List V → List V}
def tCallKS (sp : Sp) (gV : List V → List V → List V) (n : Nat) (E : L2.St → XK) (tk : TA) : TE := fun σ H Q => tk σ H fun zs H1 => zs.length = n ∧ sp (gV [] zs) H1 Q (E σ)
theorem pe_callKS (F : FnOk X.prog X.w X.K X.mg X.base CX k f fd ps sp) (hr : Room k X.A) (hg : Gl X x) (hm : X.mg x = some (.ref f)) (hk : PySem.W.keepIn X.K (.ref f) = true) (hb : KBn X.K fd ps 0 ks g gV) (hx : ∀ σ, PassesAt CX X σ (E σ))
    (hkw : PK X kws tk) (hall : (backToKw pos (keywordEach kws X.env)).all (·.1.isSome) = true := by rfl) (hks : (backToKw pos (keywordEach kws X.env)).filterMap (·.1) = ks := by rfl)
    (hdb : (x == ("__debug__" : Str)) = false := by decide) (hpl : ((backTo pos (starEach [] X.env)).any (·.1) || (backToKw pos (keywordEach kws X.env)).any (·.1.isNone)) = false := by rfl) :
    PE X (.Call (.Name x p) [] kws pos) (tCallKS sp gV ks.length E tk) := by
  constructor
  intro pins s σ H Q I h
  apply wpAny_Call_Name_kw (ld_glob I hg hm ?_ hdb)
  apply PySem.W.callWith_KW0 (h₀ := X.base) I.ok.mod.kin hk hall ?_ hpl
  apply thn (hkw.run pos pins s σ H _ I h)
  rintro ws s1 ⟨zs, H1, I1, rz, len, q1⟩
  refine ⟨I1.kIn, ?_⟩
  rw [hks]
  have r2 := hb.rel (Paired.nil (F := RelV)) rz
  have n2 : ws.length = ks.length := by rw [← rz.length]; exact len
  apply wpAny_call
  apply codeAny_mono (F.run X.A X.stack s1 H1 ⟨[], ks.zip ws⟩ _ _ Q (E σ) hr I1.env0 (hb.to s1 [] ws I1.kIn rfl n2) r2 q1)
  intro r s' hq
  cases r with
  | error e => exact hx σ pins H1 s1 e s' I1 hq
  | ok fl =>
    cases fl with
    | ret u => exact I1.after hq
    | next => exact False.elim hq
    | brk => exact False.elim hq
    | cont => exact False.elim hq
end
end Sf

namespace Sf
open PySem PySem.Spec PyProof.Rows L2
/-! ### what is wrong first -/
inductive Ft
  | rule
  | piece (x : Str)
  | film (x : Str)
  | num (i : Nat) (z : Int)
def Ft.ix : Ft → Nat
  | .film _ => 1 | .piece _ => 2 | .rule => 3 | .num i _ => i
def Ft.val (j : Addr) : Ft → V
  | .film x => .str x | .piece x => .str x | .rule => .ref j | .num _ z => .int z
def eS (x : Str) : Bool := decide (V.str x = V.str "")
theorem eS_iff {x : Str} : eS x = true ↔ x.length = 0 := by
  unfold eS
  rw [decide_eq_true_eq]
  constructor
  · intro h
    rw [V.str.inj h]
    rfl
  · intro h
    have : x = ("" : Str) := ext_ls (by
      rw [len_ls] at h
      rw [List.eq_nil_of_length_eq_zero h]
      rfl)
    rw [this]
/-- of a rule of these texts -/
def ruleFt (xs : List Str) : Option Ft := if xs.length = 4 then (match xs.find? fun p => !plain p with
  | some p => some (.piece p)
  | none => if eS (xs.getD 0 "") || eS (xs.getD 3 "") then some .rule else none) else some .rule
def filmFt (x : Str) : Option Ft := if !eS x && plain x then none else some (.film x)
theorem bn_t {b : Bool} (h : (!b) = true) : b = false := by cases b <;> simp_all
theorem bn_f {b : Bool} (h : ¬ (!b) = true) : b = true := by cases b <;> simp_all
theorem b_f {b : Bool} (h : ¬ b = true) : b = false := Bool.eq_false_iff.mpr h
theorem find_at {xs : List Str} {p : Str → Bool} : ∀ {ys : List Str} {i : Nat} {x : Str}, (∀ m v, m < i → ys[m]? = some v → p v = false) → ys[i]? = some x → p x = true → ys.find? p = some x
  | [], i, x, _, e, _ => by cases e
  | y :: ys, 0, x, _, e, h => by
    cases e
    rw [List.find?_cons_of_pos h]
  | y :: ys, i + 1, x, no, e, h => by
    rw [List.find?_cons_of_neg (by rw [no 0 y (Nat.succ_pos _) rfl]; exact Bool.false_ne_true)]
    exact find_at (xs := xs) (fun m v hm hv => no (m + 1) v (Nat.succ_lt_succ hm) hv) e h
theorem find_no {p : Str → Bool} : ∀ {ys : List Str}, (∀ m v, m < ys.length → ys[m]? = some v → p v = false) → ys.find? p = none
  | [], _ => rfl
  | y :: ys, no => by
    rw [List.find?_cons_of_neg (by rw [no 0 y (Nat.succ_pos _) rfl]; exact Bool.false_ne_true)]
    exact find_no fun m v hm hv => no (m + 1) v (Nat.succ_lt_succ hm) hv
theorem map_at {α β : Type} {f : α → β} {xs : List α} {i : Nat} {v : β} (h : (xs.map f)[i]? = some v) : ∃ x, xs[i]? = some x ∧ v = f x := by
  rw [List.getElem?_map] at h
  cases q : xs[i]? with
  | none => rw [q] at h; cases h
  | some x => rw [q] at h; exact ⟨x, rfl, (Option.some.inj h).symm⟩
theorem of_four {α : Type} {xs : List α} (h : xs.length = 4) : ∃ a b c d, xs = [a, b, c, d] := match xs, h with | [a, b, c, d], _ => ⟨a, b, c, d, rfl⟩
/-- a cut that is perhaps none -/
def stZ (l r x : Str) (c : Int) : Bool := if 0 ≤ c ∧ c ≤ x.length then stB l r x c.toNat else false

def vnats (ns : List Nat) : List V := ns.map fun (c : Nat) => V.int (c : Int)
theorem vnats_ints (ns : List Nat) : vnats ns = (ns.map fun (c : Nat) => (c : Int)).map V.int := by unfold vnats; rw [List.map_map]; rfl
theorem same_none {S H : Hp} {p : Addr} (s : Same S H) (h : H p = none) : S p = none := by
  cases q : S p with
  | none => rfl
  | some o => rw [s p o q] at h; cases h
/-- how a fault is told: its error's name, its value -/
def ftName : Ft → Str
  | .film _ => "InvalidFilm" | .piece _ => "InvalidPiece" | .rule => "InvalidRule" | .num 4 _ => "UnknownStrip" | .num 5 _ => "UnknownRule" | .num _ _ => "NoSplice"
def ftList (j : Addr) : Option Ft → List V
  | none => []
  | some f => [.str (ftName f), f.val j]
def Ft.dat (xs : List Str) : Ft → PyData
  | .film x => .str x | .piece x => .str x | .rule => .tuple (xs.map .str) | .num _ z => .int z
def ftDat (xs : List Str) : Option Ft → List PyData
  | none => []
  | some f => [.str (ftName f), f.dat xs]
theorem Ft.dp {K : PySem.W.Frag} {H : Hp} {j : Addr} {xs : List Str} (h : SqT K H j (xs.map V.str)) (f : Ft) : Dp K H (f.val j) (f.dat xs) := by
  cases f with
  | rule => exact .tup h (DpAll.strs xs)
  | piece x => exact .str x
  | film x => exact .str x
  | num i z => exact .int z
theorem dp_ft {K : PySem.W.Frag} {H : Hp} {j : Addr} {xs : List Str} (h : SqT K H j (xs.map V.str)) : ∀ o : Option Ft, DpAll K H (ftList j o) (ftDat xs o)
  | none => .nil
  | some f => .cons (.str _) (.cons (f.dp h) .nil)
/-- its texts are small, its numbers too -/
structure Ft.Ok (f : Ft) : Prop where
  tx : ∀ x, f = .film x ∨ f = .piece x → Tx 5000 x
  nm : ∀ i z, f = .num i z → z.natAbs < 2 ^ 200 ∧ 4 ≤ i ∧ i ≤ 6
theorem ftName_ok (f : Ft) : (ftName f).cps.toList.all (fun c => decide (c < 1000)) = true ∧ (ftName f).length ≤ 20 := by
  unfold ftName
  split <;> exact ⟨by decide, by decide⟩
theorem str_ok {x : Str} (h : ∀ c ∈ x.cps.toList, c < 1000) : PyData.strOk x = true := by
  unfold PyData.strOk
  rw [← Array.all_toList, List.all_eq_true]
  exact fun c hc => decide_eq_true (Nat.lt_trans (h c hc) (by decide))
theorem lay_strs : ∀ {xs : List Str}, (∀ x ∈ xs, Tx 5000 x) → PyData.canLayAll0 (xs.map PyData.str) = true
  | [], _ => rfl
  | x :: xs, h => by
    show (PyData.canLay0 (.str x) && PyData.canLayAll0 (xs.map PyData.str)) = true
    rw [lay_strs fun y hy => h y (List.mem_cons_of_mem _ hy), Bool.and_true]
    simp only [PyData.canLay0]
    exact str_ok (h x List.mem_cons_self).ch
theorem depth_strs : ∀ (xs : List Str), PyData.depthAll (xs.map PyData.str) = 0
  | [] => rfl
  | x :: xs => by
    show max (PyData.depth (.str x)) (PyData.depthAll (xs.map PyData.str)) = 0
    rw [depth_strs xs]
    simp only [PyData.depth]
    rfl
theorem Ft.lay {xs : List Str} (hx : ∀ x ∈ xs, Tx 5000 x) {f : Ft} (h : f.Ok) : PyData.canLay0 (f.dat xs) = true ∧ PyData.depth (f.dat xs) ≤ 1 := by
  cases f with
  | rule => exact ⟨by simp only [Ft.dat, PyData.canLay0]; exact lay_strs hx, by simp only [Ft.dat, PyData.depth, depth_strs]; decide⟩
  | piece x => exact ⟨by simp only [Ft.dat, PyData.canLay0]; exact str_ok (h.tx x (.inr rfl)).ch, by simp only [Ft.dat, PyData.depth]; decide⟩
  | film x => exact ⟨by simp only [Ft.dat, PyData.canLay0]; exact str_ok (h.tx x (.inl rfl)).ch, by simp only [Ft.dat, PyData.depth]; decide⟩
  | num i z => exact ⟨by simp only [Ft.dat, PyData.canLay0], by simp only [Ft.dat, PyData.depth]; decide⟩
theorem shaped_ft {xs : List Str} (hx : ∀ x ∈ xs, Tx 5000 x) : ∀ {o : Option Ft}, (∀ f, o = some f → f.Ok) → SeqAt.shaped (.list (ftDat xs o)) = true
  | none, _ => by
    show SeqAt.shaped (PyData.list []) = true
    decide
  | some f, h => by
    have l := f.lay hx (h f rfl)
    have n := ftName_ok f
    unfold SeqAt.shaped
    rw [Bool.and_eq_true, decide_eq_true_eq]
    constructor
    · simp only [ftDat, PyData.canLay0, PyData.canLayAll0, l.1, Bool.and_true]
      exact str_ok fun c hc => of_decide_eq_true (List.all_eq_true.mp n.1 c hc)
    · simp only [ftDat, PyData.depth, PyData.depthAll]
      have := l.2
      omega
theorem eqv_ft (xs : List Str) (o : Option Ft) : PyData.eqv (.list (ftDat xs o)) (.list []) = o.isNone := by
  cases o with
  | none => simp only [ftDat, PyData.eqv, PyData.eqvAll]; rfl
  | some f => simp only [ftDat, PyData.eqv, PyData.eqvAll]; rfl
theorem filmFt_ok {x : Str} (h : Tx 5000 x) : ∀ f, filmFt x = some f → f.Ok := fun f e => by
  unfold filmFt at e
  split at e
  · cases e
  · cases e
    exact ⟨fun y z => (by rcases z with z | z <;> cases z; exact h), fun i z e => by cases e⟩
theorem ruleFt_ok {xs : List Str} (hx : ∀ x ∈ xs, Tx 5000 x) : ∀ f, ruleFt xs = some f → f.Ok := fun f e => by
  have r : (Ft.rule).Ok := ⟨fun y z => (by rcases z with z | z <;> cases z), fun i z e => by cases e⟩
  unfold ruleFt at e
  split at e
  · split at e
    · rename_i p q
      cases e
      exact ⟨fun y z => (by rcases z with z | z <;> cases z; exact hx _ (List.mem_of_find?_eq_some q)), fun i z e => by cases e⟩
    · split at e
      · cases e; exact r
      · cases e
  · cases e; exact r
def kindNames : List Str := ["InvalidFilm", "InvalidPiece", "InvalidRule", "UnknownStrip", "UnknownRule", "NoSplice"]
/-- the flags that an error shows -/
def flags (f : Ft) : List Bool := [decide (f.ix = 1), decide (f.ix = 2), decide (f.ix = 3), decide (f.ix = 4), decide (f.ix = 5), decide (f.ix = 6)]
theorem flags_eq {f : Ft} (h : f.Ok) : (kindNames.map fun s => V.bl (decide (V.str (ftName f) = V.str s))) = (flags f).map V.bl := by
  have e : ∀ a b : Str, decide (V.str a = V.str b) = decide (a = b) := fun a b => by
    by_cases z : a = b
    · rw [z, decide_eq_true rfl, decide_eq_true rfl]
    · rw [decide_eq_false z, decide_eq_false fun y => z (V.str.inj y)]
  simp only [e]
  cases f with
  | rule => decide
  | piece x => show _ = (flags (.piece "")).map V.bl; show (kindNames.map fun s => V.bl (decide (ftName (.piece "") = s))) = _; decide
  | film x => show _ = (flags (.film "")).map V.bl; show (kindNames.map fun s => V.bl (decide (ftName (.film "") = s))) = _; decide
  | num i z =>
    have h2 := (h.nm i z rfl).2
    have : i = 4 ∨ i = 5 ∨ i = 6 := by omega
    rcases this with rfl | rfl | rfl
    · show (kindNames.map fun s => V.bl (decide (ftName (.num 4 0) = s))) = (flags (.num 4 0)).map V.bl; decide
    · show (kindNames.map fun s => V.bl (decide (ftName (.num 5 0) = s))) = (flags (.num 5 0)).map V.bl; decide
    · show (kindNames.map fun s => V.bl (decide (ftName (.num 6 0) = s))) = (flags (.num 6 0)).map V.bl; decide
/-- of strips and rules, the strips ahead -/
def boxFt (ws : List Str) (js : List (Addr × List Str)) : Option (Addr × List Str × Ft) := match ws.findSome? filmFt with
  | some f => some (0, [], f)
  | none => js.findSome? fun j => (ruleFt j.2).map fun f => (j.1, j.2, f)
theorem some_at {α β : Type} {p : α → Option β} : ∀ {ys : List α} {i : Nat} {x : α} {b : β}, (∀ m v, m < i → ys[m]? = some v → p v = none) → ys[i]? = some x → p x = some b → ys.findSome? p = some b
  | [], i, x, b, _, e, _ => by cases e
  | y :: ys, 0, x, b, _, e, h => by
    cases e
    rw [List.findSome?_cons, h]
  | y :: ys, i + 1, x, b, no, e, h => by
    rw [List.findSome?_cons, no 0 y (Nat.succ_pos _) rfl]
    exact some_at (fun m v hm hv => no (m + 1) v (Nat.succ_lt_succ hm) hv) e h
theorem some_no {α β : Type} {p : α → Option β} : ∀ {ys : List α}, (∀ m v, m < ys.length → ys[m]? = some v → p v = none) → ys.findSome? p = none
  | [], _ => rfl
  | y :: ys, no => by
    rw [List.findSome?_cons, no 0 y (Nat.succ_pos _) rfl]
    exact some_no fun m v hm hv => no (m + 1) v (Nat.succ_lt_succ hm) hv
theorem ls_join0 : ∀ ys : List Str, (Txt.join "" ys).cps.toList = (ys.map (·.cps.toList)).flatten := by
  have key : ∀ ys : List Str, (Str.join "" ys).cps.toList = (ys.map (·.cps.toList)).flatten := by
    intro ys
    induction ys with
    | nil => rfl
    | cons y r ih =>
      cases r with
      | nil => show y.cps.toList = _; simp
      | cons z t =>
        show (y ++ "" ++ Str.join "" (z :: t)).cps.toList = _
        rw [ls_append, ls_append, ih]
        show y.cps.toList ++ [] ++ _ = _
        rw [List.append_nil]
        rfl
  intro ys
  have e : Txt.join "" ys = Str.join "" ys := StrLaws.glued_eq_join "" ys
  rw [e, key]
theorem nat_of {z : Int} (h : 0 ≤ z) : ∃ j : Nat, z = (j : Int) := ⟨z.toNat, (Int.toNat_of_nonneg h).symm⟩
/-- texts of one letter each, joined -/
theorem wd_join {ys : List Str} (h : ∀ y ∈ ys, ∃ c ∈ abcS.cps.toList, y = ⟨#[c]⟩) : Wd ys.length (Txt.join "" ys) ∧ (Txt.join "" ys).length = ys.length := by
  have len : (Txt.join "" ys).length = ys.length := by
    rw [len_ls, ls_join0, List.length_flatten, List.map_map]
    have : ys.map (List.length ∘ fun x => x.cps.toList) = ys.map fun _ => 1 := List.map_congr_left fun y hy => by
      obtain ⟨c, _, rfl⟩ := h y hy
      rfl
    rw [this]
    clear this h
    induction ys with
    | nil => rfl
    | cons y r ih => rw [List.map_cons, List.sum_cons, ih, List.length_cons, Nat.add_comm]
  refine ⟨⟨Nat.le_of_eq len, plain_iff.mpr fun c hc => ?_⟩, len⟩
  rw [ls_join0] at hc
  obtain ⟨l, hl, hc⟩ := List.mem_flatten.mp hc
  obtain ⟨y, hy, rfl⟩ := List.mem_map.mp hl
  obtain ⟨d, hd, rfl⟩ := h y hy
  have : c = d := by simpa using hc
  rw [this]
  exact hd
theorem Kp.none {H H1 : Hp} {a p : Addr} {o : HO} (h : Kp a H H1) (ha : H1 a = some o) (f : H1 p = none) : H p = none := h.free (fun e => by rw [e, ha] at f; cases f) f
theorem sk_none {n : Nat} {H H1 : Hp} {a p : Addr} (h : Kp a H H1) (k : Sk n H1 a) (f : H1 p = none) : H p = none := let ⟨_, e⟩ := k.at; h.none e f
theorem seqL_kp {K : PySem.W.Frag} {H H' : Hp} {r a : Addr} {xs : List V} (h : SqL K H r xs) (n : r ≠ a) (k : Kp a H H') : SqL K H' r xs := by
  rcases h with (h | ⟨o, h⟩) | h
  · exact .inl (.inl (k _ _ n h))
  · exact .inl (.inr ⟨o, k _ _ n h⟩)
  · exact .inr h
theorem seqT_kp {K : PySem.W.Frag} {H H' : Hp} {r a : Addr} {xs : List V} (h : SqT K H r xs) (n : r ≠ a) (k : Kp a H H') : SqT K H' r xs := by
  rcases h with (h | ⟨o, h⟩) | h
  · exact .inl (.inl (k _ _ n h))
  · exact .inl (.inr ⟨o, k _ _ n h⟩)
  · exact .inr h
theorem shaped_strs {ws : List Str} (h : ∀ x ∈ ws, Tx 5000 x) : SeqAt.shaped (.list (ws.map .str)) = true := by
  unfold SeqAt.shaped
  rw [Bool.and_eq_true, decide_eq_true_eq]
  refine ⟨?_, ?_⟩
  · simp only [PyData.canLay0]
    exact lay_strs h
  · simp only [PyData.depth, depth_strs]
    decide
theorem shaped_nil : SeqAt.shaped (.list []) = true := by decide
theorem eqv_nil (ws : List Str) : PyData.eqv (.list (ws.map .str)) (.list []) = ws.isEmpty := by
  cases ws with
  | nil => simp only [List.map_nil, PyData.eqv, PyData.eqvAll]; rfl
  | cons x r => simp only [List.map_cons, PyData.eqv, PyData.eqvAll]; rfl
theorem lt200 {z : Int} (h : z ≤ 1000000) : z < 2 ^ 200 := Int.lt_of_le_of_lt h (by decide)
theorem Kp.del {H H1 : Hp} {a b : Addr} {o : HO} (k : Kp a H H1) (nb : b ≠ a) (h : H b = some o) : H1 b = some o := k b o nb h
theorem ixN_nat {g n : Nat} (h : g < n) : ixN n (g : Int) = some g := by
  unfold ixN
  rw [if_pos (by omega), if_pos (by omega), Int.toNat_natCast]
theorem Ft.Ok.ix1 {f : Ft} (h : f.Ok) : 1 ≤ f.ix ∧ f.ix ≤ 6 := by
  cases f with
  | num i z => have := h.nm i z rfl; exact ⟨by show 1 ≤ i; omega, by show i ≤ 6; omega⟩
  | _ => exact ⟨by simp only [Ft.ix]; decide, by simp only [Ft.ix]; decide⟩
theorem filmFt_is {x : Str} {f : Ft} (h : filmFt x = some f) : f = .film x := by
  unfold filmFt at h
  split at h
  · cases h
  · exact (Option.some.inj h).symm
/-- of a rule and a film -/
def askFt (xs : List Str) (x : Str) : Option Ft := match ruleFt xs with | some f => some f | none => filmFt x
theorem askFt_ok {xs : List Str} {x : Str} (hx : ∀ x ∈ xs, Tx 5000 x) (h : Tx 5000 x) : ∀ f, askFt xs x = some f → f.Ok := fun f e => by
  unfold askFt at e
  split at e
  · rename_i q
    cases e
    exact ruleFt_ok hx _ q
  · exact filmFt_ok h f e
theorem Ft.sz {xs : List Str} (hx : ∀ x ∈ xs, Tx 400 x) (hl : xs.length ≤ 100) {f : Ft} (h : f.Ok) : Sz 2 500000 (f.dat xs) := by
  cases f with
  | rule =>
    have a : SzAll 1 (xs.length * 4004) (xs.map PyData.str) := by
      have b := SzAll.of (k := 1) (n := 4002) (ds := xs.map PyData.str) fun d hd => by
        obtain ⟨x, hx', rfl⟩ := List.mem_map.mp hd
        exact (hx x hx').sz.mono (Nat.le_refl _) (by decide)
      rw [List.length_map] at b
      exact b
    exact (Sz.tuple a).mono (Nat.le_refl _) (by omega)
  | piece x => exact (h.tx x (.inr rfl)).sz.mono (Nat.le_refl _) (by decide)
  | film x => exact (h.tx x (.inl rfl)).sz.mono (Nat.le_refl _) (by decide)
  | num i z => exact (Sz.int (n := 200) (h.nm i z rfl).1 (by decide) (by decide)).mono (Nat.le_refl _) (by decide)
theorem sz_bools (k : Nat) (bs : List Bool) : SzAll k (bs.length * 7) (bs.map PyData.bool) := by
  have b := SzAll.of (k := k) (n := 5) (ds := bs.map PyData.bool) fun d hd => by
    obtain ⟨x, _, rfl⟩ := List.mem_map.mp hd
    exact Sz.bool x
  rw [List.length_map] at b
  exact b
/-- what an error shows -/
def errDat (xs : List Str) (f : Ft) : PyData := .tuple [.list ((flags f).map .bool), f.dat xs]
theorem errDat_sz {xs : List Str} (hx : ∀ x ∈ xs, Tx 400 x) (hl : xs.length ≤ 100) {f : Ft} (h : f.Ok) : Sz 3 600000 (errDat xs f) :=
  (Sz.tuple (k := 2) (SzAll.cons ((Sz.list (sz_bools 1 (flags f))).mono (Nat.le_refl _) (show (flags f).length * 7 + 2 ≤ 100 from (by decide : 6 * 7 + 2 ≤ 100))) (SzAll.cons (f.sz hx hl h) .nil))).mono (Nat.le_refl _) (by decide)
/-- the list of the seats, shown -/
def natDat (ns : List Nat) : List PyData := ns.map fun (c : Nat) => .int (c : Int)
theorem dp_nats {K : PySem.W.Frag} {H : Hp} (ns : List Nat) : DpAll K H (vnats ns) (natDat ns) := by
  have := DpAll.ints (K := K) (H := H) (ns.map fun (c : Nat) => (c : Int))
  rw [List.map_map, List.map_map] at this
  exact this
theorem nats_sz (k : Nat) {ns : List Nat} (h : ∀ c ∈ ns, c ≤ 10000) : SzAll k (ns.length * 24) (natDat ns) := by
  have b := SzAll.of (k := k) (n := 22) (ds := natDat ns) fun d hd => by
    obtain ⟨c, hc, rfl⟩ := List.mem_map.mp hd
    have := h c hc
    exact Sz.int (n := 20) (by rw [Int.natAbs_natCast]; omega) (by decide) (by decide)
  unfold natDat at b ⊢
  rw [List.length_map] at b
  exact b
theorem seats_le {l r x : Str} : ∀ c ∈ seats l r x, c ≤ x.length := fun c hc => by
  have := List.mem_range.mp (List.mem_filter.mp hc).1
  omega
theorem seats_len (l r x : Str) : (seats l r x).length ≤ x.length + 1 := Nat.le_trans (List.length_filter_le _ _) (by rw [List.length_range]; exact Nat.le_refl _)
def toldDat (ns : List Nat) : PyData := .tuple [.list [], .str "", .list (natDat ns)]
theorem toldDat_sz {ns : List Nat} (h : ∀ c ∈ ns, c ≤ 10000) (hl : ns.length ≤ 10001) : Sz 3 300000 (toldDat ns) :=
  (Sz.tuple (k := 2) (SzAll.cons ((Sz.list (SzAll.nil (k := 1))).mono (Nat.le_refl _) (show _ ≤ 10 by decide)) (SzAll.cons ((Tx.sz (k := 2) (n := 0) (Tx.lit (by decide) (by decide))).mono (Nat.le_refl _) (show _ ≤ 10 by decide))
    (SzAll.cons ((Sz.list (nats_sz 1 h)).mono (Nat.le_refl _) (show _ ≤ 250000 by omega)) .nil)))).mono (Nat.le_refl _) (by decide)
end Sf

namespace Sf
open PySem PySem.Spec PyProof.Rows L2
/-! ### faults one behind another -/
def orFt (a b : Option Ft) : Option Ft := match a with | some f => some f | none => b
theorem or_some {f : Ft} {b : Option Ft} : orFt (some f) b = some f := rfl
theorem or_none {b : Option Ft} : orFt none b = b := rfl
theorem or_assoc (a b c : Option Ft) : orFt (orFt a b) c = orFt a (orFt b c) := by cases a <;> rfl
/-- a cut that is not let -/
def cutFt (b : Bool) (z : Int) : Option Ft := if b then none else some (.num 6 z)
/-- what is wrong first with a splice -/
def splFt (xs : List Str) (x : Str) (c : Int) (y : Str) (p : Int) : Option Ft :=
  orFt (ruleFt xs) (orFt (filmFt x) (orFt (filmFt y) (orFt (cutFt (stZ (xs.getD 0 "") (xs.getD 1 "") x c) c) (cutFt (stZ (xs.getD 2 "") (xs.getD 3 "") y p) p))))
def splice (x : Str) (c : Int) (y : Str) (p : Int) : Str := cutS x none (some c) ++ cutS y (some p) none
theorem cutFt_ok {b : Bool} {z : Int} (h : z.natAbs < 2 ^ 200) : ∀ f, cutFt b z = some f → f.Ok := fun f e => by
  unfold cutFt at e
  split at e
  · cases e
  · cases e
    exact ⟨fun y w => (by rcases w with w | w <;> cases w), fun i z e => by cases e; exact ⟨h, by decide, by decide⟩⟩
theorem orFt_ok {a b : Option Ft} (ha : ∀ f, a = some f → f.Ok) (hb : ∀ f, b = some f → f.Ok) : ∀ f, orFt a b = some f → f.Ok := fun f e => by
  cases a with
  | none => exact hb f e
  | some g => cases e; exact ha _ rfl
theorem seats_mem {l r x : Str} {g : Int} : inV (.int g) (vnats (seats l r x)) = stZ l r x g := by
  unfold inV vnats
  rw [List.any_map, Bool.eq_iff_iff, List.any_eq_true]
  unfold stZ
  constructor
  · rintro ⟨c, hc, e⟩
    have e : ((c : Int) == g) = true := e
    have ec : (c : Int) = g := beq_iff_eq.mp e
    have m := List.mem_filter.mp hc
    have := List.mem_range.mp m.1
    subst ec
    rw [if_pos ⟨by omega, by omega⟩, Int.toNat_natCast]
    exact m.2
  · intro h
    split at h
    · rename_i q
      refine ⟨g.toNat, List.mem_filter.mpr ⟨List.mem_range.mpr (by omega), h⟩, ?_⟩
      show (((g.toNat : Nat) : Int) == g) = true
      rw [Int.toNat_of_nonneg q.1]
      exact beq_self_eq_true g
    · cases h
theorem nats_flat (ns : List Nat) : (vnats ns).all flatV = true := by
  unfold vnats
  rw [List.all_map]
  exact List.all_eq_true.mpr fun _ _ => rfl
theorem shaped_nats (ns : List Nat) : SeqAt.shaped (.list (natDat ns)) = true := by
  have key : ∀ ns : List Nat, PyData.canLayAll0 (natDat ns) = true ∧ PyData.depthAll (natDat ns) = 0 := by
    intro ns
    induction ns with
    | nil => exact ⟨rfl, rfl⟩
    | cons c r ih =>
      constructor
      · show (PyData.canLay0 (.int c) && PyData.canLayAll0 (natDat r)) = true
        rw [ih.1, Bool.and_true]
        simp only [PyData.canLay0]
      · show max (PyData.depth (.int c)) (PyData.depthAll (natDat r)) = 0
        rw [ih.2]
        simp only [PyData.depth]
        rfl
  unfold SeqAt.shaped
  rw [Bool.and_eq_true, decide_eq_true_eq]
  refine ⟨?_, ?_⟩
  · simp only [PyData.canLay0]
    exact (key ns).1
  · simp only [PyData.depth, (key ns).2]
    decide
theorem eqv_nats (ns : List Nat) : PyData.eqv (.list (natDat ns)) (.list []) = ns.isEmpty := by
  cases ns with
  | nil => simp only [natDat, List.map_nil, PyData.eqv, PyData.eqvAll]; rfl
  | cons x r => simp only [natDat, List.map_cons, PyData.eqv, PyData.eqvAll]; rfl
/-- what is shown of a splice -/
def splDat (z : Str) : PyData := .tuple [.list [], .str "", .str z]
theorem splDat_sz {z : Str} (h : Tx 5000 z) : Sz 3 100000 (splDat z) :=
  (Sz.tuple (k := 2) (SzAll.cons ((Sz.list (SzAll.nil (k := 1))).mono (Nat.le_refl _) (show _ ≤ 10 by decide)) (SzAll.cons ((Tx.sz (k := 2) (n := 0) (Tx.lit (by decide) (by decide))).mono (Nat.le_refl _) (show _ ≤ 10 by decide))
    (SzAll.cons (h.sz (k := 2)) .nil)))).mono (Nat.le_refl _) (by decide)
def errDat3 (xs : List Str) (f : Ft) : PyData := .tuple [.list ((flags f).map .bool), f.dat xs, .str ""]
theorem errDat3_sz {xs : List Str} (hx : ∀ x ∈ xs, Tx 400 x) (hl : xs.length ≤ 100) {f : Ft} (h : f.Ok) : Sz 3 600000 (errDat3 xs f) :=
  (Sz.tuple (k := 2) (SzAll.cons ((Sz.list (sz_bools 1 (flags f))).mono (Nat.le_refl _) (show (flags f).length * 7 + 2 ≤ 100 from (by decide : 6 * 7 + 2 ≤ 100))) (SzAll.cons (f.sz hx hl h)
    (SzAll.cons ((Tx.sz (k := 2) (n := 0) (Tx.lit (by decide) (by decide))).mono (Nat.le_refl _) (show _ ≤ 10 by decide)) .nil)))).mono (Nat.le_refl _) (by decide)
end Sf

namespace Sf
open PySem PySem.Spec PyProof.Rows L2
open Builtin Builtin.Str
/-! ### endings and beginnings within bounds -/
def endsIn (x y : Str) (i j : Int) : Bool := fromIndex x.length i + y.length ≤ toIndexW x.length j && subAt x y (toIndexW x.length j - y.length)
theorem gives_endsIn (x y : Str) (i j : Int) (t u v w' : Tok) : Gives (Builtin.«str.endswith» ⟨[.str x t, .str y u, .int i v, .int j w'], []⟩) (.val (.bool (endsIn x y i j))) := by
  show Gives (ret (.bool (fromIndex x.length i + y.length ≤ toIndexW x.length j && subAt x y (toIndexW x.length j - y.length)))) _
  exact .of_eq rfl
theorem mt_endsIn {X : Cx} : MtR X "str.endswith" (fun x xs H Q => ∃ (a b : Str) (i j : Int), x = .str a ∧ xs = [.str b, .int i, .int j] ∧ Q (.bl (endsIn a b i j)) H) :=
  mt1II (g := fun a b i j => .bl (endsIn a b i j)) fun a b i j t u z y s _ h =>
    call_gives PySem.F.slot_str_endswith (typeIs_str _ _ _) PySem.F.entry_str_endswith (PySem.F.args_str_endswith_4 _ _ _ _) (gives_endsIn a b i j t u z y) (h _ s.toks rfl)
/-- what stands around a cut, asked without cutting -/
theorem stB_in {l r x : Str} {c : Nat} (h : c ≤ x.length) : (endsIn x l 0 (c : Int) && Txt.startswith3 x r (c : Int)) = stB l r x c := by
  have f0 : fromIndex x.length 0 = 0 := rfl
  have fc : fromIndex x.length (c : Int) = c := by
    unfold fromIndex
    rw [if_neg (by omega)]
    omega
  have tc : toIndexW x.length (c : Int) = c := by
    unfold toIndexW
    rw [if_neg (by omega)]
    omega
  unfold stB endsIn Txt.startswith3 Txt.endswith Txt.startswith
  rw [f0, fc, tc, StrLaws.subAt_eq, StrLaws.subAt_eq, StrLaws.subAt_eq, StrLaws.subAt_eq, cut_to h, cut_from h, len_cut_to h, len_cut_from h, Nat.zero_add, Nat.zero_add, List.drop_zero]
  congr 1
  · by_cases z : l.length ≤ c
    · rw [decide_eq_true z, Bool.true_and, Bool.true_and]
      have e1 : ((x.cps.toList.take c).drop (c - l.length)).take l.length = (x.cps.toList.drop (c - l.length)).take l.length := by
        rw [List.drop_take, List.take_take]
        congr 1
        omega
      rw [e1]
    · rw [decide_eq_false z]
      rfl
  · have : decide (c + r.length ≤ x.length) = decide (r.length ≤ x.length - c) := by
      rw [decide_eq_decide]
      omega
    rw [this]
theorem stZ_in {l r x : Str} {c : Int} (h0 : 0 ≤ c) (h1 : c ≤ x.length) : (endsIn x l 0 c && Txt.startswith3 x r c) = stZ l r x c := by
  obtain ⟨n, rfl⟩ := Int.eq_ofNat_of_zero_le h0
  unfold stZ
  rw [if_pos ⟨h0, h1⟩]
  exact stB_in (by omega)
/-! ### the fields of a box and of its workings -/
def bxF (s r k : Addr) : List (Str × V) := [(("_strips" : Str), .ref s), (("_rules" : Str), .ref r), (("_workings" : Str), .ref k)]
def wkF (x y : V) : List (Str × V) := [(("_strips" : Str), x), (("_rules" : Str), y), (("_web" : Str), .non), (("_table" : Str), .non), (("_net" : Str), .non), (("_routes" : Str), .non), (("_parts" : Str), .non), (("_lots" : Str), .non)]
end Sf

namespace K7
open PySem PySem.Spec PyProof.Rows L2 Sf
def top (i : Nat) : Stmt := PySem.Challenge.pw_splicedfilms_k07_splices.main.body.getD i (.Pass ⟨0, 0, 0, 0⟩)
/-- where things stand -/
structure Ad where
  (FilmError InvalidFilm InvalidPiece InvalidRule UnknownStrip UnknownRule NoSplice init is_piece is_film check_film check_piece check_rule spliced splice_of_films stand_at coin signs word pair join sites odd plain join_fault fault bad_join due full purse told any_cut right law : Addr)
  (t_PICTURES : Tok)
def Ad.err (a : Ad) : Nat → Addr
  | 0 => a.FilmError | 1 => a.InvalidFilm | 2 => a.InvalidPiece | 3 => a.InvalidRule | 4 => a.UnknownStrip | 5 => a.UnknownRule | _ => a.NoSplice
structure Txt (K : PySem.W.Frag) (mg : Str → Option Value) (a : Ad) : Prop where
  g_FilmError : mg "FilmError" = some (.ref a.FilmError)
  g_InvalidFilm : mg "InvalidFilm" = some (.ref a.InvalidFilm)
  g_InvalidPiece : mg "InvalidPiece" = some (.ref a.InvalidPiece)
  g_InvalidRule : mg "InvalidRule" = some (.ref a.InvalidRule)
  g_UnknownStrip : mg "UnknownStrip" = some (.ref a.UnknownStrip)
  g_UnknownRule : mg "UnknownRule" = some (.ref a.UnknownRule)
  g_NoSplice : mg "NoSplice" = some (.ref a.NoSplice)
  e_FilmError : ErrC K a.FilmError a.init
  e_InvalidFilm : ErrC K a.InvalidFilm a.init
  e_InvalidPiece : ErrC K a.InvalidPiece a.init
  e_InvalidRule : ErrC K a.InvalidRule a.init
  e_UnknownStrip : ErrC K a.UnknownStrip a.init
  e_UnknownRule : ErrC K a.UnknownRule a.init
  e_NoSplice : ErrC K a.NoSplice a.init
  subs : ∀ i j, i ≤ 6 → j ≤ 6 → PySem.W.subIn K (.ref (a.err i)) (.ref (a.err j)) = some (decide (i = j) || decide (j = 0))
  cls : ∀ i, i ≤ 6 → PySem.W.isClsIn K (a.err i) = true
  g_is_piece : mg "is_piece" = some (.ref a.is_piece)
  k_is_piece : PySem.W.keepIn K (.ref a.is_piece) = true
  g_is_film : mg "is_film" = some (.ref a.is_film)
  k_is_film : PySem.W.keepIn K (.ref a.is_film) = true
  g_check_film : mg "check_film" = some (.ref a.check_film)
  k_check_film : PySem.W.keepIn K (.ref a.check_film) = true
  g_check_piece : mg "check_piece" = some (.ref a.check_piece)
  k_check_piece : PySem.W.keepIn K (.ref a.check_piece) = true
  g_check_rule : mg "check_rule" = some (.ref a.check_rule)
  k_check_rule : PySem.W.keepIn K (.ref a.check_rule) = true
  g_spliced : mg "spliced" = some (.ref a.spliced)
  k_spliced : PySem.W.keepIn K (.ref a.spliced) = true
  g_splice_of_films : mg "splice_of_films" = some (.ref a.splice_of_films)
  k_splice_of_films : PySem.W.keepIn K (.ref a.splice_of_films) = true
  g_stand_at : mg "_stand_at" = some (.ref a.stand_at)
  k_stand_at : PySem.W.keepIn K (.ref a.stand_at) = true
  g_coin : mg "_law_coin" = some (.ref a.coin)
  k_coin : PySem.W.keepIn K (.ref a.coin) = true
  g_signs : mg "_law_fm_signs" = some (.ref a.signs)
  k_signs : PySem.W.keepIn K (.ref a.signs) = true
  g_word : mg "_law_fm_word" = some (.ref a.word)
  k_word : PySem.W.keepIn K (.ref a.word) = true
  g_pair : mg "_law_fm_pair" = some (.ref a.pair)
  k_pair : PySem.W.keepIn K (.ref a.pair) = true
  g_join : mg "_law_fm_join" = some (.ref a.join)
  k_join : PySem.W.keepIn K (.ref a.join) = true
  g_sites : mg "_law_fm_sites" = some (.ref a.sites)
  k_sites : PySem.W.keepIn K (.ref a.sites) = true
  g_odd : mg "_law_fm_odd" = some (.ref a.odd)
  k_odd : PySem.W.keepIn K (.ref a.odd) = true
  g_plain : mg "_law_fm_plain" = some (.ref a.plain)
  k_plain : PySem.W.keepIn K (.ref a.plain) = true
  g_join_fault : mg "_law_fm_join_fault" = some (.ref a.join_fault)
  k_join_fault : PySem.W.keepIn K (.ref a.join_fault) = true
  g_fault : mg "_law_fm_fault" = some (.ref a.fault)
  k_fault : PySem.W.keepIn K (.ref a.fault) = true
  g_bad_join : mg "_law_fm_bad_join" = some (.ref a.bad_join)
  k_bad_join : PySem.W.keepIn K (.ref a.bad_join) = true
  g_due : mg "_law_fm_due" = some (.ref a.due)
  k_due : PySem.W.keepIn K (.ref a.due) = true
  g_full : mg "_law_fm_full" = some (.ref a.full)
  k_full : PySem.W.keepIn K (.ref a.full) = true
  g_purse : mg "_law_fm_purse" = some (.ref a.purse)
  k_purse : PySem.W.keepIn K (.ref a.purse) = true
  g_told : mg "_law_told" = some (.ref a.told)
  k_told : PySem.W.keepIn K (.ref a.told) = true
  g_any_cut : mg "_law_any_cut" = some (.ref a.any_cut)
  k_any_cut : PySem.W.keepIn K (.ref a.any_cut) = true
  g_right : mg "_law_right" = some (.ref a.right)
  k_right : PySem.W.keepIn K (.ref a.right) = true
  g_law : mg "law" = some (.ref a.law)
  k_law : PySem.W.keepIn K (.ref a.law) = true
  b_int : mg "int" = none
  b_len : mg "len" = none
  b_max : mg "max" = none
  b_min : mg "min" = none
  b_abs : mg "abs" = none
  b_repr : mg "repr" = none
  b_isinstance : mg "isinstance" = none
  b_list : mg "list" = none
  b_tuple : mg "tuple" = none
  b_range : mg "range" = none
  b_sorted : mg "sorted" = none
  b_all : mg "all" = none
  g_PICTURES : mg "PICTURES" = some (.str abcS a.t_PICTURES)
theorem Txt.err {K : PySem.W.Frag} {mg : Str → Option Value} {a : Ad} (T : Txt K mg a) : ∀ i, ErrC K (a.err i) a.init
  | 0 => T.e_FilmError | 1 => T.e_InvalidFilm | 2 => T.e_InvalidPiece | 3 => T.e_InvalidRule | 4 => T.e_UnknownStrip | 5 => T.e_UnknownRule | _ + 6 => T.e_NoSplice
section
variable {K : PySem.W.Frag} {mg : Str → Option Value} {a : Ad}
theorem Txt.isE (T : Txt K mg a) (i j : Nat) (h : i ≤ 6) (h1 : 1 ≤ j) (h2 : j ≤ 6) : PySem.W.kitOne K (.ref (a.err i)) (.ref (a.err j)) = some (decide (i = j)) := by
  have s := T.subs i j h h2
  rw [decide_eq_false (show ¬ j = 0 by omega), Bool.or_false] at s
  refine kit_one (T.cls j h2) (T.err j).oe.tyC s fun e => ?_
  -- a class stands under itself
  have s2 := T.subs j i h2 h
  by_cases z : i = j
  · exact decide_eq_true z
  · rw [e, T.subs j j h2 h2, decide_eq_true rfl, Bool.true_or, decide_eq_false z] at s
    cases s
theorem Txt.isF (T : Txt K mg a) (i : Nat) (h : i ≤ 6) : PySem.W.exmOne K (.ref (a.err i)) (.ref a.FilmError) = some true := by
  have s := T.subs i 0 h (by decide)
  rw [decide_eq_true (show 0 = 0 from rfl), Bool.or_true] at s
  exact kit_exm T.e_FilmError.oe.exC (T.cls 0 (by decide)) T.e_FilmError.oe.tyC s
end
section
variable {P : Program} {w : World} {K : PySem.W.Frag} {mg : Str → Option Value} {base : Heap} {a : Ad}
abbrev s_FilmError___init__ : Stmt := inClass (top 1) 0
theorem sc_FilmError___init__ : FnScope ["self", "value"] ["self", "value"] (defScope s_FilmError___init__) := ⟨rfl, rfl, rfl, by decide +kernel, rfl, by decide +kernel, by decide +kernel⟩
theorem ok_init {f : Addr} {fd : FuncData} (F : Fun K "__init__" "FilmError.__init__" s_FilmError___init__ f fd) : FnOk P w K mg base CX0 1 f fd ["self", "value"] (spErrInit K) := by
  refine F.ok sc_FilmError___init__ (fun vs H Q E h => by obtain ⟨a, C, v, rfl, _⟩ := h; rfl) (fun cdv A outer s H vs Q E hr h => ?_)
  refine ⟨_, (pss_one (ps_ost (pv 0) (pv 1))), ?_⟩
  obtain ⟨a, C, v, rfl, ha, oe, no, k⟩ := h
  exact ⟨_, rfl, _, rfl, a, C, rfl, oe, no, .inl ⟨ha, k⟩⟩
abbrev s_is_piece : Stmt := top 10
theorem sc_is_piece : FnScope ["text"] ["text"] (defScope s_is_piece) := ⟨rfl, rfl, rfl, by decide +kernel, rfl, by decide +kernel, by decide +kernel⟩
/-- is_piece(text) -/
def spPiece : Sp := fun vs H Q _ => ∃ (x : Str), vs = [.str x] ∧ Tx 5000 x ∧ ∀ H', Same H H' → Q (.bl (plain x)) H'
theorem ok_is_piece {f : Addr} {fd : FuncData} (F : Fun K "is_piece" "is_piece" s_is_piece f fd) (T : Txt K mg a) : FnOk P w K mg base CX0 1 f fd ["text"] spPiece := by
  refine F.ok sc_is_piece (fun vs H Q E h => by obtain ⟨x, rfl, _⟩ := h; rfl) (fun cdv A outer s H vs Q E hr h => ?_)
  refine ⟨_, (pss_one (ps_ret (pe_cmpR op_eq (pe_bm PySem.F.plainAttrs_str PySem.F.slot_str_strip PySem.F.type_str_strip mt_stripChars (pv 0) (pa_cons (pe_glob (v := .str abcS) rfl T.g_PICTURES ⟨_, rfl⟩) pa_nil)) pe_str (nomark _)))), ?_⟩
  obtain ⟨x, rfl, hx, k⟩ := h
  rw [← strip_plain] at k
  exact ⟨_, rfl, rfl, _, abcS, rfl, rfl, hx.line (by decide), rfl, k H (Same.refl _)⟩
abbrev s_is_film : Stmt := top 11
theorem sc_is_film : FnScope ["text"] ["text"] (defScope s_is_film) := ⟨rfl, rfl, rfl, by decide +kernel, rfl, by decide +kernel, by decide +kernel⟩
def spFilm : Sp := fun vs H Q _ => ∃ (x : Str), vs = [.str x] ∧ Tx 5000 x ∧ ∀ H', Same H H' → Q (.bl (!eS x && plain x)) H'
theorem ok_is_film {f : Addr} {fd fd1 : FuncData} (F : Fun K "is_film" "is_film" s_is_film f fd) (T : Txt K mg a) (c_is_piece : Cal P w K mg base 1 a.is_piece fd1 ["text"] spPiece) : FnOk P w K mg base CX0 2 f fd ["text"] spFilm := by
  refine F.ok sc_is_film (fun vs H Q E h => by obtain ⟨x, rfl, _⟩ := h; rfl) (fun cdv A outer s H vs Q E hr h => ?_)
  have hr_is_piece := hr
  refine ⟨_, (pss_one (ps_ret (pe_and (pe_cmpR op_gt (pe_callB call_len_str (by rfl) T.b_len PySem.boot_len (pa_cons (pv 0) pa_nil)) pe_int (nomark _)) (pe_one (pe_call c_is_piece.ok hr_is_piece rfl T.g_is_piece T.k_is_piece c_is_piece.binds .nil pass0 (pa_cons (pv 0) pa_nil)))))), ?_⟩
  obtain ⟨x, rfl, hx, k⟩ := h
  refine ⟨_, rfl, x, rfl, hx.line (by decide), ?_⟩
  refine ⟨_, _, rfl, rfl, _, rfl, ?_⟩
  have e : decide ((0 : Int) < (x.length : Nat)) = !eS x := by
    cases q : eS x with
    | true => rw [eS_iff.mp q]; rfl
    | false =>
      have : x.length ≠ 0 := fun z => by rw [eS_iff.mpr z] at q; cases q
      exact decide_eq_true (by omega)
  rw [e]
  refine ite2 (fun c => ?_) (fun c => ?_)
  · refine ⟨_, rfl, x, rfl, hx, fun H' sH => ?_⟩
    have q := k H' sH
    rw [c] at q
    exact q
  · have q := k H (Same.refl _)
    rw [b_f c] at q
    exact q
/-- a fault is raised: an error of its class, its value kept -/
def Raised (a : Ad) (j : Addr) (H : Hp) (E : XK) (f : Ft) : Prop := ∀ H' d, Same H H' → H' d = none → E (.ref (a.err f.ix)) (some d) (upd H' d (.xd [(("value" : Str), f.val j)]))
theorem raised_mono {j : Addr} {H H' : Hp} {E : XK} {f : Ft} (r : Raised a j H E f) (s : Same H H') : Raised a j H' E f := fun H2 d s2 hd => r H2 d (s.trans s2) hd
abbrev s_check_film : Stmt := top 12
theorem sc_check_film : FnScope ["film"] ["film"] (defScope s_check_film) := ⟨rfl, rfl, rfl, by decide +kernel, rfl, by decide +kernel, by decide +kernel⟩
def spChkFilm (a : Ad) : Sp := fun vs H Q E => ∃ (x : Str), vs = [.str x] ∧ Tx 5000 x ∧ (filmFt x = none → ∀ H', Same H H' → Q .non H') ∧ ∀ f, filmFt x = some f → Raised a 0 H E f
theorem ok_check_film {f : Addr} {fd fd1 fdI : FuncData} (F : Fun K "check_film" "check_film" s_check_film f fd) (T : Txt K mg a) (c_init : Cal P w K mg base 1 a.init fdI ["self", "value"] (spErrInit K)) (c_is_film : Cal P w K mg base 2 a.is_film fd1 ["text"] spFilm) :
    FnOk P w K mg base (L2.CX P w) 3 f fd ["film"] (spChkFilm a) := by
  refine F.okX sc_check_film (fun vs H Q E h => by obtain ⟨x, rfl, _⟩ := h; rfl) (fun cdv A outer s H vs Q E hr0 h => ?_)
  have hr : (Room 2 (A.deeper (envOfC "check_film" (defScope s_check_film) s.heap.objs.size f cdv))) := hr0
  have hr_is_film := hr
  refine ⟨_, (pss_one (ps_if (pt_not (pt_val (pe_call c_is_film.ok hr_is_film rfl T.g_is_film T.k_is_film c_is_film.binds .nil pass0 (pa_cons (pv 0) pa_nil)))) (pss_one (ps_raise rfl (takes_of rfl rfl rfl rfl) (pmk_oex T.e_InvalidFilm.oe T.e_InvalidFilm.iC T.e_InvalidFilm.tI c_init.ok hr c_init.binds .nil pass0 rfl T.g_InvalidFilm (pa_cons (pv 0) pa_nil)))) pss_nil)), ?_⟩
  obtain ⟨x, rfl, hx, k, e⟩ := h
  refine ⟨_, rfl, x, rfl, hx, fun H' sH => ?_⟩
  refine ⟨_, rfl, ?_⟩
  have ft : filmFt x = if !eS x && plain x then none else some (.film x) := rfl
  refine ite2 (fun c => ?_) (fun c => ?_)
  · have c' : (!eS x && plain x) = false := bn_t c
    rw [c', if_neg Bool.false_ne_true] at ft
    exact ⟨_, rfl, by show 1 ≤ 1000; decide, err_made T.e_InvalidFilm fun d hd => e _ ft H' d sH hd⟩
  · have c' : (!eS x && plain x) = true := bn_f c
    rw [c', if_pos rfl] at ft
    exact k ft H' sH
abbrev s_check_piece : Stmt := top 13
theorem sc_check_piece : FnScope ["piece"] ["piece"] (defScope s_check_piece) := ⟨rfl, rfl, rfl, by decide +kernel, rfl, by decide +kernel, by decide +kernel⟩
def spChkPiece (a : Ad) : Sp := fun vs H Q E => ∃ (x : Str), vs = [.str x] ∧ Tx 5000 x ∧ (plain x = true → ∀ H', Same H H' → Q .non H') ∧ (plain x = false → Raised a 0 H E (.piece x))
theorem ok_check_piece {f : Addr} {fd fd1 fdI : FuncData} (F : Fun K "check_piece" "check_piece" s_check_piece f fd) (T : Txt K mg a) (c_init : Cal P w K mg base 1 a.init fdI ["self", "value"] (spErrInit K)) (c_is_piece : Cal P w K mg base 1 a.is_piece fd1 ["text"] spPiece) :
    FnOk P w K mg base (L2.CX P w) 3 f fd ["piece"] (spChkPiece a) := by
  refine F.okX sc_check_piece (fun vs H Q E h => by obtain ⟨x, rfl, _⟩ := h; rfl) (fun cdv A outer s H vs Q E hr0 h => ?_)
  have hr : (Room 2 (A.deeper (envOfC "check_piece" (defScope s_check_piece) s.heap.objs.size f cdv))) := hr0
  have hr_is_piece := hr.mono (show 1 ≤ 2 by decide)
  refine ⟨_, (pss_one (ps_if (pt_not (pt_val (pe_call c_is_piece.ok hr_is_piece rfl T.g_is_piece T.k_is_piece c_is_piece.binds .nil pass0 (pa_cons (pv 0) pa_nil)))) (pss_one (ps_raise rfl (takes_of rfl rfl rfl rfl) (pmk_oex T.e_InvalidPiece.oe T.e_InvalidPiece.iC T.e_InvalidPiece.tI c_init.ok hr c_init.binds .nil pass0 rfl T.g_InvalidPiece (pa_cons (pv 0) pa_nil)))) pss_nil)), ?_⟩
  obtain ⟨x, rfl, hx, k, e⟩ := h
  refine ⟨_, rfl, x, rfl, hx, fun H' sH => ⟨_, rfl, ?_⟩⟩
  refine ite2 (fun c => ?_) (fun c => ?_)
  · have c' : plain x = false := bn_t c
    exact ⟨_, rfl, by show 1 ≤ 1000; decide, err_made T.e_InvalidPiece fun d hd => e c' H' d sH hd⟩
  · have c' : plain x = true := bn_f c
    exact k c' H' sH
abbrev s_check_rule : Stmt := top 14
theorem sc_check_rule : FnScope ["rule", "piece"] ["rule"] (defScope s_check_rule) := ⟨rfl, rfl, rfl, by decide +kernel, rfl, by decide +kernel, by decide +kernel⟩
def spChkRule (K : PySem.W.Frag) (a : Ad) : Sp := fun vs H Q E => ∃ (j : Addr) (xs : List Str), vs = [.ref j] ∧ SqT K H j (xs.map V.str) ∧ (∀ x ∈ xs, Tx 5000 x) ∧ (ruleFt xs = none → ∀ H', Same H H' → Q .non H') ∧ ∀ f, ruleFt xs = some f → Raised a j H E f
theorem ok_check_rule {f : Addr} {fd fd1 fdI : FuncData} (F : Fun K "check_rule" "check_rule" s_check_rule f fd) (T : Txt K mg a) (c_init : Cal P w K mg base 1 a.init fdI ["self", "value"] (spErrInit K)) (c_check_piece : CalX P w K mg base 3 a.check_piece fd1 ["piece"] (spChkPiece a)) :
    FnOk P w K mg base (L2.CX P w) 4 f fd ["rule"] (spChkRule K a) := by
  refine F.okX sc_check_rule (fun vs H Q E h => by obtain ⟨j, xs, rfl, _⟩ := h; rfl) (fun cdv A outer s H vs Q E hr0 h => ?_)
  have hr : (Room 2 (A.deeper (envOfC "check_rule" (defScope s_check_rule) s.heap.objs.size f cdv))) := hr0.mono (by decide)
  have hr_check_piece : (Room 3 (A.deeper (envOfC "check_rule" (defScope s_check_rule) s.heap.objs.size f cdv))) := hr0
  refine ⟨_, (pss_cons (ps_if (pt_cmpR op_ne (pe_callB call_len_seq (by rfl) T.b_len PySem.boot_len (pa_cons (pv 0) pa_nil)) pe_int (nomark _)) (pss_one (ps_raise rfl (takes_of rfl rfl rfl rfl) (pmk_oex T.e_InvalidRule.oe T.e_InvalidRule.iC T.e_InvalidRule.tI c_init.ok hr c_init.binds .nil pass0 rfl T.g_InvalidRule (pa_cons (pv 0) pa_nil)))) pss_nil)
      (pss_cons (ps_for (passes_of rfl) rfl (pi_tup (pv 0)) (pg_name (i := 1) sc_check_rule.nd rfl (Or.inl rfl))
      (pss_one (ps_expr (pe_callS c_check_piece.ok hr_check_piece rfl T.g_check_piece T.k_check_piece c_check_piece.binds (fun σ => passAt (takes_of rfl rfl rfl rfl) σ) (pa_cons (pv 1) pa_nil)))))
      (pss_one (ps_if (PW.pt (pw_or (pt_cmpR op_eq (pe_ix ix_tup (pv 0) pe_int (fun _ _ => rfl)) pe_str (nomark _)) (pw_or1 (pt_cmpR op_eq (pe_ix ix_tup (pv 0) pe_int (fun _ _ => rfl)) pe_str (nomark _))))) (pss_one (ps_raise rfl (takes_of rfl rfl rfl rfl) (pmk_oex T.e_InvalidRule.oe T.e_InvalidRule.iC T.e_InvalidRule.tI c_init.ok hr c_init.binds .nil pass0 rfl T.g_InvalidRule (pa_cons (pv 0) pa_nil)))) pss_nil)))), ?_⟩
  obtain ⟨j, xs, rfl, hj, hx, k, e⟩ := h
  refine ⟨_, rfl, j, _, rfl, .inr hj, rfl, _, rfl, ?_⟩
  rw [List.length_map]
  refine ite2 (fun c => ?_) (fun c => ?_)
  · have n4 : ¬ xs.length = 4 := fun z => by rw [z] at c; exact absurd c (by decide)
    exact ⟨_, rfl, by show 1 ≤ 1000; decide, err_made T.e_InvalidRule fun d hd => e .rule (by unfold ruleFt; rw [if_neg n4]) H d (Same.refl _) hd⟩
  · have n4 : xs.length = 4 := by
      by_cases z : xs.length = 4
      · exact z
      · exfalso
        apply c
        rw [decide_eq_false (fun y => z (by injection y with y; omega))]
        rfl
    refine ⟨_, rfl, j, rfl, ⟨_, hj⟩, for_tup (xs := xs.map V.str) (fun i σ H' => ∃ x1, σ = [some (.ref j), x1] ∧ Same H H' ∧ ∀ m v, m < i → xs[m]? = some v → (!plain v) = false) ⟨_, rfl, Same.refl _, fun m v z => absurd z (Nat.not_lt_zero _)⟩ (fun i σ H' _ q => by obtain ⟨_, _, s1, _⟩ := q; exact sameT s1 hj) ?_ ?_⟩
    · rintro i v σ H1 hv ⟨x1, rfl, s1, pl⟩
      obtain ⟨x, ex, rfl⟩ := map_at hv
      refine ⟨_, rfl, x, rfl, hx x (List.mem_of_getElem? ex), fun px H2 s2 => ?_, fun px H2 d s2 hd => ?_⟩
      · refine ⟨_, rfl, s1.trans s2, fun m v hm hw => ?_⟩
        rcases Nat.lt_succ_iff_lt_or_eq.mp hm with z | z
        · exact pl m v z hw
        · subst z
          rw [ex] at hw
          cases hw
          rw [px]
          rfl
      · have q := find_at (xs := xs) (p := fun p => !plain p) pl ex (by rw [px]; rfl)
        exact e (.piece x) (by unfold ruleFt; rw [if_pos n4, q]) H2 d (s1.trans s2) hd
    · rintro σ H1 ⟨x1, rfl, s1, pl⟩
      have q := find_no (p := fun p => !plain p) (ys := xs) fun m v hm hv => pl m v (by rw [List.length_map]; exact hm) hv
      have ft : ruleFt xs = if eS (xs.getD 0 "") || eS (xs.getD 3 "") then some .rule else none := by unfold ruleFt; rw [if_pos n4, q]
      obtain ⟨y0, y1, y2, y3, rfl⟩ := of_four n4
      have hj1 := sameT s1 hj
      refine ⟨_, rfl, j, _, 0, _, rfl, rfl, hj1, atI_nat (j := 0) rfl, rfl, _, rfl, ?_⟩
      have bad : (eS y0 || eS y3) = true → tMkO a.InvalidRule (spErrInit K) [] (tCons (tVar 0) tNil) [some (.ref j), x1] H1 fun cls d H' => E cls d H' := fun b =>
        ⟨_, rfl, by show 1 ≤ 1000; decide, err_made T.e_InvalidRule fun d hd => e .rule (by rw [ft]; exact if_pos b) H1 d s1 hd⟩
      refine ite2 (fun c => ?_) (fun c => ?_)
      · exact bad (by rw [show eS y0 = true from c]; rfl)
      · refine ⟨_, rfl, j, _, 3, _, rfl, rfl, hj1, atI_nat (j := 3) rfl, rfl, _, rfl, ?_⟩
        refine ite2 (fun c3 => ?_) (fun c3 => ?_)
        · exact bad (by rw [show eS y3 = true from c3, Bool.or_true])
        · refine k ?_ H1 s1
          rw [ft]
          refine if_neg fun z => ?_
          rcases Bool.or_eq_true _ _ ▸ z with b | b
          · exact c b
          · exact c3 b
abbrev s_stand_at : Stmt := top 18
theorem sc_stand_at : FnScope ["left", "right", "film", "cut"] ["left", "right", "film", "cut"] (defScope s_stand_at) := ⟨rfl, rfl, rfl, by decide +kernel, rfl, by decide +kernel, by decide +kernel⟩
def spStand : Sp := fun vs H Q _ => ∃ (l r x : Str) (c : Int), vs = [.str l, .str r, .str x, .int c] ∧ Tx 5000 x ∧ Q (.bl (stZ l r x c)) H
theorem ok_stand_at {f : Addr} {fd : FuncData} (F : Fun K "_stand_at" "_stand_at" s_stand_at f fd) (T : Txt K mg a) : FnOk P w K mg base CX0 1 f fd ["left", "right", "film", "cut"] spStand := by
  refine F.ok sc_stand_at (fun vs H Q E h => by obtain ⟨l, r, x, c, rfl, _⟩ := h; rfl) (fun cdv A outer s H vs Q E hr h => ?_)
  refine ⟨_, (pss_cons (ps_if (pt_not (pt_chain op_le op_le pe_int (pv 3) (pe_callB call_len_str (by rfl) T.b_len PySem.boot_len (pa_cons (pv 2) pa_nil)))) (pss_one (ps_ret pe_bl)) pss_nil)
      (pss_one (ps_ret (pe_and (pe_bm PySem.F.plainAttrs_str PySem.F.slot_str_endswith PySem.F.type_str_endswith mt_endsIn (pv 2) (pa_cons (pv 0) (pa_cons pe_int (pa_cons (pv 3) pa_nil)))) (pe_one (pe_bm PySem.F.plainAttrs_str PySem.F.slot_str_startswith PySem.F.type_str_startswith mt_startswith3 (pv 2) (pa_cons (pv 1) (pa_cons (pv 3) pa_nil)))))))), ?_⟩
  obtain ⟨l, r, x, c, rfl, hx, k⟩ := h
  refine ⟨_, rfl, _, _, rfl, rfl, _, rfl, ?_⟩
  refine ite2 (fun c1 => ?_) (fun c1 => ?_)
  · have h0 : 0 ≤ c := of_decide_eq_true c1
    refine ⟨_, rfl, x, rfl, hx.line (by decide), _, _, rfl, rfl, _, rfl, ?_⟩
    refine ite2 (fun c2 => ?_) (fun c2 => ?_)
    · have h1 : ¬ c ≤ x.length := of_decide_eq_false (bn_t c2)
      have e : stZ l r x c = false := by unfold stZ; rw [if_neg fun z => h1 z.2]
      rw [e] at k
      exact k
    · have h1 : c ≤ x.length := of_decide_eq_true (bn_f c2)
      rw [← stZ_in h0 h1] at k
      refine ⟨_, rfl, rfl, _, rfl, _, rfl, _, _, _, _, rfl, rfl, _, rfl, ?_⟩
      refine ite2 (fun c3 => ?_) (fun c3 => ?_)
      · rw [c3, Bool.true_and] at k
        exact ⟨_, rfl, rfl, _, rfl, _, rfl, _, _, _, rfl, rfl, k⟩
      · rw [b_f c3, Bool.false_and] at k
        exact k
  · have e : stZ l r x c = false := by unfold stZ; rw [if_neg fun z => c1 (decide_eq_true z.1)]
    rw [e] at k
    refine ⟨_, rfl, ?_⟩
    exact k
abbrev s_splice_of_films : Stmt := top 17
theorem sc_splice_of_films : FnScope ["rule", "film", "cut", "other", "place"] ["rule", "film", "cut", "other", "place"] (defScope s_splice_of_films) := ⟨rfl, rfl, rfl, by decide +kernel, rfl, by decide +kernel, by decide +kernel⟩
/-- a splice of what is right; xs: the rule -/
def spSpOf (K : PySem.W.Frag) (a : Ad) : Sp := fun vs H Q E => ∃ (j : Addr) (y0 y1 y2 y3 x y : Str) (c p : Int), vs = [.ref j, .str x, .int c, .str y, .int p] ∧ SqT K H j ([y0, y1, y2, y3].map V.str) ∧ Tx 2000 x ∧ Tx 2000 y ∧
  (∀ f, orFt (cutFt (stZ y0 y1 x c) c) (cutFt (stZ y2 y3 y p) p) = some f → Raised a j H E f) ∧ (orFt (cutFt (stZ y0 y1 x c) c) (cutFt (stZ y2 y3 y p) p) = none → Q (.str (splice x c y p)) H)
theorem ok_splice_of {f : Addr} {fd fd3 fdI : FuncData} (F : Fun K "splice_of_films" "splice_of_films" s_splice_of_films f fd) (T : Txt K mg a) (c_init : Cal P w K mg base 1 a.init fdI ["self", "value"] (spErrInit K))
    (c_stand_at : Cal P w K mg base 1 a.stand_at fd3 ["left", "right", "film", "cut"] spStand) : FnOk P w K mg base (L2.CX P w) 4 f fd ["rule", "film", "cut", "other", "place"] (spSpOf K a) := by
  refine F.okX sc_splice_of_films (fun vs H Q E h => by obtain ⟨j, y0, y1, y2, y3, x, y, c, p, rfl, _⟩ := h; rfl) (fun cdv A outer s H vs Q E hr0 h => ?_)
  have hr3 : (Room 3 (A.deeper (envOfC "splice_of_films" (defScope s_splice_of_films) s.heap.objs.size f cdv))) := hr0
  have hr := hr3.mono (show 2 ≤ 3 by decide)
  have hr_stand_at := hr3.mono (show 1 ≤ 3 by decide)
  refine ⟨_, (pss_cons (ps_if (pt_not (pt_val (pe_call c_stand_at.ok hr_stand_at rfl T.g_stand_at T.k_stand_at c_stand_at.binds .nil pass0 (pa_cons (pe_ix ix_tup (pv 0) pe_int (fun _ _ => rfl)) (pa_cons (pe_ix ix_tup (pv 0) pe_int (fun _ _ => rfl)) (pa_cons (pv 1) (pa_cons (pv 2) pa_nil))))))) (pss_one (ps_raise rfl (takes_of rfl rfl rfl rfl) (pmk_oex T.e_NoSplice.oe T.e_NoSplice.iC T.e_NoSplice.tI c_init.ok hr c_init.binds .nil pass0 rfl T.g_NoSplice (pa_cons (pv 2) pa_nil)))) pss_nil)
      (pss_cons (ps_if (pt_not (pt_val (pe_call c_stand_at.ok hr_stand_at rfl T.g_stand_at T.k_stand_at c_stand_at.binds .nil pass0 (pa_cons (pe_ix ix_tup (pv 0) pe_int (fun _ _ => rfl)) (pa_cons (pe_ix ix_tup (pv 0) pe_int (fun _ _ => rfl)) (pa_cons (pv 3) (pa_cons (pv 4) pa_nil))))))) (pss_one (ps_raise rfl (takes_of rfl rfl rfl rfl) (pmk_oex T.e_NoSplice.oe T.e_NoSplice.iC T.e_NoSplice.tI c_init.ok hr c_init.binds .nil pass0 rfl T.g_NoSplice (pa_cons (pv 4) pa_nil)))) pss_nil)
      (pss_one (ps_ret (pe_op op_add_str (pe_slice sl_str (pv 1) po_none (po_some (pv 2))) (pe_slice sl_str (pv 3) (po_some (pv 4)) po_none)))))), ?_⟩
  obtain ⟨j, y0, y1, y2, y3, x, y, c, p, rfl, hj3, hx, hy, er, k⟩ := h
  have hx5 := hx.mono (show 2000 ≤ 5000 by decide)
  have hy5 := hy.mono (show 2000 ≤ 5000 by decide)
  refine ⟨_, rfl, j, _, 0, _, rfl, rfl, hj3, atI_nat (j := 0) rfl, _, rfl, j, _, 1, _, rfl, rfl, hj3, atI_nat (j := 1) rfl, _, rfl, _, rfl, y0, y1, x, c, rfl, hx5, _, rfl, ?_⟩
  refine ite2 (fun c1 => ?_) (fun c1 => ?_)
  · have e1 : cutFt (stZ y0 y1 x c) c = some (.num 6 c) := by rw [bn_t c1]; rfl
    rw [e1, or_some] at er
    exact ⟨_, rfl, by show 1 ≤ 1000; decide, err_made T.e_NoSplice fun d hd => er _ rfl H d (Same.refl _) hd⟩
  · have e1 : cutFt (stZ y0 y1 x c) c = none := by rw [bn_f c1]; rfl
    rw [e1, or_none] at er k
    refine ⟨_, rfl, j, _, 2, _, rfl, rfl, hj3, atI_nat (j := 2) rfl, _, rfl, j, _, 3, _, rfl, rfl, hj3, atI_nat (j := 3) rfl, _, rfl, _, rfl, y2, y3, y, p, rfl, hy5, _, rfl, ?_⟩
    refine ite2 (fun c2 => ?_) (fun c2 => ?_)
    · have e2 : cutFt (stZ y2 y3 y p) p = some (.num 6 p) := by rw [bn_t c2]; rfl
      exact ⟨_, rfl, by show 1 ≤ 1000; decide, err_made T.e_NoSplice fun d hd => er _ e2 H d (Same.refl _) hd⟩
    · have e2 : cutFt (stZ y2 y3 y p) p = none := by rw [bn_f c2]; rfl
      have l1 := cutS_length x none (some c)
      have l2 := cutS_length y (some p) none
      have xl := hx.len
      have yl := hy.len
      exact ⟨_, rfl, _, rfl, _, rfl, x, rfl, hx.line (by decide), _, rfl, _, rfl, _, rfl, y, rfl, hy.line (by decide), _, _, rfl, rfl, small_line (by omega), k e2⟩
abbrev s_spliced : Stmt := top 16
theorem sc_spliced : FnScope ["rule", "film", "cut", "other", "place"] ["rule", "film", "cut", "other", "place"] (defScope s_spliced) := ⟨rfl, rfl, rfl, by decide +kernel, rfl, by decide +kernel, by decide +kernel⟩
/-- spliced(rule, film, cut, other, place) -/
def spSpliced (K : PySem.W.Frag) (a : Ad) : Sp := fun vs H Q E => ∃ (j : Addr) (xs : List Str) (x y : Str) (c p : Int), vs = [.ref j, .str x, .int c, .str y, .int p] ∧ SqT K H j (xs.map V.str) ∧ (∀ y ∈ xs, Tx 5000 y) ∧ Tx 2000 x ∧ Tx 2000 y ∧
  (∀ f, splFt xs x c y p = some f → Raised a j H E f) ∧ (splFt xs x c y p = none → ∀ H', Same H H' → Q (.str (splice x c y p)) H')
theorem ok_spliced {f : Addr} {fd fd1 fd2 fd3 fdI : FuncData} (F : Fun K "spliced" "spliced" s_spliced f fd) (T : Txt K mg a) (c_init : Cal P w K mg base 1 a.init fdI ["self", "value"] (spErrInit K)) (c_check_rule : CalX P w K mg base 4 a.check_rule fd1 ["rule"] (spChkRule K a)) (c_check_film : CalX P w K mg base 3 a.check_film fd2 ["film"] (spChkFilm a))
    (c_splice_of_films : CalX P w K mg base 4 a.splice_of_films fd3 ["rule", "film", "cut", "other", "place"] (spSpOf K a)) : FnOk P w K mg base (L2.CX P w) 5 f fd ["rule", "film", "cut", "other", "place"] (spSpliced K a) := by
  refine F.okX sc_spliced (fun vs H Q E h => by obtain ⟨j, xs, x, y, c, p, rfl, _⟩ := h; rfl) (fun cdv A outer s H vs Q E hr0 h => ?_)
  have hr_check_rule : (Room 4 (A.deeper (envOfC "spliced" (defScope s_spliced) s.heap.objs.size f cdv))) := hr0
  have hr_check_film := hr_check_rule.mono (show 3 ≤ 4 by decide)
  have hr := hr_check_rule.mono (show 2 ≤ 4 by decide)
  have hr_splice_of_films := hr_check_rule
  refine ⟨_, (pss_cons (ps_expr (pe_callS c_check_rule.ok hr_check_rule rfl T.g_check_rule T.k_check_rule c_check_rule.binds (fun σ => passAt (takes_of rfl rfl rfl rfl) σ) (pa_cons (pv 0) pa_nil)))
      (pss_cons (ps_expr (pe_callS c_check_film.ok hr_check_film rfl T.g_check_film T.k_check_film c_check_film.binds (fun σ => passAt (takes_of rfl rfl rfl rfl) σ) (pa_cons (pv 1) pa_nil)))
      (pss_cons (ps_expr (pe_callS c_check_film.ok hr_check_film rfl T.g_check_film T.k_check_film c_check_film.binds (fun σ => passAt (takes_of rfl rfl rfl rfl) σ) (pa_cons (pv 3) pa_nil)))
      (pss_one (ps_ret (pe_callS c_splice_of_films.ok hr_splice_of_films rfl T.g_splice_of_films T.k_splice_of_films c_splice_of_films.binds (fun σ => passAt (takes_of rfl rfl rfl rfl) σ) (pa_cons (pv 0) (pa_cons (pv 1) (pa_cons (pv 2) (pa_cons (pv 3) (pa_cons (pv 4) pa_nil))))))))))), ?_⟩
  obtain ⟨j, xs, x, y, c, p, rfl, hj, hxs, hx, hy, er, k⟩ := h
  have hx5 := hx.mono (show 2000 ≤ 5000 by decide)
  have hy5 := hy.mono (show 2000 ≤ 5000 by decide)
  unfold splFt at er k
  refine ⟨_, rfl, j, xs, rfl, hj, hxs, fun fr H1 s1 => ?_, fun f hf => er f (by rw [hf]; rfl)⟩
  rw [fr, or_none] at er k
  refine ⟨_, rfl, x, rfl, hx5, fun ff H2 s2 => ?_, fun f hf => (by have e := filmFt_is hf; subst e; exact fun H' d s' hd => er _ (by rw [hf]; rfl) H' d (s1.trans s') hd)⟩
  rw [ff, or_none] at er k
  have s12 := s1.trans s2
  refine ⟨_, rfl, y, rfl, hy5, fun fg H3 s3 => ?_, fun f hf => (by have e := filmFt_is hf; subst e; exact fun H' d s' hd => er _ (by rw [hf]; rfl) H' d (s12.trans s') hd)⟩
  rw [fg, or_none] at er k
  have s13 := s12.trans s3
  have n4 : xs.length = 4 := by
    unfold ruleFt at fr
    by_cases z : xs.length = 4
    · exact z
    · rw [if_neg z] at fr
      cases fr
  obtain ⟨y0, y1, y2, y3, rfl⟩ := of_four n4
  have hj3 := sameT s13 hj
  replace er : ∀ f, orFt (cutFt (stZ y0 y1 x c) c) (cutFt (stZ y2 y3 y p) p) = some f → Raised a j H E f := er
  replace k : orFt (cutFt (stZ y0 y1 x c) c) (cutFt (stZ y2 y3 y p) p) = none → ∀ H', Same H H' → Q (.str (splice x c y p)) H' := k
  exact ⟨_, rfl, _, rfl, _, rfl, _, rfl, _, rfl, j, y0, y1, y2, y3, x, y, c, p, rfl, hj3, hx, hy, fun f hf => raised_mono (er f hf) s13, fun hn => k hn _ s13⟩
end
end K7

namespace K7
open PySem PySem.Spec PyProof.Rows L2 Sf
section
variable {P : Program} {w : World} {K : PySem.W.Frag} {mg : Str → Option Value} {base : Heap} {a : Ad}
abbrev s_plain : Stmt := top 27
theorem sc_plain : FnScope ["word"] ["word"] (defScope s_plain) := ⟨rfl, rfl, rfl, by decide +kernel, rfl, by decide +kernel, by decide +kernel⟩
def spPlain : Sp := fun vs H Q _ => ∃ (x : Str), vs = [.str x] ∧ Tx 5000 x ∧ Q (.bl (plain x)) H
theorem ok_plain {f : Addr} {fd : FuncData} (F : Fun K "_law_fm_plain" "_law_fm_plain" s_plain f fd) (T : Txt K mg a) : FnOk P w K mg base CX0 1 f fd ["word"] spPlain := by
  refine F.ok sc_plain (fun vs H Q E h => by obtain ⟨x, rfl, _⟩ := h; rfl) (fun cdv A outer s H vs Q E hr h => ?_)
  refine ⟨_, (pss_one (ps_ret (pe_cmpR op_eq (pe_bm PySem.F.plainAttrs_str PySem.F.slot_str_strip PySem.F.type_str_strip mt_stripChars (pv 0) (pa_cons pe_str pa_nil)) pe_str (nomark _)))), ?_⟩
  obtain ⟨x, rfl, hx, k⟩ := h
  rw [← strip_plain] at k
  exact ⟨_, rfl, rfl, _, abcS, rfl, rfl, hx.line (by decide), rfl, k⟩
/-- a new list that tells a fault -/
def RetFt (H : Hp) (Q : VK) (j : Addr) (f : Option Ft) : Prop := ∀ p H', H p = none → Same H H' → H' p = some (.lst (ftList j f)) → Q (.ref p) H'
abbrev s_join_fault : Stmt := top 28
theorem sc_join_fault : FnScope ["join", "piece"] ["join"] (defScope s_join_fault) := ⟨rfl, rfl, rfl, by decide +kernel, rfl, by decide +kernel, by decide +kernel⟩
def spJoinFault (K : PySem.W.Frag) : Sp := fun vs H Q _ => ∃ (j : Addr) (xs : List Str), vs = [.ref j] ∧ SqT K H j (xs.map V.str) ∧ (∀ x ∈ xs, Tx 5000 x) ∧ RetFt H Q j (ruleFt xs)
theorem ok_join_fault {f : Addr} {fd fd1 : FuncData} (F : Fun K "_law_fm_join_fault" "_law_fm_join_fault" s_join_fault f fd) (T : Txt K mg a) (c_plain : Cal P w K mg base 1 a.plain fd1 ["word"] spPlain) : FnOk P w K mg base CX0 2 f fd ["join"] (spJoinFault K) := by
  refine F.ok sc_join_fault (fun vs H Q E h => by obtain ⟨j, xs, rfl, _⟩ := h; rfl) (fun cdv A outer s H vs Q E hr h => ?_)
  have hr_plain := hr
  refine ⟨_, (pss_cons (ps_if (pt_cmpR op_ne (pe_callB call_len_seq (by rfl) T.b_len PySem.boot_len (pa_cons (pv 0) pa_nil)) pe_int (nomark _)) (pss_one (ps_ret (pe_lst (pa_cons pe_str (pa_cons (pv 0) pa_nil))))) pss_nil)
      (pss_cons (ps_for PassesOwn.never rfl (pi_tup (pv 0)) (pg_name (i := 1) sc_join_fault.nd rfl (Or.inl rfl))
      (pss_one (ps_if (pt_not (pt_val (pe_call c_plain.ok hr_plain rfl T.g_plain T.k_plain c_plain.binds .nil pass0 (pa_cons (pv 1) pa_nil)))) (pss_one (ps_ret (pe_lst (pa_cons pe_str (pa_cons (pv 1) pa_nil))))) pss_nil)))
      (pss_one (ps_ret (pe_ifExp (pt_cmpR op_in_seq pe_str (pe_tup (pa_cons (pe_ix ix_tup (pv 0) pe_int (fun _ _ => rfl)) (pa_cons (pe_ix ix_tup (pv 0) pe_int (fun _ _ => rfl)) pa_nil))) rfl) (pe_lst (pa_cons pe_str (pa_cons (pv 0) pa_nil))) (pe_lst pa_nil)))))), ?_⟩
  obtain ⟨j, xs, rfl, hj, hx, k⟩ := h
  have new : ∀ {H1 : Hp} {p : Addr} {o : HO}, Same H H1 → H1 p = none → H p = none := fun {H1 p o} s1 hp => by
    cases q : H p with
    | none => rfl
    | some o => rw [s1 p o q] at hp; cases hp
  refine ⟨_, rfl, j, _, rfl, .inr hj, rfl, _, rfl, ?_⟩
  rw [List.length_map]
  refine ite2 (fun c => ?_) (fun c => ?_)
  · have n4 : ¬ xs.length = 4 := fun z => by rw [z] at c; exact absurd c (by decide)
    have ft : ruleFt xs = some .rule := by unfold ruleFt; rw [if_neg n4]
    rw [ft] at k
    exact ⟨_, rfl, by show 2 ≤ sizeLine; decide, fun p hp => k p _ hp (same_new (Same.refl H) hp) upd_same⟩
  · have n4 : xs.length = 4 := by
      by_cases z : xs.length = 4
      · exact z
      · exfalso
        apply c
        rw [decide_eq_false (fun y => z (by injection y with y; omega))]
        rfl
    refine ⟨_, rfl, j, rfl, ⟨_, hj⟩, for_tup (xs := xs.map V.str) (fun i σ H' => ∃ x1, σ = [some (.ref j), x1] ∧ Same H H' ∧ ∀ m v, m < i → xs[m]? = some v → (!plain v) = false) ⟨_, rfl, Same.refl _, fun m v z => absurd z (Nat.not_lt_zero _)⟩ (fun i σ H' _ q => by obtain ⟨_, _, s1, _⟩ := q; exact sameT s1 hj) ?_ ?_⟩
    · rintro i v σ H1 hv ⟨x1, rfl, s1, pl⟩
      obtain ⟨x, ex, rfl⟩ := map_at hv
      refine ⟨_, rfl, x, rfl, hx x (List.mem_of_getElem? ex), _, rfl, ?_⟩
      refine ite2 (fun c => ?_) (fun c => ?_)
      · have q := find_at (xs := xs) (p := fun p => !plain p) pl ex c
        have ft : ruleFt xs = some (.piece x) := by unfold ruleFt; rw [if_pos n4, q]
        rw [ft] at k
        exact ⟨_, rfl, by show 2 ≤ sizeLine; decide, fun p hp => k p _ (new (o := .lst []) s1 hp) (same_new s1 hp) upd_same⟩
      · refine ⟨_, rfl, s1, fun m v hm hw => ?_⟩
        rcases Nat.lt_succ_iff_lt_or_eq.mp hm with z | z
        · exact pl m v z hw
        · subst z
          rw [ex] at hw
          cases hw
          exact b_f c
    · rintro σ H1 ⟨x1, rfl, s1, pl⟩
      have q := find_no (p := fun p => !plain p) (ys := xs) fun m v hm hv => pl m v (by rw [List.length_map]; exact hm) hv
      have ft : ruleFt xs = if eS (xs.getD 0 "") || eS (xs.getD 3 "") then some .rule else none := by unfold ruleFt; rw [if_pos n4, q]
      obtain ⟨y0, y1, y2, y3, rfl⟩ := of_four n4
      replace ft : ruleFt [y0, y1, y2, y3] = if (eS y0 || eS y3) = true then some .rule else none := ft
      have hj1 := sameT s1 hj
      refine ⟨_, rfl, j, _, 0, _, rfl, rfl, hj1, atI_nat (j := 0) rfl, _, rfl, j, _, 3, _, rfl, rfl, hj1, atI_nat (j := 3) rfl, by show 2 ≤ sizeLine; decide, fun t ht => ?_⟩
      have fl : ([V.str y0, V.str y3] : List V).all flatV = true := rfl
      refine ⟨t, _, rfl, .inr (SqT.of upd_same), rfl, fl, _, rfl, ?_⟩
      have e : inV (V.str "") [V.str y0, V.str y3] = (eS y0 || eS y3) := by
        have z : ∀ y : Str, eqV (V.str y) (V.str "") = eS y := fun y => by
          unfold eS
          show (y == ("" : Str)) = decide (V.str y = V.str "")
          rw [Bool.eq_iff_iff, beq_iff_eq, decide_eq_true_eq, V.str.injEq]
        show (eqV (V.str y0) (V.str "") || (eqV (V.str y3) (V.str "") || false)) = _
        rw [z, z, Bool.or_false]
      have s2 := same_new (u := .tup [V.str y0, V.str y3]) s1 ht
      refine ite2 (fun c => ?_) (fun c => ?_)
      · have c : inV (V.str "") [V.str y0, V.str y3] = true := c
        rw [e] at c
        rw [ft, if_pos c] at k
        exact ⟨_, rfl, by show 2 ≤ sizeLine; decide, fun p hp => k p _ (new (o := .lst []) s2 hp) (same_new s2 hp) upd_same⟩
      · have c : ¬ inV (V.str "") [V.str y0, V.str y3] = true := c
        rw [e] at c
        rw [ft, if_neg c] at k
        exact ⟨by show 0 ≤ sizeLine; decide, fun p hp => k p _ (new (o := .lst []) s2 hp) (same_new s2 hp) upd_same⟩
/-- what is told of a fault and whose it is -/
def boxList : Option (Addr × List Str × Ft) → List V
  | none => []
  | some (j, _, f) => [.str (ftName f), f.val j]
abbrev s_fault : Stmt := top 29
theorem sc_fault : FnScope ["reels", "joins", "word", "join"] ["reels", "joins"] (defScope s_fault) := ⟨rfl, rfl, rfl, by decide +kernel, rfl, by decide +kernel, by decide +kernel⟩
def spFault (K : PySem.W.Frag) : Sp := fun vs H Q _ => ∃ (r g : Addr) (ws : List Str) (js : List (Addr × List Str)), vs = [.ref r, .ref g] ∧ SqL K H r (ws.map V.str) ∧ (∀ x ∈ ws, Tx 5000 x) ∧ SqL K H g (js.map fun j => V.ref j.1) ∧
  (∀ j ∈ js, SqT K H j.1 (j.2.map V.str) ∧ ∀ x ∈ j.2, Tx 5000 x) ∧ ∀ p H', H p = none → Same H H' → H' p = some (.lst (boxList (boxFt ws js))) → Q (.ref p) H'
theorem ok_fault {f : Addr} {fd fd1 fd2 : FuncData} (F : Fun K "_law_fm_fault" "_law_fm_fault" s_fault f fd) (T : Txt K mg a) (c_plain : Cal P w K mg base 1 a.plain fd1 ["word"] spPlain) (c_join_fault : Cal P w K mg base 2 a.join_fault fd2 ["join"] (spJoinFault K)) :
    FnOk P w K mg base CX0 3 f fd ["reels", "joins"] (spFault K) := by
  refine F.ok sc_fault (fun vs H Q E h => by obtain ⟨r, g, ws, js, rfl, _⟩ := h; rfl) (fun cdv A outer s H vs Q E hr h => ?_)
  have hr_plain := hr.mono (show 1 ≤ 2 by decide)
  have hr_join_fault := hr
  refine ⟨_, (pss_cons (ps_for PassesOwn.never rfl (pi_list (pv 0)) (pg_name (i := 2) sc_fault.nd rfl (Or.inl rfl))
      (pss_one (ps_if (PW.pt (pw_or (pt_cmpR op_eq (pv 2) pe_str (nomark _)) (pw_or1 (pt_not (pt_val (pe_call c_plain.ok hr_plain rfl T.g_plain T.k_plain c_plain.binds .nil pass0 (pa_cons (pv 2) pa_nil))))))) (pss_one (ps_ret (pe_lst (pa_cons pe_str (pa_cons (pv 2) pa_nil))))) pss_nil)))
      (pss_cons (ps_for PassesOwn.never rfl (pi_list (pv 1)) (pg_name (i := 3) sc_fault.nd rfl (Or.inl rfl))
      (pss_one (ps_if (pt_cmpR (op_neD hr.units) (pe_call c_join_fault.ok hr_join_fault rfl T.g_join_fault T.k_join_fault c_join_fault.binds .nil pass0 (pa_cons (pv 3) pa_nil)) (pe_lst pa_nil) (nomark _)) (pss_one (ps_ret (pe_call c_join_fault.ok hr_join_fault rfl T.g_join_fault T.k_join_fault c_join_fault.binds .nil pass0 (pa_cons (pv 3) pa_nil)))) pss_nil)))
      (pss_one (ps_ret (pe_lst pa_nil))))), ?_⟩
  obtain ⟨r, g, ws, js, rfl, hR, hW, hG, hJ, k⟩ := h
  refine ⟨_, rfl, r, rfl, ⟨_, hR⟩, for_list (xs := ws.map V.str) (fun i σ H' => ∃ x1 x2, σ = [some (.ref r), some (.ref g), x1, x2] ∧ Same H H' ∧ ∀ m v, m < i → ws[m]? = some v → filmFt v = none) ⟨_, _, rfl, Same.refl _, fun m v z => absurd z (Nat.not_lt_zero _)⟩ (fun i σ H' _ q => by obtain ⟨_, _, _, s1, _⟩ := q; exact sameL s1 hR) ?_ ?_⟩
  · rintro i v σ H1 hv ⟨x1, x2, rfl, s1, pl⟩
    obtain ⟨x, ex, rfl⟩ := map_at hv
    have ft : filmFt x = if !eS x && plain x then none else some (.film x) := rfl
    have bad : (!eS x && plain x) = false → ∀ (z : Option V) (y : Option V), tLst (tCons (tC (V.str "InvalidFilm")) (tCons (tVar 2) tNil)) [some (.ref r), some (.ref g), some (.str x), y] H1 Q := fun c z y => by
      rw [c, if_neg Bool.false_ne_true] at ft
      have q := some_at pl ex ft
      have bf : boxFt ws js = some (0, [], .film x) := by unfold boxFt; rw [q]
      rw [bf] at k
      exact ⟨_, rfl, by show 2 ≤ sizeLine; decide, fun p hp => k p _ (same_none s1 hp) (same_new s1 hp) upd_same⟩
    refine ⟨_, rfl, rfl, _, rfl, ?_⟩
    refine ite2 (fun c => ?_) (fun c => ?_)
    · exact bad (by rw [show eS x = true from c]; rfl) none x2
    · refine ⟨_, rfl, x, rfl, hW x (List.mem_of_getElem? ex), _, rfl, ?_⟩
      refine ite2 (fun c2 => ?_) (fun c2 => ?_)
      · exact bad (by rw [bn_t c2, Bool.and_false]) none x2
      · refine ⟨_, _, rfl, s1, fun m v hm hw => ?_⟩
        rcases Nat.lt_succ_iff_lt_or_eq.mp hm with z | z
        · exact pl m v z hw
        · subst z
          rw [ex] at hw
          cases hw
          rw [ft]
          have e0 : eS x = false := b_f c
          rw [e0, bn_f c2]
          rfl
  · rintro σ H1 ⟨x1, x2, rfl, s1, pl⟩
    have q := some_no (p := filmFt) (ys := ws) fun m v hm hv => pl m v (by rw [List.length_map]; exact hm) hv
    have bf : boxFt ws js = js.findSome? fun j => (ruleFt j.2).map fun f => (j.1, j.2, f) := by unfold boxFt; rw [q]
    refine ⟨_, rfl, g, rfl, ⟨_, sameL s1 hG⟩, for_list (xs := js.map fun j => V.ref j.1) (fun i σ H' => ∃ x1 x2, σ = [some (.ref r), some (.ref g), x1, x2] ∧ Same H H' ∧ ∀ m v, m < i → js[m]? = some v → ((ruleFt v.2).map fun f => (v.1, v.2, f)) = none) ⟨_, _, rfl, s1, fun m v z => absurd z (Nat.not_lt_zero _)⟩ (fun i σ H' _ q => by obtain ⟨_, _, _, s1, _⟩ := q; exact sameL s1 hG) ?_ ?_⟩
    · rintro i v σ H2 hv ⟨x3, x4, rfl, s2, pj⟩
      obtain ⟨j, ej, rfl⟩ := map_at hv
      obtain ⟨hj, hx⟩ := hJ j (List.mem_of_getElem? ej)
      refine ⟨_, rfl, j.1, j.2, rfl, sameT s2 hj, hx, fun p H3 hp s3 ep => ⟨by show 0 ≤ sizeLine; decide, fun z hz => ?_⟩⟩
      have s4 := same_new (u := .lst []) (s2.trans s3) hz
      refine ⟨_, _, .lst (SqL.of (upd_old ep hz)) (dp_ft (sameT s4 hj) (ruleFt j.2)), .lst (SqL.of upd_same) .nil, shaped_ft hx (ruleFt_ok hx), shaped_ft (o := none) hx (fun _ e => nomatch e), _, rfl, ?_⟩
      rw [eqv_ft]
      refine ite2 (fun c => ?_) (fun c => ?_)
      · refine ⟨_, rfl, j.1, j.2, rfl, sameT s4 hj, hx, fun p2 H4 hp2 s5 ep2 => ?_⟩
        cases qf : ruleFt j.2 with
        | none => rw [qf] at c; cases c
        | some f =>
          have q2 := some_at pj ej (by rw [qf]; rfl)
          rw [bf, q2] at k
          rw [qf] at ep2
          exact k p2 H4 (same_none s4 hp2) (s4.trans s5) ep2
      · refine ⟨_, _, rfl, s4, fun m v hm hw => ?_⟩
        rcases Nat.lt_succ_iff_lt_or_eq.mp hm with z | z
        · exact pj m v z hw
        · subst z
          rw [ej] at hw
          cases hw
          cases qf : ruleFt j.2 with
          | none => rfl
          | some f => rw [qf] at c; exact absurd rfl c
    · rintro σ H2 ⟨x3, x4, rfl, s2, pj⟩
      have q2 := some_no (p := fun j : Addr × List Str => (ruleFt j.2).map fun f => (j.1, j.2, f)) (ys := js) fun m v hm hv => pj m v (by rw [List.length_map]; exact hm) hv
      rw [bf, q2] at k
      exact ⟨by show 0 ≤ sizeLine; decide, fun p hp => k p _ (same_none s2 hp) (same_new s2 hp) upd_same⟩
abbrev s_due : Stmt := top 31
theorem sc_due : FnScope ["fault", "kinds", "kind"] ["fault"] (defScope s_due) := ⟨rfl, rfl, rfl, by decide +kernel, rfl, by decide +kernel, by decide +kernel⟩
/-- _law_fm_due(fault): () or ([what error it is], its value) -/
def spDue (K : PySem.W.Frag) : Sp := fun vs H Q _ => ∃ (p j : Addr) (xs : List Str) (o : Option Ft), vs = [.ref p] ∧ SqL K H p (ftList j o) ∧ SqT K H j (xs.map V.str) ∧ (∀ x ∈ xs, Tx 5000 x) ∧ (∀ f, o = some f → f.Ok) ∧
  (o = none → ∀ t H', H t = none → Same H H' → H' t = some (.tup []) → Q (.ref t) H') ∧
  ∀ f, o = some f → ∀ t q H', H t = none → H q = none → q ≠ t → Same H H' → H' q = some (.lst ((flags f).map V.bl)) → H' t = some (.tup [.ref q, f.val j]) → Q (.ref t) H'
theorem ok_due {f : Addr} {fd : FuncData} (F : Fun K "_law_fm_due" "_law_fm_due" s_due f fd) (T : Txt K mg a) : FnOk P w K mg base CX0 1 f fd ["fault"] (spDue K) := by
  refine F.ok sc_due (fun vs H Q E h => by obtain ⟨p, j, xs, o, rfl, _⟩ := h; rfl) (fun cdv A outer s H vs Q E hr h => ?_)
  refine ⟨_, (pss_cons (ps_if (pt_cmpR (op_eqD hr.units) (pv 0) (pe_lst pa_nil) (nomark _)) (pss_one (ps_ret (pe_tup pa_nil))) pss_nil)
      (pss_cons (ps_set (i := 1) sc_due.nd rfl (Or.inl rfl) (pe_lst (pa_cons pe_str (pa_cons pe_str (pa_cons pe_str (pa_cons pe_str (pa_cons pe_str (pa_cons pe_str pa_nil))))))))
      (pss_one (ps_ret (pe_tup (pa_cons (pe_lc (own := [("kind", 2)]) (g := gName 2) (tt := tYes) rfl sc_due.nd (pi_list (pv 1)) (blkOk_by (own := [("kind", 2)]) (N := ["fault", "kinds", "kind"]) (sc := defScope s_due) (by decide +kernel)) (fun _ _ _ _ _ => pg_name (i := 2) sc_due.nd rfl (Or.inl rfl)) (fun _ _ _ _ _ => pts_nil) (fun _ _ _ _ _ => (pe_cmpR op_eq (pe_ix (show IxR _ (rIxL K) from ix_list) (pv 0) pe_int (fun _ _ => rfl)) (pv 2) (nomark _)))) (pa_cons (pe_ix ix_list (pv 0) pe_int (fun _ _ => rfl)) pa_nil))))))), ?_⟩
  obtain ⟨p, j, xs, o, rfl, hp, hj, hx, ok, k0, k1⟩ := h
  refine ⟨_, rfl, by show 0 ≤ sizeLine; decide, fun z hz => ?_⟩
  have s1 := same_new (u := .lst []) (Same.refl H) hz
  refine ⟨_, _, .lst (sameL s1 hp) (dp_ft (sameT s1 hj) o), .lst (SqL.of upd_same) .nil, shaped_ft hx ok, shaped_ft (o := none) hx (fun _ e => nomatch e), _, rfl, ?_⟩
  rw [eqv_ft]
  refine ite2 (fun c => ?_) (fun c => ?_)
  · have e : o = none := by cases o with | none => rfl | some f => cases c
    exact ⟨by show 0 ≤ sizeLine; decide, fun t ht => k0 e t _ (same_none s1 ht) (same_new s1 ht) upd_same⟩
  · cases o with
    | none => exact absurd rfl c
    | some f =>
      refine ⟨by show 6 ≤ sizeLine; decide, fun kp hkp => ?_⟩
      have s2 := same_new (u := .lst (kindNames.map V.str)) s1 hkp
      refine ⟨_, rfl, kp, rfl, ⟨_, SqL.of upd_same⟩, fun D hD => ?_⟩
      have s3 : ∀ u, Same H (upd (upd (upd H z (.lst [])) kp (.lst (kindNames.map V.str))) D u) := fun u => same_new s2 hD
      refine lc_list (xs := kindNames.map V.str) (fun i H' => H' = upd (upd (upd H z (.lst [])) kp (.lst (kindNames.map V.str))) D (.lst ((kindNames.take i).map fun s => V.bl (decide (V.str (ftName f) = V.str s))))) rfl (fun i H' _ q => by rw [q]; exact SqL.of (upd_old upd_same hD)) ?_ ?_
      · rintro i v H1 hv rfl
        obtain ⟨x, ex, rfl⟩ := map_at hv
        refine ⟨rfl, _, rfl, p, _, 0, _, rfl, rfl, sameL (s3 _) hp, atI_nat (j := 0) rfl, _, rfl, rfl, _, upd_same, ?_, ?_⟩
        · rw [List.length_map, List.length_take]
          exact Nat.lt_of_le_of_lt (Nat.min_le_right _ _) (by decide)
        · rw [upd_upd, List.take_add_one, ex, List.map_append]
          rfl
      · rintro H1 rfl
        rw [List.length_map, List.take_length, flags_eq (ok f rfl)]
        refine ⟨_, rfl, p, _, 1, _, rfl, rfl, sameL (s3 _) hp, atI_nat (j := 1) rfl, by show 2 ≤ sizeLine; decide, fun t ht => ?_⟩
        have hD0 : H D = none := same_none s2 hD
        exact k1 f rfl t D _ (same_none (s3 _) ht) hD0 (fun e => by rw [← e, upd_same] at ht; cases ht) (same_new (s3 _) ht) (upd_old upd_same ht) upd_same
abbrev s_coin : Stmt := top 20
theorem sc_coin : FnScope ["purse", "many", "drawn", "stirred"] ["purse", "many"] (defScope s_coin) := ⟨rfl, rfl, rfl, by decide +kernel, rfl, by decide +kernel, by decide +kernel⟩
theorem ok_coin {f : Addr} {fd : FuncData} (F : Fun K "_law_coin" "_law_coin" s_coin f fd) (T : Txt K mg a) : FnOk P w K mg base CX0 1 f fd ["purse", "many"] spCoin := by
  refine F.ok sc_coin (fun vs H Q E h => by obtain ⟨a, n, m, rfl, _⟩ := h; rfl) (fun cdv A outer s H vs Q E hr h => ?_)
  refine ⟨_, (pss_cons (ps_if (pt_cmpR op_gt (pe_ix ix_list (pv 0) pe_int (fun _ _ => rfl)) pe_int (nomark _)) (pss_cons (ps_set (i := 2) sc_coin.nd rfl (Or.inl rfl) (pe_op op_mod (pe_callTy call_int1 (by rfl) T.b_int (by decide +kernel) (pa_cons (pe_ix ix_list (pv 0) pe_int (fun _ _ => rfl)) pa_nil)) (pv 1)))
      (pss_cons (ps_asg (pe_op op_fdivW (pe_ix ix_list (pv 0) pe_int (fun _ _ => rfl)) (pv 1)) (pg_sub (pv 0) pe_int set_list))
      (pss_one (ps_ret (pv 2))))) pss_nil)
      (pss_cons (ps_asg (pe_op op_add (pe_ix ix_list (pv 0) pe_int (fun _ _ => rfl)) pe_int) (pg_sub (pv 0) pe_int set_list))
      (pss_cons (ps_set (i := 3) sc_coin.nd rfl (Or.inl rfl) (pe_op op_mod (pe_op op_powX (pe_callTy call_int1 (by rfl) T.b_int (by decide +kernel) (pa_cons (pe_op op_add (pe_ix ix_list (pv 0) pe_int (fun _ _ => rfl)) (pe_op op_mulX pe_int (pe_ix ix_list (pv 0) pe_int (fun _ _ => rfl)))) pa_nil)) pe_int) (pe_op op_add (pe_op op_powX pe_int pe_int) pe_int)))
      (pss_cons (ps_set (i := 3) sc_coin.nd rfl (Or.inl rfl) (pe_op op_mod (pe_op op_powX (pe_callTy call_int1 (by rfl) T.b_int (by decide +kernel) (pa_cons (pe_op op_add (pv 3) (pe_op op_mulX pe_int (pe_ix ix_list (pv 0) pe_int (fun _ _ => rfl)))) pa_nil)) pe_int) (pe_op op_add (pe_op op_powX pe_int pe_int) pe_int)))
      (pss_one (ps_ret (pe_op op_mod (pe_callTy call_int1 (by rfl) T.b_int (by decide +kernel) (pa_cons (pe_op op_fdivW (pv 3) pe_int) pa_nil)) (pv 1)))))))), ?_⟩
  obtain ⟨a, n, m, rfl, ⟨p, q, r, e, q0, q1, r0, r1⟩, hn, m0, m1, k⟩ := h
  have md : m.natAbs < 2 ^ 200 := by
    have e2 : ((2 ^ 200 : Nat) : Int) = 2 ^ 200 := by decide
    omega
  refine ⟨_, rfl, _, _, _, _, rfl, rfl, SqL.of e, rfl, _, _, rfl, rfl, _, rfl, ?_⟩
  refine ite2 (fun c => ?_) (fun c => ?_)
  · refine ⟨_, rfl, _, _, _, _, rfl, rfl, SqL.of e, rfl, .inl ⟨_, rfl, _, rfl, _, _, rfl, rfl, m0, ?_⟩⟩
    refine ⟨_, rfl, _, _, _, _, rfl, rfl, SqL.of e, rfl, _, rfl, _, _, rfl, rfl, wide_div m0 md (by decide) (by decide), ?_⟩
    refine ⟨_, rfl, _, _, _, _, rfl, rfl, e, rfl, ?_⟩
    refine ⟨_, rfl, ?_⟩
    exact k _ _ (Int.emod_nonneg _ (by omega)) (Int.emod_lt_of_pos _ m0) ⟨_, q, r, upd_same, q0, q1, r0, by omega⟩ (fun b o nb h => by rw [upd_ne nb]; exact h)
  · refine ⟨_, rfl, _, _, _, _, rfl, rfl, SqL.of e, rfl, _, _, rfl, rfl, ?_⟩
    refine ⟨_, rfl, _, _, _, _, rfl, rfl, e, rfl, ?_⟩
    have r31 : (r + 1).natAbs < 2 ^ 31 := by
      have e2 : (2 ^ 31 : Nat) = 2147483648 := by decide
      omega
    have br := bits_le r31
    have b1 : Builtin.Int.intBits 2038074743 ≤ 31 := bits_le (by decide)
    have b2 : Builtin.Int.intBits 982451653 ≤ 31 := bits_le (by decide)
    refine ⟨_, rfl, _, _, _, _, rfl, rfl, SqL.of upd_same, rfl, _, rfl, _, _, _, _, rfl, rfl, SqL.of upd_same, rfl, _, _, rfl, rfl, ?c1, _, _, rfl, rfl, .inl ⟨_, rfl, _, _, rfl, rfl, ?c2, ?_⟩⟩
    case c1 => show _ + _ ≤ _; omega
    case c2 => exact ⟨by decide, pow_ok (n := 91) (by omega) (by omega) (by decide) (by decide)⟩
    refine ⟨_, _, rfl, rfl, ⟨by decide, pow_ok (n := 4) (by decide) (by decide) (by decide) (by decide)⟩, _, _, rfl, rfl, _, _, rfl, rfl, (by show (0 : Int) < _; decide), ?_⟩
    have s0 := Int.emod_nonneg ((q + 2038074743 * (r + 1)) ^ (3 : Int).toNat) (b := (10 : Int) ^ (25 : Int).toNat + 13) (by decide)
    have s1 := Int.emod_lt_of_pos ((q + 2038074743 * (r + 1)) ^ (3 : Int).toNat) (b := (10 : Int) ^ (25 : Int).toNat + 13) (by decide)
    have s2 : (10 : Int) ^ (25 : Int).toNat + 13 < 2 ^ 90 := by decide
    refine ⟨_, rfl, _, rfl, _, _, _, _, rfl, rfl, SqL.of upd_same, rfl, _, _, rfl, rfl, ?c3, _, _, rfl, rfl, .inl ⟨_, rfl, _, _, rfl, rfl, ?c4, ?_⟩⟩
    case c3 => show _ + _ ≤ _; omega
    case c4 => exact ⟨by decide, pow_ok (n := 91) (by omega) (by omega) (by decide) (by decide)⟩
    refine ⟨_, _, rfl, rfl, ⟨by decide, pow_ok (n := 4) (by decide) (by decide) (by decide) (by decide)⟩, _, _, rfl, rfl, _, _, rfl, rfl, (by show (0 : Int) < _; decide), ?_⟩
    refine ⟨_, rfl, _, _, rfl, rfl, wide_div (b := 11) (by decide) (by decide) (by decide) (by decide), .inl ⟨_, rfl, _, rfl, _, _, rfl, rfl, m0, ?_⟩⟩
    refine k _ _ (Int.emod_nonneg _ (by omega)) (Int.emod_lt_of_pos _ m0) ⟨p, q, r + 1, upd_same, q0, q1, by omega, by omega⟩ (fun b o nb h => by rw [upd_ne nb]; exact h)
abbrev s_word : Stmt := top 22
theorem sc_word : FnScope ["sack", "signs", "low", "high", "picked", "turn"] ["sack", "signs", "low", "high"] (defScope s_word) := ⟨rfl, rfl, rfl, by decide +kernel, rfl, by decide +kernel, by decide +kernel⟩
/-- a drawn text of lo to hi letters out of signs -/
def spWord : Sp := fun vs H Q _ => ∃ (a : Addr) (n lo hi : Nat) (s : Str), vs = [.ref a, .str s, .int lo, .int hi] ∧ Sk n H a ∧ n ≤ 100000000 ∧ lo ≤ hi ∧ hi ≤ 400 ∧ Wd 30 s ∧ 1 ≤ s.length ∧
  ∀ x H', Sk (n + 1 + hi) H' a → Kp a H H' → Wd hi x → lo ≤ x.length → Q (.str x) H'
theorem ok_word {f : Addr} {fd fd1 : FuncData} (F : Fun K "_law_fm_word" "_law_fm_word" s_word f fd) (T : Txt K mg a) (c_coin : Cal P w K mg base 1 a.coin fd1 ["purse", "many"] spCoin) : FnOk P w K mg base CX0 2 f fd ["sack", "signs", "low", "high"] spWord := by
  refine F.ok sc_word (fun vs H Q E h => by obtain ⟨sk, n, lo, hi, s, rfl, _⟩ := h; rfl) (fun cdv A outer s H vs Q E hr h => ?_)
  have hr_coin := hr
  refine ⟨_, (pss_cons (ps_set (i := 4) sc_word.nd rfl (Or.inl rfl) pe_str)
      (pss_cons (ps_for PassesOwn.never rfl (pi_range1 rfl T.b_range (pa_cons (pe_op op_add (pv 2) (pe_call c_coin.ok hr_coin rfl T.g_coin T.k_coin c_coin.binds .nil pass0 (pa_cons (pv 0) (pa_cons (pe_op op_add (pe_op op_sub (pv 3) (pv 2)) pe_int) pa_nil)))) pa_nil)) (pg_name (i := 5) sc_word.nd rfl (Or.inl rfl))
      (pss_one (ps_set (i := 4) sc_word.nd rfl (Or.inl rfl) (pe_op op_add_str (pv 4) (pe_ix ix_str (pv 1) (pe_call c_coin.ok hr_coin rfl T.g_coin T.k_coin c_coin.binds .nil pass0 (pa_cons (pv 0) (pa_cons (pe_callB call_len_str (by rfl) T.b_len PySem.boot_len (pa_cons (pv 1) pa_nil)) pa_nil))) (fun _ _ => rfl))))))
      (pss_one (ps_ret (pv 4))))), ?_⟩
  obtain ⟨sk, n, lo, hi, s, rfl, hsk, hn, hl, hh, hs, hs1, k⟩ := h
  refine ⟨_, rfl, _, rfl, _, rfl, _, rfl, _, _, rfl, rfl, _, _, rfl, rfl, sk, n, _, rfl, hsk, by omega, by omega, ?c0, fun z H1 z0 z1 sk1 kp1 => ?_⟩
  case c0 => exact Int.lt_of_le_of_lt (b := 1000) (by omega) (by decide)
  obtain ⟨j, rfl⟩ := nat_of z0
  refine ⟨_, _, rfl, rfl, (lo : Int) + j, rfl, by omega, by omega, ?_⟩
  have et : ((lo : Int) + j).toNat = lo + j := by omega
  rw [et]
  refine for_range (n := lo + j) (fun i σ H' => ∃ x x1, σ = [some (.ref sk), some (.str s), some (.int lo), some (.int hi), some (.str x), x1] ∧ Sk (n + 1 + i) H' sk ∧ Kp sk H H' ∧ Wd i x ∧ x.length = i) ⟨"", _, rfl, sk1, kp1, ⟨Nat.le_refl _, rfl⟩, rfl⟩ ?_ ?_
  · rintro i σ H2 hi2 ⟨x, x1, rfl, sk2, kp2, wx, lx⟩
    rw [Int.zero_add]
    refine ⟨_, rfl, _, rfl, _, rfl, _, rfl, s, rfl, hs.tx.line (by decide), sk, n + 1 + i, _, rfl, sk2, by omega, by omega, ?c1, fun z H3 z0 z1 sk3 kp3 => ?_⟩
    case c1 => exact Int.lt_of_le_of_lt (b := 1000) (by have := hs.len; omega) (by decide)
    obtain ⟨m, rfl⟩ := nat_of z0
    have hm : m < s.cps.toList.length := by rw [← len_ls]; omega
    have em : s.cps.toList[m]? = some s.cps.toList[m] := List.getElem?_eq_getElem hm
    refine ⟨s, m, _, rfl, rfl, hs.tx.line (by decide), atI_nat em, x, _, rfl, rfl, ?_, ?_⟩
    · rw [lx]
      exact small_line (by show i + 1 ≤ 100000; omega)
    · have wo := Wd.one hs.pl em
      refine ⟨_, _, rfl, sk3, kp2.trans kp3, wx.append wo, ?_⟩
      rw [Str.length_append, lx]
      rfl
  · rintro σ H2 ⟨x, x1, rfl, sk2, kp2, wx, lx⟩
    exact ⟨_, rfl, k x H2 (sk2.mono (by omega)) kp2 (wx.mono (by omega)) (by omega)⟩
abbrev s_signs : Stmt := top 21
theorem sc_signs : FnScope ["sack", "high", "letters", "begin", "skip", "turn"] ["sack", "high"] (defScope s_signs) := ⟨rfl, rfl, rfl, by decide +kernel, rfl, by decide +kernel, by decide +kernel⟩
def spSigns : Sp := fun vs H Q _ => ∃ (a : Addr) (n hi : Nat), vs = [.ref a, .int hi] ∧ Sk n H a ∧ n ≤ 100000000 ∧ 1 ≤ hi ∧ hi ≤ 26 ∧ ∀ x H', Sk (n + 3) H' a → Kp a H H' → Wd hi x → 1 ≤ x.length → Q (.str x) H'
theorem ok_signs {f : Addr} {fd fd1 : FuncData} (F : Fun K "_law_fm_signs" "_law_fm_signs" s_signs f fd) (T : Txt K mg a) (c_coin : Cal P w K mg base 1 a.coin fd1 ["purse", "many"] spCoin) : FnOk P w K mg base CX0 2 f fd ["sack", "high"] spSigns := by
  refine F.ok sc_signs (fun vs H Q E h => by obtain ⟨sk, n, hi, rfl, _⟩ := h; rfl) (fun cdv A outer s H vs Q E hr h => ?_)
  have hr_coin := hr
  refine ⟨_, (pss_cons (ps_asg (pe_tup (pa_cons pe_str (pa_cons (pe_call c_coin.ok hr_coin rfl T.g_coin T.k_coin c_coin.binds .nil pass0 (pa_cons (pv 0) (pa_cons pe_int pa_nil))) pa_nil))) (pg_tup rfl (pgs_cons (pg_name (i := 2) sc_signs.nd rfl (Or.inr rfl)) (pgs_cons (pg_name (i := 3) sc_signs.nd rfl (Or.inr rfl)) pgs_nil))))
      (pss_cons (ps_set (i := 4) sc_signs.nd rfl (Or.inr rfl) (pe_ix ix_list (pe_lst (pa_cons pe_int (pa_cons pe_int (pa_cons pe_int (pa_cons pe_int pa_nil))))) (pe_call c_coin.ok hr_coin rfl T.g_coin T.k_coin c_coin.binds .nil pass0 (pa_cons (pv 0) (pa_cons pe_int pa_nil))) (fun _ _ => rfl)))
      (pss_one (ps_ret (pe_join pe_str (pe_callB cr_sortedS (by rfl) T.b_sorted (by decide +kernel) (pa_cons (pe_lc (own := [("turn", 5)]) (g := gName 5) (tt := tYes) rfl sc_signs.nd (pi_range1 rfl T.b_range (pa_cons (pe_op op_add pe_int (pe_call c_coin.ok hr_coin rfl T.g_coin T.k_coin c_coin.binds .nil pass0 (pa_cons (pv 0) (pa_cons (pv 1) pa_nil)))) pa_nil)) (blkOk_by (own := [("turn", 5)]) (N := ["sack", "high", "letters", "begin", "skip", "turn"]) (sc := defScope s_signs) (by decide +kernel)) (fun _ _ _ _ _ => pg_name (i := 5) sc_signs.nd rfl (Or.inl rfl)) (fun _ _ _ _ _ => pts_nil) (fun _ _ _ _ _ => (pe_ix ix_str (pv 2) (pe_op op_mod (pe_callTy call_int1 (by rfl) T.b_int (by decide +kernel) (pa_cons (pe_op op_add (pv 3) (pe_op op_mulX (pv 4) (pv 5))) pa_nil)) pe_int) (fun _ _ => rfl)))) pa_nil))))))), ?_⟩
  obtain ⟨sk, n, hi, rfl, hsk, hn, h1, h26, k⟩ := h
  refine ⟨_, rfl, sk, n, _, rfl, hsk, by omega, by decide, by decide, fun b H0 b0 b1 sk0 kp0 => ?_⟩
  refine ⟨by show 2 ≤ sizeLine; decide, fun tp htp => ⟨tp, _, rfl, SqT.of upd_same, rfl, _, _, rfl, _, _, rfl, rfl, ?_⟩⟩
  generalize eH1 : upd H0 tp _ = H1
  have sk1 : Sk (n + 1) H1 sk := by rw [← eH1]; exact sk0.new htp
  have kp1 : Kp sk H H1 := by rw [← eH1]; exact kp0.new htp
  refine ⟨by show 4 ≤ sizeLine; decide, fun l hl => ?_⟩
  refine ⟨_, rfl, sk, n + 1, _, rfl, sk1.new hl, by omega, by decide, by decide, fun z H2 z0 z1 sk2 kp2 => ?_⟩
  obtain ⟨m, rfl⟩ := nat_of z0
  have hm : m < 4 := by omega
  have em : ∃ q : Nat, ([V.int 1, V.int 3, V.int 7, V.int 9] : List V)[m]? = some (V.int q) ∧ q ≤ 9 := by
    have : m = 0 ∨ m = 1 ∨ m = 2 ∨ m = 3 := by omega
    rcases this with rfl | rfl | rfl | rfl
    · exact ⟨1, rfl, by decide⟩
    · exact ⟨3, rfl, by decide⟩
    · exact ⟨7, rfl, by decide⟩
    · exact ⟨9, rfl, by decide⟩
  obtain ⟨q, eq, q9⟩ := em
  refine ⟨l, _, (m : Int), _, rfl, rfl, SqL.of (kp2 l _ (sk1.ne hl) upd_same), atI_nat eq, ?_⟩
  refine ⟨⟨_, rfl⟩, _, rfl, _, rfl, sk, n + 2, _, rfl, sk2, by omega, by omega, ?c1, fun t H3 t0 t1 sk3 kp3 => ?_⟩
  case c1 => exact Int.lt_of_le_of_lt (b := 1000) (by omega) (by decide)
  obtain ⟨t, rfl⟩ := nat_of t0
  obtain ⟨b, rfl⟩ := nat_of b0
  refine ⟨_, _, rfl, rfl, (1 : Int) + t, rfl, by omega, by omega, fun D hD => ?_⟩
  have et : ((1 : Int) + t).toNat = 1 + t := by omega
  rw [et]
  have kp : Kp sk H H3 := ((kp1.new hl).trans kp2).trans kp3
  refine lc_range (n := 1 + t) (fun i H' => ∃ ys : List Str, H' = upd H3 D (.lst (ys.map V.str)) ∧ ys.length = i ∧ ∀ y ∈ ys, ∃ c ∈ abcS.cps.toList, y = ⟨#[c]⟩) ⟨[], rfl, rfl, fun y hy => nomatch hy⟩ ?_ ?_
  · rintro i H4 hi4 ⟨ys, rfl, ly, hy⟩
    rw [Int.zero_add]
    have g0 : 0 ≤ ((b : Int) + q * i) % 26 := Int.emod_nonneg _ (by decide)
    have g1 : ((b : Int) + q * i) % 26 < 26 := Int.emod_lt_of_pos _ (by decide)
    obtain ⟨g, eg⟩ := nat_of g0
    have hg : g < 26 := by omega
    have hg' : g < abcS.cps.toList.length := hg
    have ec : abcS.cps.toList[g]? = some abcS.cps.toList[g] := List.getElem?_eq_getElem hg'
    have bq : Builtin.Int.intBits (q : Int) ≤ 4 := bits_in (by omega) (by omega)
    have bi : Builtin.Int.intBits (i : Int) ≤ 6 := bits_in (by omega) (by omega)
    refine ⟨rfl, _, rfl, _, rfl, _, rfl, _, rfl, _, _, rfl, rfl, (by show _ + _ ≤ _; omega), _, _, rfl, rfl, .inl ⟨_, rfl, _, _, rfl, rfl, (by show (0 : Int) < 26; decide), ?_⟩⟩
    refine ⟨abcS, (g : Int), _, rfl, congrArg V.int eg, by decide, atI_nat ec, _, upd_same, ?_, ?_⟩
    · rw [List.length_map, ly]
      exact Nat.lt_of_lt_of_le hi4 (small_line (by omega))
    · refine ⟨ys ++ [⟨#[abcS.cps.toList[g]]⟩], ?_, by rw [List.length_append, ly]; rfl, fun y hy' => ?_⟩
      · rw [upd_upd, List.map_append]
        rfl
      · rcases List.mem_append.mp hy' with z | z
        · exact hy y z
        · exact ⟨_, List.getElem_mem hg', List.mem_singleton.mp z⟩
  · rintro H4 ⟨ys, rfl, ly, hy⟩
    refine ⟨D, ys, rfl, SqL.of upd_same, by omega, fun zs p perm so hp => ?_⟩
    have hz : ∀ y ∈ zs, ∃ c ∈ abcS.cps.toList, y = ⟨#[c]⟩ := fun y hz => hy y (perm.mem_iff.mp hz)
    have wz := wd_join hz
    have lz := perm.length_eq
    refine ⟨_, p, zs, rfl, rfl, .inl (SqL.of upd_same), ?_, ?_⟩
    · have := PySem.StrLaws.sumLen_le (B := 1) zs fun y hz' => by
        obtain ⟨c, _, rfl⟩ := hz y hz'
        exact Nat.le_refl _
      have z0 : (("" : String) : Str).length = 0 := rfl
      rw [z0]
      omega
    · refine k _ _ ((sk3.new hD).new hp) ((kp.new hD).new hp) (wz.1.mono (by omega)) (by rw [wz.2]; omega)
abbrev s_pair : Stmt := top 23
theorem sc_pair : FnScope ["sack", "reels", "signs", "high", "is_first", "joined", "more", "word", "spot", "end"] ["sack", "reels", "signs", "high", "is_first"] (defScope s_pair) := ⟨rfl, rfl, rfl, by decide +kernel, rfl, by decide +kernel, by decide +kernel⟩
/-- a new pair of drawn pieces, the first one not empty -/
def spPair (K : PySem.W.Frag) : Sp := fun vs H Q _ => ∃ (a r : Addr) (n hi : Nat) (ws : List Str) (s : Str) (b : Bool), vs = [.ref a, .ref r, .str s, .int hi, .bl b] ∧ Sk n H a ∧ n ≤ 10000000 ∧ SqL K H r (ws.map V.str) ∧ r ≠ a ∧ ws.length ≤ 1000 ∧ (∀ x ∈ ws, Wd 400 x ∧ 1 ≤ x.length) ∧
  Wd 30 s ∧ 1 ≤ s.length ∧ 1 ≤ hi ∧ hi ≤ 10 ∧ ∀ x y p H', Sk (n + 40) H' a → Kp a H H' → H p = none → H' p = some (.tup [.str x, .str y]) → Wd 10 x → 1 ≤ x.length → Wd 10 y → Q (.ref p) H'
theorem ok_pair {f : Addr} {fd fd1 fd2 : FuncData} (F : Fun K "_law_fm_pair" "_law_fm_pair" s_pair f fd) (T : Txt K mg a) (c_coin : Cal P w K mg base 1 a.coin fd1 ["purse", "many"] spCoin) (c_word : Cal P w K mg base 2 a.word fd2 ["sack", "signs", "low", "high"] spWord) :
    FnOk P w K mg base CX0 3 f fd ["sack", "reels", "signs", "high", "is_first"] (spPair K) := by
  refine F.ok sc_pair (fun vs H Q E h => by obtain ⟨sk, r, n, hi, ws, s, b, rfl, _⟩ := h; rfl) (fun cdv A outer s H vs Q E hr h => ?_)
  have hr_coin := hr.mono (show 1 ≤ 2 by decide)
  have hr_word := hr
  refine ⟨_, (pss_cons (ps_par (i := 5) (j := 6) (by rfl) sc_pair.nd rfl rfl (by decide) rfl rfl (pa_cons (pe_op op_add pe_int (pe_call c_coin.ok hr_coin rfl T.g_coin T.k_coin c_coin.binds .nil pass0 (pa_cons (pv 0) (pa_cons (pv 3) pa_nil)))) (pa_cons (pe_call c_coin.ok hr_coin rfl T.g_coin T.k_coin c_coin.binds .nil pass0 (pa_cons (pv 0) (pa_cons (pe_op op_add (pv 3) pe_int) pa_nil))) pa_nil)) (by rfl))
      (pss_cons (ps_if (PW.pt (pw_or (pt_cmpR (op_eqD hr.units) (pv 1) (pe_lst pa_nil) (nomark _)) (pw_or1 (pt_cmpR op_eq (pe_call c_coin.ok hr_coin rfl T.g_coin T.k_coin c_coin.binds .nil pass0 (pa_cons (pv 0) (pa_cons pe_int pa_nil))) pe_int (nomark _))))) (pss_one (ps_ret (pe_tup (pa_cons (pe_call c_word.ok hr_word rfl T.g_word T.k_word c_word.binds .nil pass0 (pa_cons (pv 0) (pa_cons (pv 2) (pa_cons (pv 5) (pa_cons (pv 5) pa_nil))))) (pa_cons (pe_call c_word.ok hr_word rfl T.g_word T.k_word c_word.binds .nil pass0 (pa_cons (pv 0) (pa_cons (pv 2) (pa_cons (pv 6) (pa_cons (pv 6) pa_nil))))) pa_nil))))) pss_nil)
      (pss_cons (ps_set (i := 7) sc_pair.nd rfl (Or.inl rfl) (pe_ix ix_list (pv 1) (pe_call c_coin.ok hr_coin rfl T.g_coin T.k_coin c_coin.binds .nil pass0 (pa_cons (pv 0) (pa_cons (pe_callB call_len_seq (by rfl) T.b_len PySem.boot_len (pa_cons (pv 1) pa_nil)) pa_nil))) (fun _ _ => rfl)))
      (pss_cons (ps_set (i := 8) sc_pair.nd rfl (Or.inl rfl) (pe_call c_coin.ok hr_coin rfl T.g_coin T.k_coin c_coin.binds .nil pass0 (pa_cons (pv 0) (pa_cons (pe_callB call_len_str (by rfl) T.b_len PySem.boot_len (pa_cons (pv 7) pa_nil)) pa_nil))))
      (pss_cons (ps_if (pt_val (pv 4)) (pss_cons (ps_set (i := 9) sc_pair.nd rfl (Or.inl rfl) (pe_op op_add (pv 8) pe_int))
      (pss_one (ps_ret (pe_tup (pa_cons (pe_slice sl_str (pv 7) (po_some (pe_callB (call_max2 rfl) (by rfl) T.b_max (by decide +kernel) (pa_cons pe_int (pa_cons (pe_op op_sub (pv 9) (pv 5)) pa_nil)))) (po_some (pv 9))) (pa_cons (pe_slice sl_str (pv 7) (po_some (pv 9)) (po_some (pe_op op_add (pv 9) (pv 6)))) pa_nil)))))) pss_nil)
      (pss_one (ps_ret (pe_tup (pa_cons (pe_slice sl_str (pv 7) (po_some (pv 8)) (po_some (pe_op op_add (pv 8) (pv 5)))) (pa_cons (pe_slice sl_str (pv 7) (po_some (pe_callB (call_max2 rfl) (by rfl) T.b_max (by decide +kernel) (pa_cons pe_int (pa_cons (pe_op op_sub (pv 8) (pv 6)) pa_nil)))) (po_some (pv 8))) pa_nil)))))))))), ?_⟩
  obtain ⟨sk, r, n, hi, ws, s, b, rfl, hsk, hn, hR, rsk, lw, hw, hs, hs1, h1, h10, k⟩ := h
  refine ⟨_, rfl, _, rfl, sk, n, _, rfl, hsk, by omega, by omega, Int.lt_of_le_of_lt (b := 1000) (by omega) (by decide), fun z1 H1 z10 z11 sk1 kp1 => ?_⟩
  refine ⟨_, _, rfl, rfl, _, rfl, _, rfl, _, _, rfl, rfl, sk, n + 1, _, rfl, sk1, by omega, by omega, Int.lt_of_le_of_lt (b := 1000) (by omega) (by decide), fun z2 H2 z20 z21 sk2 kp2 => ?_⟩
  obtain ⟨j, rfl⟩ := nat_of z10
  obtain ⟨m, rfl⟩ := nat_of z20
  have kp12 := kp1.trans kp2
  have hR2 := seqL_kp hR rsk kp12
  have txw : ∀ x ∈ ws, Tx 5000 x := fun x hx => (hw x hx).1.tx.mono (by decide)
  refine ⟨_, _, rfl, ?_⟩
  refine ⟨_, rfl, by show 0 ≤ sizeLine; decide, fun z hz => ?_⟩
  have sk3 := sk2.new (o := .lst []) hz
  have kp3 := kp12.new (o := .lst []) hz
  have hR3 := sameL (same_new (u := .lst []) (Same.refl H2) hz) hR2
  -- two drawn words
  have drawn : ∀ (n' : Nat) (H' : Hp), Sk n' H' sk → n' ≤ n + 3 → Kp sk H H' → ∀ x1 x2 x3,
      tTup (tCons (tCall spWord [] E0 (tCons (tVar 0) (tCons (tVar 2) (tCons (tVar 5) (tCons (tVar 5) tNil))))) (tCons (tCall spWord [] E0 (tCons (tVar 0) (tCons (tVar 2) (tCons (tVar 6) (tCons (tVar 6) tNil))))) tNil))
        [some (.ref sk), some (.ref r), some (.str s), some (.int hi), some (.bl b), some (.int (1 + (j : Int))), some (.int m), x1, x2, x3] H' Q := by
    intro n' H' sk' hn' kp' x1 x2 x3
    have ej : (1 + (j : Int)) = ((j + 1 : Nat) : Int) := by omega
    rw [ej]
    refine ⟨_, rfl, _, rfl, _, rfl, _, rfl, sk, n', j + 1, j + 1, s, rfl, sk', by omega, Nat.le_refl _, by omega, hs, hs1, fun x H4 sk4 kp4 wx lx => ?_⟩
    refine ⟨_, rfl, _, rfl, _, rfl, _, rfl, sk, n' + 1 + (j + 1), m, m, s, rfl, sk4, by omega, Nat.le_refl _, by omega, hs, hs1, fun y H5 sk5 kp5 wy ly => ?_⟩
    refine ⟨by show 2 ≤ sizeLine; decide, fun p hp => ?_⟩
    have kp6 := (kp'.trans kp4).trans kp5
    exact k x y p _ ((sk5.new hp).mono (by omega)) (kp6.new hp) (sk_none kp6 sk5 hp) upd_same (wx.mono (by omega)) (by omega) (wy.mono (by omega))
  refine ⟨_, _, .lst hR3 (DpAll.strs ws), .lst (SqL.of upd_same) .nil, shaped_strs txw, shaped_nil, _, rfl, ?_⟩
  rw [eqv_nil]
  refine ite2 (fun c => ?_) (fun c => ?_)
  · exact drawn (n + 2) _ sk3 (by omega) kp3 _ _ _
  · have ws1 : 1 ≤ ws.length := by
      cases ws with
      | nil => exact absurd rfl c
      | cons x t => exact Nat.succ_pos _
    refine ⟨_, rfl, sk, n + 2, _, rfl, sk3, by omega, by decide, by decide, fun z3 H4 z30 z31 sk4 kp4 => ⟨rfl, _, rfl, ?_⟩⟩
    have kpH4 := kp3.trans kp4
    refine ite2 (fun c2 => ?_) (fun c2 => ?_)
    · exact drawn (n + 3) _ sk4 (by omega) kpH4 _ _ _
    · have hR4 := seqL_kp hR3 rsk kp4
      refine ⟨_, rfl, _, rfl, _, rfl, r, _, rfl, .inl hR4, sk, n + 3, _, rfl, sk4, by omega, by rw [List.length_map]; omega, lt200 (by rw [List.length_map]; omega), fun z4 H5 z40 z41 sk5 kp5 => ?_⟩
      rw [List.length_map] at z41
      obtain ⟨i4, rfl⟩ := nat_of z40
      have hi4 : i4 < ws.length := by omega
      have e4 : ws[i4]? = some ws[i4] := List.getElem?_eq_getElem hi4
      obtain ⟨wx, wl⟩ := hw _ (List.getElem_mem hi4)
      generalize ws[i4] = word at e4 wx wl
      have kpH5 := kpH4.trans kp5
      refine ⟨r, _, i4, .str word, rfl, rfl, seqL_kp hR4 rsk kp5, atI_nat (by rw [List.getElem?_map, e4]; rfl), ?_⟩
      have wlen := wx.len
      refine ⟨_, rfl, _, rfl, word, rfl, wx.tx.line (by decide), sk, n + 4, _, rfl, sk5, by omega, by omega, lt200 (by omega), fun z5 H6 z50 z51 sk6 kp6 => ?_⟩
      obtain ⟨i5, rfl⟩ := nat_of z50
      have hi5 : i5 < word.length := by omega
      have kpH6 := kpH5.trans kp6
      have fin : ∀ x y : Str, Wd 10 x → 1 ≤ x.length → Wd 10 y → ∀ p, H6 p = none → Q (.ref p) (upd H6 p (.tup [.str x, .str y])) := fun x y wx' lx wy p hp =>
        k x y p _ ((sk6.new hp).mono (by omega)) (kpH6.new hp) (sk_none kpH6 sk6 hp) upd_same wx' lx wy
      refine ⟨_, rfl, _, rfl, ?_⟩
      refine ite2 (fun c3 => ?_) (fun c3 => ?_)
      · refine ⟨_, rfl, _, _, rfl, rfl, ?_⟩
        refine ⟨_, rfl, _, rfl, _, rfl, _, _, rfl, rfl, _, _, rfl, _, rfl, _, rfl, _, rfl, word, rfl, wx.tx.line (by decide), ?_⟩
        refine ⟨_, rfl, _, rfl, _, rfl, _, rfl, _, rfl, _, _, rfl, rfl, _, rfl, word, rfl, wx.tx.line (by decide), by show 2 ≤ sizeLine; decide, ?_⟩
        have el : (if (i5 : Int) + 1 - (1 + j) > 0 then (i5 : Int) + 1 - (1 + j) else 0) = ((i5 + 1 - (1 + j) : Nat) : Int) := by split <;> omega
        have ee : (i5 : Int) + 1 = ((i5 + 1 : Nat) : Int) := by omega
        have em : ((i5 + 1 : Nat) : Int) + m = ((i5 + 1 + m : Nat) : Int) := by omega
        rw [el, ee, em]
        have l1 := len_cut_in (x := word) (i := i5 + 1 - (1 + j)) (j := i5 + 1) (by omega)
        have l2 := len_cut_in (x := word) (i := i5 + 1) (j := i5 + 1 + m) (by omega)
        exact fin _ _ ⟨by omega, (wx.cut _ _).pl⟩ (by omega) ⟨by omega, (wx.cut _ _).pl⟩
      · refine ⟨_, rfl, _, rfl, _, rfl, _, rfl, _, rfl, _, _, rfl, rfl, _, rfl, word, rfl, wx.tx.line (by decide), ?_⟩
        refine ⟨_, rfl, _, rfl, _, rfl, _, _, rfl, rfl, _, _, rfl, _, rfl, _, rfl, _, rfl, word, rfl, wx.tx.line (by decide), by show 2 ≤ sizeLine; decide, ?_⟩
        have el : (if (i5 : Int) - m > 0 then (i5 : Int) - m else 0) = ((i5 - m : Nat) : Int) := by split <;> omega
        have em : (i5 : Int) + (1 + j) = ((i5 + (1 + j) : Nat) : Int) := by omega
        rw [el, em]
        have l1 := len_cut_in (x := word) (i := i5) (j := i5 + (1 + j)) (by omega)
        have l2 := len_cut_in (x := word) (i := i5 - m) (j := i5) (by omega)
        exact fin _ _ ⟨by omega, (wx.cut _ _).pl⟩ (by omega) ⟨by omega, (wx.cut _ _).pl⟩
abbrev s_join : Stmt := top 24
theorem sc_join : FnScope ["sack", "reels", "signs", "high", "front", "behind", "back", "ahead"] ["sack", "reels", "signs", "high"] (defScope s_join) := ⟨rfl, rfl, rfl, by decide +kernel, rfl, by decide +kernel, by decide +kernel⟩
/-- the four pieces of a right rule -/
structure Jn (xs : List Str) : Prop where
  n4 : xs.length = 4
  wd : ∀ x ∈ xs, Wd 10 x
  l0 : 1 ≤ (xs.getD 0 "").length
  l3 : 1 ≤ (xs.getD 3 "").length
def spJoin (K : PySem.W.Frag) : Sp := fun vs H Q _ => ∃ (a r : Addr) (n hi : Nat) (ws : List Str) (s : Str), vs = [.ref a, .ref r, .str s, .int hi] ∧ Sk n H a ∧ n ≤ 1000000 ∧ SqL K H r (ws.map V.str) ∧ r ≠ a ∧ ws.length ≤ 1000 ∧ (∀ x ∈ ws, Wd 400 x ∧ 1 ≤ x.length) ∧
  Wd 30 s ∧ 1 ≤ s.length ∧ 1 ≤ hi ∧ hi ≤ 10 ∧ ∀ xs p H', Sk (n + 80) H' a → Kp a H H' → H p = none → H' p = some (.tup (xs.map V.str)) → Jn xs → Q (.ref p) H'
theorem ok_join {f : Addr} {fd fd1 : FuncData} (F : Fun K "_law_fm_join" "_law_fm_join" s_join f fd) (T : Txt K mg a) (c_pair : Cal P w K mg base 3 a.pair fd1 ["sack", "reels", "signs", "high", "is_first"] (spPair K)) :
    FnOk P w K mg base CX0 4 f fd ["sack", "reels", "signs", "high"] (spJoin K) := by
  refine F.ok sc_join (fun vs H Q E h => by obtain ⟨sk, r, n, hi, ws, s, rfl, _⟩ := h; rfl) (fun cdv A outer s H vs Q E hr h => ?_)
  have hr_pair := hr
  refine ⟨_, (pss_cons (ps_asg (pe_call c_pair.ok hr_pair rfl T.g_pair T.k_pair c_pair.binds .nil pass0 (pa_cons (pv 0) (pa_cons (pv 1) (pa_cons (pv 2) (pa_cons (pv 3) (pa_cons pe_bl pa_nil)))))) (pg_tup rfl (pgs_cons (pg_name (i := 4) sc_join.nd rfl (Or.inl rfl)) (pgs_cons (pg_name (i := 5) sc_join.nd rfl (Or.inl rfl)) pgs_nil))))
      (pss_cons (ps_asg (pe_call c_pair.ok hr_pair rfl T.g_pair T.k_pair c_pair.binds .nil pass0 (pa_cons (pv 0) (pa_cons (pv 1) (pa_cons (pv 2) (pa_cons (pv 3) (pa_cons pe_bl pa_nil)))))) (pg_tup rfl (pgs_cons (pg_name (i := 6) sc_join.nd rfl (Or.inl rfl)) (pgs_cons (pg_name (i := 7) sc_join.nd rfl (Or.inl rfl)) pgs_nil))))
      (pss_one (ps_ret (pe_tup (pa_cons (pv 4) (pa_cons (pv 5) (pa_cons (pv 7) (pa_cons (pv 6) pa_nil))))))))), ?_⟩
  obtain ⟨sk, r, n, hi, ws, s, rfl, hsk, hn, hR, rsk, lw, hw, hs, hs1, h1, h10, k⟩ := h
  refine ⟨_, rfl, _, rfl, _, rfl, _, rfl, sk, r, n, hi, ws, s, true, rfl, hsk, by omega, hR, rsk, lw, hw, hs, hs1, h1, h10, fun x y p H1 sk1 kp1 hp ep wx lx wy => ?_⟩
  refine ⟨p, _, rfl, SqT.of ep, rfl, _, _, rfl, _, _, rfl, rfl, ?_⟩
  refine ⟨_, rfl, _, rfl, _, rfl, _, rfl, sk, r, n + 40, hi, ws, s, false, rfl, sk1, by omega, seqL_kp hR rsk kp1, rsk, lw, hw, hs, hs1, h1, h10, fun x2 y2 p2 H2 sk2 kp2 hp2 ep2 wx2 lx2 wy2 => ?_⟩
  refine ⟨p2, _, rfl, SqT.of ep2, rfl, _, _, rfl, _, _, rfl, rfl, ?_⟩
  refine ⟨_, rfl, _, rfl, _, rfl, _, rfl, by show 4 ≤ sizeLine; decide, fun q hq => ?_⟩
  have kp := kp1.trans kp2
  refine k [x, y, y2, x2] q _ ((sk2.new hq).mono (by omega)) (kp.new hq) (sk_none kp sk2 hq) upd_same ⟨rfl, fun z hz => ?_, lx, lx2⟩
  simp only [List.mem_cons, List.not_mem_nil, or_false] at hz
  rcases hz with rfl | rfl | rfl | rfl
  · exact wx
  · exact wy
  · exact wy2
  · exact wx2
abbrev s_sites : Stmt := top 25
theorem sc_sites : FnScope ["left", "right", "word", "spots", "spot", "turn"] ["left", "right", "word"] (defScope s_sites) := ⟨rfl, rfl, rfl, by decide +kernel, rfl, by decide +kernel, by decide +kernel⟩
/-- the places of two pieces side by side, found one by one -/
def spSites : Sp := fun vs H Q _ => ∃ (l r x : Str), vs = [.str l, .str r, .str x] ∧ Tx 2000 l ∧ Tx 2000 r ∧ Tx 5000 x ∧ 1 ≤ (l ++ r).length ∧ ∀ p H', H p = none → Same H H' → H' p = some (.lst (vnats (seats l r x))) → Q (.ref p) H'
theorem ok_sites {f : Addr} {fd : FuncData} (F : Fun K "_law_fm_sites" "_law_fm_sites" s_sites f fd) (T : Txt K mg a) : FnOk P w K mg base CX0 1 f fd ["left", "right", "word"] spSites := by
  refine F.ok sc_sites (fun vs H Q E h => by obtain ⟨l, r, x, rfl, _⟩ := h; rfl) (fun cdv A outer s H vs Q E hr h => ?_)
  refine ⟨_, (pss_cons (ps_par (i := 3) (j := 4) (by rfl) sc_sites.nd rfl rfl (by decide) rfl rfl (pa_cons (pe_lst pa_nil) (pa_cons (pe_m1 PySem.F.slot_str_find PySem.F.type_str_find mt_find (pv 2) (pe_op op_add_str (pv 0) (pv 1))) pa_nil)) (by rfl))
      (pss_cons (ps_for PassesOwn.never rfl (pi_range1 rfl T.b_range (pa_cons (pe_callB call_len_str (by rfl) T.b_len PySem.boot_len (pa_cons (pv 2) pa_nil)) pa_nil)) (pg_name (i := 5) sc_sites.nd rfl (Or.inl rfl))
      (pss_cons (ps_if (pt_cmpR op_lt (pv 4) pe_int (nomark _)) (pss_one (ps_ret (pv 3))) pss_nil)
      (pss_cons (ps_expr (pe_bm PySem.F.plainAttrs_list PySem.F.slot_list_append PySem.F.type_list_append mt_append (pv 3) (pa_cons (pe_op op_add (pv 4) (pe_callB call_len_str (by rfl) T.b_len PySem.boot_len (pa_cons (pv 0) pa_nil))) pa_nil)))
      (pss_one (ps_set (i := 4) sc_sites.nd rfl (Or.inl rfl) (pe_bm PySem.F.plainAttrs_str PySem.F.slot_str_find PySem.F.type_str_find mt_find3 (pv 2) (pa_cons (pe_op op_add_str (pv 0) (pv 1)) (pa_cons (pe_op op_add (pv 4) pe_int) pa_nil))))))))
      (pss_one (ps_ret (pv 3))))), ?_⟩
  obtain ⟨l, r, x, rfl, hl, hr', hx, h1, k⟩ := h
  have ln := hl.len
  have rn := hr'.len
  have xn := hx.len
  have lr : l.length + r.length ≤ sizeLine := small_line (by omega)
  refine ⟨by show 0 ≤ sizeLine; decide, fun p hp => ?_⟩
  refine ⟨_, rfl, ⟨_, rfl⟩, _, rfl, _, rfl, l, r, rfl, rfl, lr, _, _, rfl, rfl, ?_⟩
  refine ⟨_, _, rfl, ?_⟩
  rw [find_nxt, seats_eq] at *
  have nx : ∀ i, nxt x (l ++ r) i < 0 ↔ (occs x (l ++ r)).length ≤ i := fun i => by
    unfold nxt
    cases q : (occs x (l ++ r))[i]? with
    | none => exact ⟨fun _ => List.getElem?_eq_none_iff.mp q, fun _ => by decide⟩
    | some v =>
      have := (List.getElem?_eq_some_iff.mp q).1
      exact ⟨fun z => absurd z (by show ¬ ((v : Nat) : Int) < 0; omega), fun z => by omega⟩
  have ol := occs_len (x := x) (y := l ++ r) h1
  have fin : ∀ i, (occs x (l ++ r)).length ≤ i → Q (.ref p) (upd H p (.lst (vnats (((occs x (l ++ r)).take i).map fun c => c + l.length)))) := fun i hi =>
    k p _ hp (same_new (Same.refl H) hp) (by rw [List.take_of_length_le hi]; exact upd_same)
  refine ⟨_, rfl, x, rfl, hx.line (by decide), x.length, rfl, by omega, by omega, ?_⟩
  rw [Int.toNat_natCast]
  refine for_range (n := x.length) (fun i σ H' => ∃ x5, σ = [some (.str l), some (.str r), some (.str x), some (.ref p), some (.int (nxt x (l ++ r) i)), x5] ∧ H' = upd H p (.lst (vnats (((occs x (l ++ r)).take i).map fun c => c + l.length)))) ⟨_, rfl, rfl⟩ ?_ ?_
  · rintro i σ H1 hi ⟨x5, rfl, rfl⟩
    rw [Int.zero_add]
    refine ⟨_, rfl, _, _, rfl, rfl, _, rfl, ?_⟩
    refine ite2 (fun c => ?_) (fun c => ?_)
    · exact ⟨_, rfl, fin i ((nx i).mp (of_decide_eq_true c))⟩
    · have hlt : i < (occs x (l ++ r)).length := Nat.lt_of_not_le fun z => c (decide_eq_true ((nx i).mpr z))
      have ev : (occs x (l ++ r))[i]? = some (occs x (l ++ r))[i] := List.getElem?_eq_getElem hlt
      generalize (occs x (l ++ r))[i] = v at ev
      have en : nxt x (l ++ r) i = (v : Int) := by unfold nxt; rw [ev]
      rw [en]
      refine ⟨_, rfl, .inl ⟨rfl, _, SqL.of upd_same⟩, _, rfl, _, rfl, l, rfl, hl.line (by decide), _, _, rfl, rfl, ?_⟩
      refine ⟨p, _, _, rfl, rfl, upd_same, ?_, ?_⟩
      · unfold vnats
        rw [List.length_map, List.length_map, List.length_take]
        exact Nat.lt_of_le_of_lt (Nat.le_trans (Nat.min_le_right _ _) (Nat.le_trans ol xn)) (by decide)
      · refine ⟨_, rfl, rfl, _, rfl, _, rfl, l, r, rfl, rfl, lr, _, rfl, _, _, rfl, rfl, x, l ++ r, _, rfl, rfl, ?_⟩
        rw [find3_nxt ev]
        refine ⟨_, rfl, ?_⟩
        rw [upd_upd, List.take_add_one, ev, List.map_append]
        unfold vnats
        rw [List.map_append]
        rfl
  · rintro σ H1 ⟨x5, rfl, rfl⟩
    exact ⟨_, rfl, fin _ ol⟩
abbrev s_odd : Stmt := top 26
theorem sc_odd : FnScope ["sack", "signs", "menu", "word", "sign", "spot"] ["sack", "signs"] (defScope s_odd) := ⟨rfl, rfl, rfl, by decide +kernel, rfl, by decide +kernel, by decide +kernel⟩
/-- a text of small signs -/
def spOdd : Sp := fun vs H Q _ => ∃ (a : Addr) (n : Nat) (s : Str), vs = [.ref a, .str s] ∧ Sk n H a ∧ n ≤ 10000000 ∧ Wd 30 s ∧ 1 ≤ s.length ∧ ∀ x H', Sk (n + 10) H' a → Kp a H H' → Tx 6 x → Q (.str x) H'
theorem ok_odd {f : Addr} {fd fd1 fd2 : FuncData} (F : Fun K "_law_fm_odd" "_law_fm_odd" s_odd f fd) (T : Txt K mg a) (c_coin : Cal P w K mg base 1 a.coin fd1 ["purse", "many"] spCoin) (c_word : Cal P w K mg base 2 a.word fd2 ["sack", "signs", "low", "high"] spWord) :
    FnOk P w K mg base CX0 3 f fd ["sack", "signs"] spOdd := by
  refine F.ok sc_odd (fun vs H Q E h => by obtain ⟨sk, n, s, rfl, _⟩ := h; rfl) (fun cdv A outer s H vs Q E hr h => ?_)
  have hr_coin := hr.mono (show 1 ≤ 2 by decide)
  have hr_word := hr
  refine ⟨_, (pss_cons (ps_set (i := 2) sc_odd.nd rfl (Or.inl rfl) pe_str)
      (pss_cons (ps_par (i := 3) (j := 4) (by rfl) sc_odd.nd rfl rfl (by decide) rfl rfl (pa_cons (pe_call c_word.ok hr_word rfl T.g_word T.k_word c_word.binds .nil pass0 (pa_cons (pv 0) (pa_cons (pv 1) (pa_cons pe_int (pa_cons pe_int pa_nil))))) (pa_cons (pe_ix ix_str (pv 2) (pe_call c_coin.ok hr_coin rfl T.g_coin T.k_coin c_coin.binds .nil pass0 (pa_cons (pv 0) (pa_cons pe_int pa_nil))) (fun _ _ => rfl)) pa_nil)) (by rfl))
      (pss_cons (ps_set (i := 5) sc_odd.nd rfl (Or.inl rfl) (pe_call c_coin.ok hr_coin rfl T.g_coin T.k_coin c_coin.binds .nil pass0 (pa_cons (pv 0) (pa_cons (pe_op op_add (pe_callB call_len_str (by rfl) T.b_len PySem.boot_len (pa_cons (pv 3) pa_nil)) pe_int) pa_nil))))
      (pss_one (ps_ret (pe_ifExp (pt_cmpR op_eq (pe_call c_coin.ok hr_coin rfl T.g_coin T.k_coin c_coin.binds .nil pass0 (pa_cons (pv 0) (pa_cons pe_int pa_nil))) pe_int (nomark _)) pe_str (pe_op op_add_str (pe_op op_add_str (pe_slice sl_str (pv 3) po_none (po_some (pv 5))) (pv 4)) (pe_slice sl_str (pv 3) (po_some (pv 5)) po_none)))))))), ?_⟩
  obtain ⟨sk, n, s, rfl, hsk, hn, hs, hs1, k⟩ := h
  refine ⟨_, rfl, _, rfl, sk, n, 0, 5, s, rfl, hsk, by omega, by decide, by decide, hs, hs1, fun x H1 sk1 kp1 wx _ => ?_⟩
  refine ⟨_, rfl, _, rfl, sk, n + 1 + 5, _, rfl, sk1, by omega, by decide, by decide, fun z H2 z0 z1 sk2 kp2 => ?_⟩
  obtain ⟨i, rfl⟩ := nat_of z0
  generalize eM : (" !\"#$&'()*+,-./0123456789:;<=>?@ABCDEFGHIJKLMNOPQRSTUVWXYZ[\\]^_`{|}~" : Str) = menu
  have lM : menu.cps.toList.length = 68 := by rw [← eM]; decide
  have cM : ∀ c ∈ menu.cps.toList, c < 1000 := by rw [← eM]; decide
  have hi : i < menu.cps.toList.length := by omega
  have em : menu.cps.toList[i]? = some menu.cps.toList[i] := List.getElem?_eq_getElem hi
  have lz : menu.length ≤ sizeLine := by rw [len_ls, lM]; decide
  refine ⟨menu, i, _, rfl, rfl, lz, atI_nat em, ?_⟩
  have t1 : Tx 1 ⟨#[menu.cps.toList[i]]⟩ := Tx.one (cM _ (List.getElem_mem hi))
  have xl := wx.len
  refine ⟨_, _, rfl, ?_⟩
  refine ⟨_, rfl, _, rfl, x, rfl, wx.tx.line (by decide), _, _, rfl, rfl, sk, n + 7, _, rfl, sk2.mono (by omega), by omega, by omega, lt200 (by omega), fun z H3 z0 z1 sk3 kp3 => ?_⟩
  obtain ⟨g, rfl⟩ := nat_of z0
  have hg : g ≤ x.length := by omega
  refine ⟨_, rfl, sk, n + 8, _, rfl, sk3, by omega, by decide, by decide, fun z H4 _ _ sk4 kp4 => ⟨rfl, _, rfl, ?_⟩⟩
  have kp := ((kp1.trans kp2).trans kp3).trans kp4
  refine ite2 (fun c => ?_) (fun c => ?_)
  · exact k "" H4 (sk4.mono (by omega)) kp ⟨by decide, fun c hc => nomatch hc⟩
  · have l1 := len_cut_to hg
    have l2 := len_cut_from hg
    have t := ((wx.tx.cut none (some (g : Int))).append t1).append (wx.tx.cut (some (g : Int)) none)
    refine ⟨_, rfl, _, rfl, _, rfl, x, rfl, wx.tx.line (by decide), _, rfl, _, _, rfl, rfl, small_line (by rw [l1]; show g + 1 ≤ _; omega), ?_⟩
    refine ⟨_, rfl, _, rfl, _, rfl, x, rfl, wx.tx.line (by decide), _, _, rfl, rfl, small_line (by rw [Str.length_append, l1, l2]; show g + 1 + _ ≤ _; omega), ?_⟩
    exact k _ H4 (sk4.mono (by omega)) kp ⟨by rw [Str.length_append, Str.length_append, l1, l2]; show g + 1 + _ ≤ _; omega, t.ch⟩
abbrev s_bad_join : Stmt := top 30
theorem sc_bad_join : FnScope ["sack", "signs", "join", "bent", "turn", "way", "spot"] ["sack", "signs", "join"] (defScope s_bad_join) := ⟨rfl, rfl, rfl, by decide +kernel, rfl, by decide +kernel, by decide +kernel⟩
/-- a new tuple: a rule with something other -/
def spBad (K : PySem.W.Frag) : Sp := fun vs H Q _ => ∃ (a j : Addr) (n : Nat) (s : Str) (xs : List Str), vs = [.ref a, .str s, .ref j] ∧ Sk n H a ∧ n ≤ 1000000 ∧ SqT K H j (xs.map V.str) ∧ (∀ x ∈ xs, Tx 10 x) ∧ xs.length ≤ 4 ∧ Wd 30 s ∧ 1 ≤ s.length ∧
  ∀ (ys : List Str) (p : Addr) (H' : Hp), Sk (n + 40) H' a → Kp a H H' → H p = none → H' p = some (.tup (ys.map V.str)) → (∀ y ∈ ys, Tx 10 y) → ys.length ≤ 6 → Q (.ref p) H'
theorem ok_bad_join {f : Addr} {fd fd1 fd2 fd3 : FuncData} (F : Fun K "_law_fm_bad_join" "_law_fm_bad_join" s_bad_join f fd) (T : Txt K mg a) (c_coin : Cal P w K mg base 1 a.coin fd1 ["purse", "many"] spCoin) (c_word : Cal P w K mg base 2 a.word fd2 ["sack", "signs", "low", "high"] spWord)
    (c_odd : Cal P w K mg base 3 a.odd fd3 ["sack", "signs"] spOdd) : FnOk P w K mg base CX0 4 f fd ["sack", "signs", "join"] (spBad K) := by
  refine F.ok sc_bad_join (fun vs H Q E h => by obtain ⟨sk, j, n, s, xs, rfl, _⟩ := h; rfl) (fun cdv A outer s H vs Q E hr h => ?_)
  have hr_coin := hr.mono (show 1 ≤ 3 by decide)
  have hr_word := hr.mono (show 2 ≤ 3 by decide)
  have hr_odd := hr
  refine ⟨_, (pss_cons (ps_set (i := 3) sc_bad_join.nd rfl (Or.inl rfl) (pe_callTy call_list_of (by rfl) T.b_list (by decide +kernel) (pa_cons (pv 2) pa_nil)))
      (pss_cons (ps_for PassesOwn.never rfl (pi_range1 rfl T.b_range (pa_cons (pe_op op_add pe_int (pe_call c_coin.ok hr_coin rfl T.g_coin T.k_coin c_coin.binds .nil pass0 (pa_cons (pv 0) (pa_cons pe_int pa_nil)))) pa_nil)) (pg_name (i := 4) sc_bad_join.nd rfl (Or.inl rfl))
      (pss_cons (ps_par (i := 5) (j := 6) (by rfl) sc_bad_join.nd rfl rfl (by decide) rfl rfl (pa_cons (pe_call c_coin.ok hr_coin rfl T.g_coin T.k_coin c_coin.binds .nil pass0 (pa_cons (pv 0) (pa_cons pe_int pa_nil))) (pa_cons (pe_call c_coin.ok hr_coin rfl T.g_coin T.k_coin c_coin.binds .nil pass0 (pa_cons (pv 0) (pa_cons pe_int pa_nil))) pa_nil)) (by rfl))
      (pss_one (ps_if (pt_cmpR op_eq (pv 5) pe_int (nomark _)) (pss_one (ps_set (i := 3) sc_bad_join.nd rfl (Or.inl rfl) (pe_slice sl_list (pv 3) po_none (po_some (pv 6))))) (pss_one (ps_if (pt_cmpR op_eq (pv 5) pe_int (nomark _)) (pss_one (ps_expr (pe_bm PySem.F.plainAttrs_list PySem.F.slot_list_insert PySem.F.type_list_insert mt_insert (pv 3) (pa_cons (pe_callB (call_min2 rfl) (by rfl) T.b_min (by decide +kernel) (pa_cons (pv 6) (pa_cons (pe_callB call_len_seq (by rfl) T.b_len PySem.boot_len (pa_cons (pv 3) pa_nil)) pa_nil))) (pa_cons (pe_call c_word.ok hr_word rfl T.g_word T.k_word c_word.binds .nil pass0 (pa_cons (pv 0) (pa_cons (pv 1) (pa_cons pe_int (pa_cons pe_int pa_nil))))) pa_nil))))) (pss_one (ps_if (pt_cmpR op_lt (pv 6) (pe_callB call_len_seq (by rfl) T.b_len PySem.boot_len (pa_cons (pv 3) pa_nil)) (nomark _)) (pss_one (ps_asg (pe_ifExp (pt_cmpR op_eq (pv 5) pe_int (nomark _)) (pe_call c_odd.ok hr_odd rfl T.g_odd T.k_odd c_odd.binds .nil pass0 (pa_cons (pv 0) (pa_cons (pv 1) pa_nil))) pe_str) (pg_sub (pv 3) (pv 6) set_list))) pss_nil))))))))
      (pss_one (ps_ret (pe_callTy call_tuple_of (by rfl) T.b_tuple (by decide +kernel) (pa_cons (pv 3) pa_nil)))))), ?_⟩
  obtain ⟨sk, j, n, s, xs, rfl, hsk, hn, hj, hx, lx, hs, hs1, k⟩ := h
  refine ⟨_, rfl, j, _, rfl, .inr hj, fun b hb => ?_⟩
  have skb := hsk.new (o := .lst (xs.map V.str)) hb
  refine ⟨_, rfl, sk, n, _, rfl, skb, by omega, by decide, by decide, fun z H1 z0 z1 sk1 kp1 => ?_⟩
  obtain ⟨t, rfl⟩ := nat_of z0
  have kp01 := ((Kp.refl sk H).new (o := .lst (xs.map V.str)) hb).trans kp1
  refine ⟨_, _, rfl, rfl, (1 : Int) + t, rfl, by omega, by omega, ?_⟩
  have et : ((1 : Int) + t).toNat = 1 + t := by omega
  rw [et]
  refine for_range (n := 1 + t) (fun i σ H' => ∃ c ys x4 x5 x6, σ = [some (.ref sk), some (.str s), some (.ref j), some (.ref c), x4, x5, x6] ∧ H' c = some (.lst (ys.map V.str)) ∧ H c = none ∧ c ≠ sk ∧ (∀ y ∈ ys, Tx 10 y) ∧ ys.length ≤ 4 + i ∧ Sk (n + 1 + 15 * i) H' sk ∧ Kp sk H H')
    ⟨b, xs, _, _, _, rfl, kp1 b _ (hsk.ne hb) upd_same, hb, hsk.ne hb, hx, lx, sk1, kp01⟩ ?_ ?_
  · rintro i σ H2 hi ⟨c, ys, x4, x5, x6, rfl, ec, hc, nc, ty, ly, sk2, kp2⟩
    rw [Int.zero_add]
    refine ⟨_, rfl, sk, _, _, rfl, sk2, by omega, by decide, by decide, fun way H3 w0 w1 sk3 kp3 => ?_⟩
    refine ⟨_, rfl, sk, _, _, rfl, sk3, by omega, by decide, by decide, fun z H4 z0 z1 sk4 kp4 => ?_⟩
    obtain ⟨g, rfl⟩ := nat_of z0
    have ec4 := kp4 c _ nc (kp3 c _ nc ec)
    have kpH4 := (kp2.trans kp3).trans kp4
    refine ⟨_, _, rfl, ?_⟩
    refine ⟨_, rfl, rfl, _, rfl, ?_⟩
    refine ite2 (fun c0 => ?_) (fun c0 => ?_)
    · -- the front alone
      refine ⟨_, rfl, _, rfl, _, rfl, c, _, rfl, SqL.of ec4, fun d hd => ?_⟩
      refine ⟨d, ys.take g, _, _, _, rfl, ?_, sk_none kpH4 sk4 hd, sk4.ne hd, fun y hy => ty y (List.mem_of_mem_take hy), by rw [List.length_take]; omega, (sk4.new hd).mono (by omega), kpH4.new hd⟩
      have e : cutV (ys.map V.str) none (some (g : Int)) = (ys.take g).map V.str := by
        unfold cutV
        rw [HT.sIx_nat, HT.sIx_none, List.drop_zero, Nat.sub_zero, List.length_map, List.map_take]
        by_cases q : g ≤ ys.length
        · rw [Nat.min_eq_left q]
        · rw [Nat.min_eq_right (by omega), List.take_of_length_le (by rw [List.length_map]; exact Nat.le_refl _), List.take_of_length_le (by rw [List.length_map]; omega)]
      rw [e]
      exact upd_same
    · refine ⟨_, rfl, rfl, _, rfl, ?_⟩
      refine ite2 (fun c1 => ?_) (fun c1 => ?_)
      · -- one more
        refine ⟨_, rfl, .inl ⟨rfl, _, SqL.of ec4⟩, _, rfl, _, rfl, c, _, rfl, .inl (SqL.of ec4), _, _, rfl, _, rfl, _, rfl, sk, _, 0, 2, s, rfl, sk4, by omega, by decide, by decide, hs, hs1, fun x H5 sk5 kp5 wx _ => ?_⟩
        have e : ∀ m, (ys.map V.str).take m ++ [V.str x] ++ (ys.map V.str).drop m = (ys.take m ++ [x] ++ ys.drop m).map V.str := fun m => by rw [List.map_append, List.map_append, List.map_take, List.map_drop]; rfl
        refine ⟨c, _, _, _, rfl, rfl, kp5 c _ nc ec4, ?_, by rw [List.length_map]; split <;> omega, by rw [List.length_map]; split <;> omega, ?_⟩
        · rw [List.length_map]
          exact Nat.lt_of_le_of_lt ly (Nat.lt_of_lt_of_le (show 4 + i < 100 by omega) (small_line (by decide)))
        · rw [e]
          refine ⟨c, _, _, _, _, rfl, upd_same, hc, nc, fun y hy => ?_, ?_, sk_mut (sk5.mono (by omega)) nc, kp_mut (kpH4.trans kp5) hc⟩
          · rcases List.mem_append.mp hy with hy | hy
            · rcases List.mem_append.mp hy with hy | hy
              · exact ty y (List.mem_of_mem_take hy)
              · rw [List.mem_singleton.mp hy]
                exact wx.tx.mono (by decide)
            · exact ty y (List.mem_of_mem_drop hy)
          · rw [List.length_append, List.length_append, List.length_take, List.length_drop, List.length_singleton]
            omega
      · refine ⟨_, rfl, _, rfl, c, _, rfl, .inl (SqL.of ec4), _, _, rfl, rfl, _, rfl, ?_⟩
        refine ite2 (fun c2 => ?_) (fun c2 => ?_)
        · -- another one
          have hg : g < ys.length := by
            have := of_decide_eq_true c2
            rw [List.length_map] at this
            omega
          have put : ∀ (x : Str) (H5 : Hp), Tx 10 x → Sk (n + 1 + 15 * i + 12) H5 sk → Kp sk H4 H5 → _ := fun x H5 tx sk5 kp5 => by
            exact (⟨c, (ys.set g x), some (.int i), some (.int way), some (.int g), rfl, by rw [List.map_set]; exact upd_same, hc, nc, fun y hy => by
                rcases List.mem_or_eq_of_mem_set hy with z | z
                · exact ty y z
                · rw [z]; exact tx, by rw [List.length_set]; omega, sk_mut (sk5.mono (by omega)) nc, kp_mut (kpH4.trans kp5) hc⟩ :
              ∃ c' ys' x4 x5 x6, [some (V.ref sk), some (V.str s), some (V.ref j), some (V.ref c), some (V.int i), some (V.int way), some (V.int g)] = [some (V.ref sk), some (V.str s), some (V.ref j), some (V.ref c'), x4, x5, x6] ∧ upd H5 c (.lst ((ys.map V.str).set g (.str x))) c' = some (.lst (ys'.map V.str)) ∧ H c' = none ∧ c' ≠ sk ∧ (∀ y ∈ ys', Tx 10 y) ∧ ys'.length ≤ 4 + (i + 1) ∧ Sk (n + 1 + 15 * (i + 1)) (upd H5 c (.lst ((ys.map V.str).set g (.str x)))) sk ∧ Kp sk H (upd H5 c (.lst ((ys.map V.str).set g (.str x)))))
          have ix : ixN (ys.map V.str).length (g : Int) = some g := ixN_nat (by rw [List.length_map]; exact hg)
          refine ⟨_, rfl, rfl, _, rfl, ?_⟩
          refine ite2 (fun c3 => ?_) (fun c3 => ?_)
          · refine ⟨_, rfl, _, rfl, sk, _, s, rfl, sk4, by omega, hs, hs1, fun x H5 sk5 kp5 tx => ?_⟩
            exact ⟨_, rfl, _, rfl, c, _, _, g, rfl, rfl, kp5 c _ nc ec4, ix, put x H5 (tx.mono (by decide)) (sk5.mono (by omega)) kp5⟩
          · exact ⟨_, rfl, _, rfl, c, _, _, g, rfl, rfl, ec4, ix, put "" H4 ⟨by decide, fun c hc => nomatch hc⟩ (sk4.mono (by omega)) (Kp.refl _ _)⟩
        · exact ⟨c, ys, _, _, _, rfl, ec4, hc, nc, ty, by omega, sk4.mono (by omega), kpH4⟩
  · rintro σ H2 ⟨c, ys, x4, x5, x6, rfl, ec, hc, nc, ty, ly, sk2, kp2⟩
    exact ⟨_, rfl, c, _, rfl, .inl ⟨SqL.of ec, fun d hd => k ys d _ ((sk2.new hd).mono (by omega)) (kp2.new hd) (sk_none kp2 sk2 hd) upd_same ty (by omega)⟩⟩
abbrev s_full : Stmt := top 32
theorem sc_full : FnScope ["sack", "signs", "join", "size", "word", "turn", "drawn", "part"] ["sack", "signs", "join", "size"] (defScope s_full) := ⟨rfl, rfl, rfl, by decide +kernel, rfl, by decide +kernel, by decide +kernel⟩
/-- a film of at most so many pictures -/
def spFull (K : PySem.W.Frag) : Sp := fun vs H Q _ => ∃ (a j : Addr) (n size : Nat) (s : Str) (xs : List Str), vs = [.ref a, .str s, .ref j, .int size] ∧ Sk n H a ∧ n ≤ 1000000 ∧ SqT K H j (xs.map V.str) ∧ Jn xs ∧ j ≠ a ∧ Wd 30 s ∧ 1 ≤ s.length ∧ 1 ≤ size ∧ size ≤ 400 ∧
  ∀ x H', Sk (n + 60) H' a → Kp a H H' → Wd size x → 1 ≤ x.length → Q (.str x) H'
theorem ok_full {f : Addr} {fd fd1 fd2 : FuncData} (F : Fun K "_law_fm_full" "_law_fm_full" s_full f fd) (T : Txt K mg a) (c_coin : Cal P w K mg base 1 a.coin fd1 ["purse", "many"] spCoin) (c_word : Cal P w K mg base 2 a.word fd2 ["sack", "signs", "low", "high"] spWord) :
    FnOk P w K mg base CX0 3 f fd ["sack", "signs", "join", "size"] (spFull K) := by
  refine F.ok sc_full (fun vs H Q E h => by obtain ⟨sk, j, n, size, s, xs, rfl, _⟩ := h; rfl) (fun cdv A outer s H vs Q E hr h => ?_)
  have hr_coin := hr.mono (show 1 ≤ 2 by decide)
  have hr_word := hr
  refine ⟨_, (pss_cons (ps_set (i := 4) sc_full.nd rfl (Or.inl rfl) pe_str)
      (pss_cons (ps_for PassesOwn.never rfl (pi_range1 rfl T.b_range (pa_cons (pe_op op_add pe_int (pe_call c_coin.ok hr_coin rfl T.g_coin T.k_coin c_coin.binds .nil pass0 (pa_cons (pv 0) (pa_cons pe_int pa_nil)))) pa_nil)) (pg_name (i := 5) sc_full.nd rfl (Or.inl rfl))
      (pss_cons (ps_set (i := 6) sc_full.nd rfl (Or.inl rfl) (pe_call c_word.ok hr_word rfl T.g_word T.k_word c_word.binds .nil pass0 (pa_cons (pv 0) (pa_cons (pv 1) (pa_cons pe_int (pa_cons pe_int pa_nil))))))
      (pss_cons (ps_set (i := 7) sc_full.nd rfl (Or.inl rfl) (pe_ix ix_list (pe_lst (pa_cons (pe_op op_add_str (pe_ix ix_tup (pv 2) pe_int (fun _ _ => rfl)) (pe_ix ix_tup (pv 2) pe_int (fun _ _ => rfl))) (pa_cons (pe_op op_add_str (pe_ix ix_tup (pv 2) pe_int (fun _ _ => rfl)) (pe_ix ix_tup (pv 2) pe_int (fun _ _ => rfl))) (pa_cons (pe_ix ix_tup (pv 2) pe_int (fun _ _ => rfl)) (pa_cons (pv 6) pa_nil))))) (pe_call c_coin.ok hr_coin rfl T.g_coin T.k_coin c_coin.binds .nil pass0 (pa_cons (pv 0) (pa_cons pe_int pa_nil))) (fun _ _ => rfl)))
      (pss_one (ps_if (pt_cmpR op_le (pe_op op_add (pe_callB call_len_str (by rfl) T.b_len PySem.boot_len (pa_cons (pv 4) pa_nil)) (pe_callB call_len_str (by rfl) T.b_len PySem.boot_len (pa_cons (pv 7) pa_nil))) (pv 3) (nomark _)) (pss_one (ps_set (i := 4) sc_full.nd rfl (Or.inl rfl) (pe_op op_add_str (pv 4) (pv 7)))) pss_nil)))))
      (Evl.pss_cut (ps_set (i := 4) sc_full.nd rfl (Or.inl rfl) (pe_ifExp (pt_cmpR op_ne (pv 4) pe_str (nomark _)) (pv 4) (pe_ix ix_str (pv 1) pe_int (fun _ _ => rfl))))
      (pss_one (ps_ret (pe_op op_repS (pv 4) (pe_op op_add pe_int (pe_call c_coin.ok hr_coin rfl T.g_coin T.k_coin c_coin.binds .nil pass0 (pa_cons (pv 0) (pa_cons (pe_op op_fdivW (pv 3) (pe_callB call_len_str (by rfl) T.b_len PySem.boot_len (pa_cons (pv 4) pa_nil))) pa_nil)))))))))), ?_⟩
  obtain ⟨sk, j, n, size, s, xs, rfl, hsk, hn, hj, jn, jsk, hs, hs1, zs1, z400, k⟩ := h
  obtain ⟨y0, y1, y2, y3, rfl⟩ := of_four jn.n4
  have w0 := jn.wd y0 (by simp)
  have w1 := jn.wd y1 (by simp)
  have w2 := jn.wd y2 (by simp)
  have w3 := jn.wd y3 (by simp)
  refine ⟨_, rfl, sk, n, _, rfl, hsk, by omega, by decide, by decide, fun z H1 z0 z1 sk1 kp1 => ?_⟩
  obtain ⟨t, rfl⟩ := nat_of z0
  refine ⟨_, _, rfl, rfl, (1 : Int) + t, rfl, by omega, by omega, ?_⟩
  have et : ((1 : Int) + t).toNat = 1 + t := by omega
  rw [et]
  refine for_range (n := 1 + t) (fun i σ H' => ∃ x x5 x6 x7, σ = [some (.ref sk), some (.str s), some (.ref j), some (.int size), some (.str x), x5, x6, x7] ∧ Sk (n + 1 + 5 * i) H' sk ∧ Kp sk H H' ∧ Wd size x)
    ⟨"", _, _, _, rfl, sk1, kp1, ⟨Nat.zero_le _, rfl⟩⟩ ?_ ?_
  · rintro i σ H2 hi ⟨x, x5, x6, x7, rfl, sk2, kp2, wx⟩
    rw [Int.zero_add]
    refine ⟨_, rfl, _, rfl, sk, _, 0, 3, s, rfl, sk2, by omega, by decide, by decide, hs, hs1, fun d H3 sk3 kp3 wd _ => ?_⟩
    have kpH3 := kp2.trans kp3
    have hj3 := seqT_kp hj jsk kpH3
    have l01 := w0.append w1
    have l23 := w2.append w3
    have b0 := w0.len
    have b1 := w1.len
    have b2 := w2.len
    have b3 := w3.len
    refine ⟨_, rfl, j, _, 0, _, rfl, rfl, hj3, atI_nat (j := 0) rfl, _, rfl, j, _, 1, _, rfl, rfl, hj3, atI_nat (j := 1) rfl, y0, y1, rfl, rfl, small_line (by omega), ?_⟩
    refine ⟨_, rfl, j, _, 2, _, rfl, rfl, hj3, atI_nat (j := 2) rfl, _, rfl, j, _, 3, _, rfl, rfl, hj3, atI_nat (j := 3) rfl, y2, y3, rfl, rfl, small_line (by omega), ?_⟩
    refine ⟨_, rfl, j, _, 0, _, rfl, rfl, hj3, atI_nat (j := 0) rfl, _, rfl, by show 4 ≤ sizeLine; decide, fun l hl => ?_⟩
    refine ⟨_, rfl, sk, _, _, rfl, sk3.new hl, by omega, by decide, by decide, fun z H4 z0 z1 sk4 kp4 => ?_⟩
    have el := kp4 l _ (sk3.ne hl) upd_same
    have kpH4 := (kpH3.new hl).trans kp4
    obtain ⟨g, rfl⟩ := nat_of z0
    have hg : g < 4 := by omega
    have pick : ∃ p, ([V.str (y0 ++ y1), V.str (y2 ++ y3), V.str y0, V.str d] : List V)[g]? = some (.str p) ∧ Wd 20 p := by
      have : g = 0 ∨ g = 1 ∨ g = 2 ∨ g = 3 := by omega
      rcases this with rfl | rfl | rfl | rfl
      · exact ⟨_, rfl, l01.mono (by decide)⟩
      · exact ⟨_, rfl, l23.mono (by decide)⟩
      · exact ⟨_, rfl, w0.mono (by decide)⟩
      · exact ⟨_, rfl, wd.mono (by decide)⟩
    obtain ⟨p, ep, wp⟩ := pick
    refine ⟨l, _, g, _, rfl, rfl, SqL.of el, atI_nat ep, ?_⟩
    have xl := wx.len
    have pl := wp.len
    refine ⟨_, rfl, x, rfl, small_line (by omega), _, rfl, p, rfl, small_line (by omega), _, _, rfl, rfl, _, rfl, _, _, rfl, rfl, _, rfl, ?_⟩
    refine ite2 (fun c => ?_) (fun c => ?_)
    · have c' : (x.length : Int) + p.length ≤ size := of_decide_eq_true c
      exact ⟨_, rfl, _, rfl, x, p, rfl, rfl, small_line (by omega), _, _, _, _, rfl, sk4.mono (by omega), kpH4, ⟨by rw [Str.length_append]; omega, (wx.append wp).pl⟩⟩
    · exact ⟨_, _, _, _, rfl, sk4.mono (by omega), kpH4, wx⟩
  · rintro σ H2 ⟨x, x5, x6, x7, rfl, sk2, kp2, wx⟩
    refine ⟨fun σ H' => ∃ x, σ = [some (.ref sk), some (.str s), some (.ref j), some (.int size), some (.str x), x5, x6, x7] ∧ Sk (n + 50) H' sk ∧ Kp sk H H' ∧ Wd size x ∧ 1 ≤ x.length, ?_, ?_⟩
    · refine ⟨_, rfl, rfl, _, rfl, ?_⟩
      refine ite2 (fun c => ?_) (fun c => ?_)
      · have e0 : eS x = false := bn_t c
        have : x.length ≠ 0 := fun z => by rw [eS_iff.mpr z] at e0; cases e0
        exact ⟨_, rfl, x, rfl, sk2.mono (by omega), kp2, wx, by omega⟩
      · have h0 : 0 < s.cps.toList.length := by rw [← len_ls]; omega
        have e0 : s.cps.toList[0]? = some s.cps.toList[0] := List.getElem?_eq_getElem h0
        exact ⟨_, rfl, s, 0, _, rfl, rfl, hs.tx.line (by decide), atI_nat (j := 0) e0, _, rfl, sk2.mono (by omega), kp2, (Wd.one hs.pl e0).mono zs1, Nat.le_refl _⟩
    · rintro σ H3 ⟨y, rfl, sk3, kp3, wy, ly⟩
      have yl := wy.len
      refine ⟨_, rfl, _, rfl, _, rfl, _, rfl, y, rfl, small_line (by omega), ?_⟩
      have q1 : 1 ≤ size / y.length := (Nat.le_div_iff_mul_le (by omega)).mpr (by omega)
      have q2 : size / y.length ≤ size := Nat.div_le_self _ _
      have q3 : (size / y.length) * y.length ≤ size := Nat.div_mul_le_self _ _
      have eq : (size : Int) / (y.length : Int) = ((size / y.length : Nat) : Int) := rfl
      refine ⟨_, _, rfl, rfl, wide_div (b := 20) (by omega) (by omega) (by decide) (by decide), sk, _, _, rfl, sk3, by omega, by rw [eq]; omega, lt200 (by rw [eq]; omega), fun z H4 z0 z1 sk4 kp4 => ?_⟩
      rw [eq] at z1
      obtain ⟨g, rfl⟩ := nat_of z0
      have hg : 1 + g ≤ size / y.length := by omega
      have hm : (1 + g) * y.length ≤ size := Nat.le_trans (Nat.mul_le_mul_right _ hg) q3
      have hm' : y.length * (1 + g) ≤ size := by rw [Nat.mul_comm]; exact hm
      have eg : (1 : Int) + g = ((1 + g : Nat) : Int) := by omega
      refine ⟨_, _, rfl, rfl, y, 1 + g, rfl, congrArg V.int eg, by omega, by omega, ?_⟩
      have lm := Sf.len_mul y (1 + g)
      exact k _ _ (sk4.mono (by omega)) (kp3.trans kp4) ⟨by rw [lm]; exact hm, plain_mul wy.pl _⟩ (by rw [lm]; exact Nat.le_trans ly (Nat.le_mul_of_pos_left _ (by omega)))
end
end K7

namespace K7
open PySem PySem.Spec PyProof.Rows L2 Sf
section
variable {P : Program} {w : World} {K : PySem.W.Frag} {mg : Str → Option Value} {base : Heap} {a : Ad}
abbrev s_told : Stmt := top 34
theorem sc_told : FnScope ["join", "word", "gap", "mate", "slot", "by_name", "shows", "answer", "e", "flags"] ["join", "word", "gap", "mate", "slot", "by_name"] (defScope s_told) := ⟨rfl, rfl, rfl, by decide +kernel, rfl, by decide +kernel, by decide +kernel⟩
/-- _law_told(join, word, gap, mate, slot, by_name): what is told, or what the error shows -/
def spTold (K : PySem.W.Frag) : Sp := fun vs H Q _ => ∃ (j : Addr) (xs : List Str) (x y : Str) (c p : Int) (b : Bool), vs = [.ref j, .str x, .int c, .str y, .int p, .bl b] ∧ SqT K H j (xs.map V.str) ∧ (∀ y ∈ xs, Tx 5000 y) ∧ Tx 2000 x ∧ Tx 2000 y ∧ (c.natAbs < 2 ^ 200 ∧ p.natAbs < 2 ^ 200) ∧
  (∀ f, splFt xs x c y p = some f → ∀ t q H', H t = none → Same H H' → H' t = some (.tup [.ref q, f.val j, .str ""]) → H' q = some (.lst ((flags f).map V.bl)) → Q (.ref t) H') ∧
  (splFt xs x c y p = none → ∀ t q H', H t = none → Same H H' → H' t = some (.tup [.ref q, .str "", .str (splice x c y p)]) → H' q = some (.lst []) → Q (.ref t) H')
theorem ok_told {f : Addr} {fd fd1 : FuncData} (F : Fun K "_law_told" "_law_told" s_told f fd) (T : Txt K mg a) (c_spliced : CalX P w K mg base 5 a.spliced fd1 ["rule", "film", "cut", "other", "place"] (spSpliced K a))
    (kb_spliced : KBn K fd1 ["rule", "film", "cut", "other", "place"] 0 ["rule", "film", "cut", "other", "place"] (fun us ws => us ++ ws) (fun vs zs => vs ++ zs)) :
    FnOk P w K mg base CX0 6 f fd ["join", "word", "gap", "mate", "slot", "by_name"] (spTold K) := by
  refine F.ok sc_told (fun vs H Q E h => by obtain ⟨j, xs, x, y, c, p, b, rfl, _⟩ := h; rfl) (fun cdv A outer s H vs Q E hr h => ?_)
  have hr_spliced : Room 5 (A.deeper (envOfC "_law_told" (defScope s_told) s.heap.objs.size f cdv)) := hr
  refine ⟨_, (pss_cons (ps_set (i := 6) sc_told.nd rfl (Or.inl rfl) (pe_tup (pa_cons (pe_lst pa_nil) (pa_cons pe_str (pa_cons pe_str pa_nil)))))
      (pss_cons (ps_try_as (i := 8) (Wout := fun _ _ _ _ => False) rfl rfl sc_told.nd rfl rfl ⟨rfl, by decide, Or.inl T.g_FilmError⟩ takes0
      (fun W pn xe tk _ => (pss_one (ps_if (pt_val (pv 5)) (pss_cons (ps_set (i := 7) sc_told.nd rfl (Or.inl rfl) (pe_callKS c_spliced.ok hr_spliced rfl T.g_spliced T.k_spliced kb_spliced (fun σ => passAt tk σ) (pk_cons (pv 0) (pk_cons (pv 1) (pk_cons (pv 2) (pk_cons (pv 3) (pk_cons (pv 4) pk_nil)))))))
      (pss_one (ps_set (i := 6) sc_told.nd rfl (Or.inl rfl) (pe_tup (pa_cons (pe_lst pa_nil) (pa_cons pe_str (pa_cons (pv 7) pa_nil))))))) (pss_one (ps_set (i := 6) sc_told.nd rfl (Or.inl rfl) (pe_tup (pa_cons (pe_lst pa_nil) (pa_cons pe_str (pa_cons (pe_callS c_spliced.ok hr_spliced rfl T.g_spliced T.k_spliced c_spliced.binds (fun σ => passAt tk σ) (pa_cons (pv 0) (pa_cons (pv 1) (pa_cons (pv 2) (pa_cons (pv 3) (pa_cons (pv 4) pa_nil)))))) pa_nil)))))))))
      (fun ea oe cls d pn hz hf => (pss_cons (ps_set (i := 9) sc_told.nd rfl (Or.inl rfl) (pe_lst (pa_cons (pe_callB (call_isX hz hf) (by rfl) T.b_isinstance (by decide +kernel) (pa_cons (pv 8) (pa_cons (pe_glob (v := .ref a.InvalidFilm) rfl T.g_InvalidFilm rfl) pa_nil))) (pa_cons (pe_callB (call_isX hz hf) (by rfl) T.b_isinstance (by decide +kernel) (pa_cons (pv 8) (pa_cons (pe_glob (v := .ref a.InvalidPiece) rfl T.g_InvalidPiece rfl) pa_nil))) (pa_cons (pe_callB (call_isX hz hf) (by rfl) T.b_isinstance (by decide +kernel) (pa_cons (pv 8) (pa_cons (pe_glob (v := .ref a.InvalidRule) rfl T.g_InvalidRule rfl) pa_nil))) pa_nil)))))
      (pss_cons (ps_set (i := 9) sc_told.nd rfl (Or.inl rfl) (pe_op op_cat (pv 9) (pe_lst (pa_cons (pe_callB (call_isX hz hf) (by rfl) T.b_isinstance (by decide +kernel) (pa_cons (pv 8) (pa_cons (pe_glob (v := .ref a.UnknownStrip) rfl T.g_UnknownStrip rfl) pa_nil))) (pa_cons (pe_callB (call_isX hz hf) (by rfl) T.b_isinstance (by decide +kernel) (pa_cons (pv 8) (pa_cons (pe_glob (v := .ref a.UnknownRule) rfl T.g_UnknownRule rfl) pa_nil))) (pa_cons (pe_callB (call_isX hz hf) (by rfl) T.b_isinstance (by decide +kernel) (pa_cons (pv 8) (pa_cons (pe_glob (v := .ref a.NoSplice) rfl T.g_NoSplice rfl) pa_nil))) pa_nil))))))
      (pss_one (ps_set (i := 6) sc_told.nd rfl (Or.inl rfl) (pe_tup (pa_cons (pv 9) (pa_cons (pe_errv hz hf (pv 8)) (pa_cons pe_str pa_nil))))))))))
      (pss_one (ps_ret (pv 6))))), ?_⟩
  obtain ⟨j, xs, x, y, c, p, b, rfl, hj, hxs, hx, hy, ⟨hc, hp⟩, ke, kn⟩ := h
  refine ⟨by show 0 ≤ sizeLine; decide, fun p1 h1 => ⟨by show 3 ≤ sizeLine; decide, fun p3 h3 => ?_⟩⟩
  have s3 := same_new (u := .tup [.ref p1, .str "", .str ""]) (same_new (u := .lst []) (Same.refl H) h1) h3
  generalize upd (upd H p1 (.lst [])) p3 (.tup [.ref p1, .str "", .str ""]) = H3 at s3
  refine ⟨_, rfl, b, rfl, ?_⟩
  have okf : ∀ f, splFt xs x c y p = some f → f.Ok := orFt_ok (ruleFt_ok hxs) (orFt_ok (filmFt_ok (hx.mono (by decide))) (orFt_ok (filmFt_ok (hy.mono (by decide))) (orFt_ok (cutFt_ok hc) (cutFt_ok hp))))
  refine' (fun (er : (fun W : XK => ∀ H4, Same H H4 → ∀ f, splFt xs x c y p = some f → Raised a j H4 W f) _) => ite2 (fun c1 => ?g1) (fun c1 => ?g2)) ?er
  case g1 =>
    refine ⟨_, rfl, _, rfl, _, rfl, _, rfl, _, rfl, rfl, j, xs, x, y, c, p, rfl, sameT s3 hj, hxs, hx, hy, fun f hf => ?e1, fun ff H5 s5 => ?_⟩
    case e1 =>
      have q := er _ s3 f hf
      unfold Raised at q ⊢
      exact q
    have s6 := s3.trans s5
    refine ⟨by show 0 ≤ sizeLine; decide, fun q hq => ⟨_, rfl, by show 3 ≤ sizeLine; decide, fun t ht => ⟨_, rfl, ?_⟩⟩⟩
    have s7 := same_new (u := .lst []) s6 hq
    exact kn ff t q _ (same_none s7 ht) (same_new s7 ht) upd_same (upd_old upd_same ht)
  case g2 =>
    refine ⟨by show 0 ≤ sizeLine; decide, fun q hq => ?_⟩
    have s4 := same_new (u := .lst []) s3 hq
    refine ⟨_, rfl, _, rfl, _, rfl, _, rfl, _, rfl, j, xs, x, y, c, p, rfl, sameT s4 hj, hxs, hx, hy, fun f hf => ?e1, fun ff H5 s5 => ?_⟩
    case e1 =>
      have q := er _ s4 f hf
      unfold Raised at q ⊢
      exact q
    have s7 := s4.trans s5
    refine ⟨by show 3 ≤ sizeLine; decide, fun t ht => ⟨_, rfl, ?_⟩⟩
    exact kn ff t q _ (same_none s7 ht) (same_new s7 ht) upd_same (upd_old (s5 q _ upd_same) ht)
  case er =>
    intro H4 s4 f hf H5 d s5 hd
    have okf' := okf f hf
    have ix := okf'.ix1
    have E := fun m h1 h2 => T.isE f.ix m ix.2 h1 h2
    have I := (T.err f.ix).isi
    have s6 := same_new (u := .xd [(("value" : Str), f.val j)]) (s4.trans s5) hd
    refine ⟨true, T.isF f.ix ix.2, fun _ ea hea => ?_, fun z => nomatch z⟩
    refine ⟨_, rfl, _, d, _, _, _, _, rfl, rfl, rfl, upd_same, I, fun _ z => z, E 1 (by decide) (by decide), ?_⟩
    refine ⟨_, rfl, _, d, _, _, _, _, rfl, rfl, rfl, upd_same, I, fun _ z => z, E 2 (by decide) (by decide), ?_⟩
    refine ⟨_, rfl, _, d, _, _, _, _, rfl, rfl, rfl, upd_same, I, fun _ z => z, E 3 (by decide) (by decide), ?_⟩
    refine ⟨by show 3 ≤ sizeLine; decide, fun a1 h1 => ?_⟩
    have x1 := upd_old (u := .lst [.bl (decide (f.ix = 1)), .bl (decide (f.ix = 2)), .bl (decide (f.ix = 3))]) (upd_same (H := H5) (a := d) (o := .xd [(("value" : Str), f.val j)])) h1
    refine ⟨_, rfl, _, rfl, _, d, _, _, _, _, rfl, rfl, rfl, x1, I, fun _ z => z, E 4 (by decide) (by decide), ?_⟩
    refine ⟨_, rfl, _, d, _, _, _, _, rfl, rfl, rfl, x1, I, fun _ z => z, E 5 (by decide) (by decide), ?_⟩
    refine ⟨_, rfl, _, d, _, _, _, _, rfl, rfl, rfl, x1, I, fun _ z => z, E 6 (by decide) (by decide), ?_⟩
    refine ⟨by show 3 ≤ sizeLine; decide, fun a2 h2 => ?_⟩
    refine ⟨_, _, _, _, rfl, rfl, upd_old upd_same h2, upd_same, by show 6 ≤ sizeLine; decide, fun a3 h3 => ?_⟩
    have x2 := upd_old (u := .lst ([.bl (decide (f.ix = 1)), .bl (decide (f.ix = 2)), .bl (decide (f.ix = 3))] ++ [.bl (decide (f.ix = 4)), .bl (decide (f.ix = 5)), .bl (decide (f.ix = 6))])) (upd_old x1 h2) h3
    refine ⟨_, rfl, _, rfl, rfl, _, _, d, _, rfl, rfl, T.err _, x2, ?_⟩
    refine ⟨by show 3 ≤ sizeLine; decide, fun a5 h5 => ⟨_, rfl, ?_⟩⟩
    have s9 := same_new (u := .lst ([.bl (decide (f.ix = 1)), .bl (decide (f.ix = 2)), .bl (decide (f.ix = 3))] ++ [.bl (decide (f.ix = 4)), .bl (decide (f.ix = 5)), .bl (decide (f.ix = 6))])) (same_new (u := .lst [.bl (decide (f.ix = 4)), .bl (decide (f.ix = 5)), .bl (decide (f.ix = 6))]) (same_new (u := .lst [.bl (decide (f.ix = 1)), .bl (decide (f.ix = 2)), .bl (decide (f.ix = 3))]) s6 h1) h2) h3
    exact ke f hf a5 a3 _ (same_none s9 h5) (same_new s9 h5) upd_same (upd_old upd_same h5)
abbrev s_any_cut : Stmt := top 35
theorem sc_any_cut : FnScope ["sack", "spots", "word", "way"] ["sack", "spots", "word"] (defScope s_any_cut) := ⟨rfl, rfl, rfl, by decide +kernel, rfl, by decide +kernel, by decide +kernel⟩
/-- a cut, of any size -/
def spAnyCut (K : PySem.W.Frag) : Sp := fun vs H Q _ => ∃ (a p : Addr) (n : Nat) (ns : List Nat) (x : Str), vs = [.ref a, .ref p, .str x] ∧ Sk n H a ∧ n ≤ 1000000 ∧ SqL K H p (vnats ns) ∧ p ≠ a ∧ (∀ c ∈ ns, c ≤ 10000) ∧ ns.length ≤ 10000 ∧ Wd 400 x ∧
  ∀ z H', Sk (n + 3) H' a → Kp a H H' → z.natAbs < 2 ^ 200 → Q (.int z) H'
theorem ok_any_cut {f : Addr} {fd fdC : FuncData} (F : Fun K "_law_any_cut" "_law_any_cut" s_any_cut f fd) (T : Txt K mg a) (c_coin : Cal P w K mg base 1 a.coin fdC ["purse", "many"] spCoin) :
    FnOk P w K mg base CX0 2 f fd ["sack", "spots", "word"] (spAnyCut K) := by
  refine F.ok sc_any_cut (fun vs H Q E h => by obtain ⟨sk, p, n, ns, x, rfl, _⟩ := h; rfl) (fun cdv A outer s H vs Q E hr h => ?_)
  have hr_coin := hr
  refine ⟨_, (pss_cons (ps_set (i := 3) sc_any_cut.nd rfl (Or.inl rfl) (pe_call c_coin.ok hr_coin rfl T.g_coin T.k_coin c_coin.binds .nil pass0 (pa_cons (pv 0) (pa_cons pe_int pa_nil))))
      (Evl.pss_cut (ps_if (PW.pt (pw_and (pt_cmpR op_lt (pv 3) pe_int (nomark _)) (pw_and1 (pt_cmpR (op_neD hr.units) (pv 1) (pe_lst pa_nil) (nomark _))))) (pss_one (ps_ret (pe_op op_add (pe_ix ix_list (pv 1) (pe_call c_coin.ok hr_coin rfl T.g_coin T.k_coin c_coin.binds .nil pass0 (pa_cons (pv 0) (pa_cons (pe_callB call_len_seq (by rfl) T.b_len PySem.boot_len (pa_cons (pv 1) pa_nil)) pa_nil))) (fun _ _ => rfl)) (pe_ix ix_list (pe_lst (pa_cons pe_int (pa_cons pe_int (pa_cons pe_int (pa_cons (pe_un un_neg pe_int) pa_nil))))) (pe_call c_coin.ok hr_coin rfl T.g_coin T.k_coin c_coin.binds .nil pass0 (pa_cons (pv 0) (pa_cons pe_int pa_nil))) (fun _ _ => rfl))))) pss_nil)
      (pss_cons (ps_if (pt_cmpR op_eq (pv 3) pe_int (nomark _)) (pss_one (ps_ret (pe_ix ix_list (pe_lst (pa_cons (pe_un un_neg pe_int) (pa_cons (pe_callB call_len_str (by rfl) T.b_len PySem.boot_len (pa_cons (pv 2) pa_nil)) (pa_cons (pe_op op_add (pe_callB call_len_str (by rfl) T.b_len PySem.boot_len (pa_cons (pv 2) pa_nil)) pe_int) (pa_cons (pe_un un_neg (pe_callB call_len_str (by rfl) T.b_len PySem.boot_len (pa_cons (pv 2) pa_nil))) (pa_cons (pe_op op_powX pe_int pe_int) (pa_cons (pe_un un_neg (pe_op op_powX pe_int pe_int)) pa_nil))))))) (pe_call c_coin.ok hr_coin rfl T.g_coin T.k_coin c_coin.binds .nil pass0 (pa_cons (pv 0) (pa_cons pe_int pa_nil))) (fun _ _ => rfl)))) pss_nil)
      (pss_one (ps_ret (pe_call c_coin.ok hr_coin rfl T.g_coin T.k_coin c_coin.binds .nil pass0 (pa_cons (pv 0) (pa_cons (pe_op op_add (pe_callB call_len_str (by rfl) T.b_len PySem.boot_len (pa_cons (pv 2) pa_nil)) pe_int) pa_nil)))))))), ?_⟩
  obtain ⟨sk, p, n, ns, x, rfl, hsk, hn, hp, psk, hns, hnl, hx, k⟩ := h
  have xl := hx.len
  have small : ∀ z : Int, z.natAbs ≤ 20000 → z.natAbs < 2 ^ 200 := fun z h => Nat.lt_of_le_of_lt h (by decide)
  refine ⟨_, rfl, sk, n, _, rfl, hsk, by omega, by decide, by decide, fun way H1 w0 w1 sk1 kp1 => ?_⟩
  have hp1 := seqL_kp hp psk kp1
  refine ⟨fun σ H' => σ = [some (.ref sk), some (.ref p), some (.str x), some (.int way)] ∧ Sk (n + 1) H' sk ∧ Kp sk H H', ?_, ?_⟩
  rotate_left
  · rintro σ H2 ⟨rfl, sk2, kp2⟩
    refine ⟨_, rfl, rfl, _, rfl, ?_⟩
    refine ite2 (fun c => ?_) (fun c => ?_)
    · refine ⟨_, rfl, _, rfl, x, rfl, hx.tx.line (by decide), _, rfl, x, rfl, hx.tx.line (by decide), _, _, rfl, rfl, _, rfl, x, rfl, hx.tx.line (by decide), _, rfl, ?_⟩
      refine ⟨_, _, rfl, rfl, ⟨by decide, pow_ok (n := 4) (by decide) (by decide) (by decide) (by decide)⟩, _, _, rfl, rfl, ⟨by decide, pow_ok (n := 4) (by decide) (by decide) (by decide) (by decide)⟩, _, rfl, by show 6 ≤ sizeLine; decide, fun l hl => ?_⟩
      refine ⟨_, rfl, sk, n + 1, _, rfl, sk2.new hl, by omega, by decide, by decide, fun z4 H4 z0 z1 sk4 kp4 => ?_⟩
      obtain ⟨g4, rfl⟩ := nat_of z0
      have fin : ∀ q : Int, ([V.int (-1), V.int x.length, V.int ((x.length : Int) + 1), V.int (-(x.length : Int)), V.int (10 ^ (30 : Int).toNat), V.int (-(10 ^ (30 : Int).toNat))] : List V)[g4]? = some (.int q) → q.natAbs < 2 ^ 200 → ∃ p xs i v, V.ref l = .ref p ∧ V.int (g4 : Int) = .int i ∧ SqL K H4 p xs ∧ atI xs i = some v ∧ Q v H4 := fun q eq bq =>
        ⟨l, _, g4, _, rfl, rfl, SqL.of (kp4 l _ (sk2.ne hl) upd_same), atI_nat eq, k _ _ (sk4.mono (by omega)) ((kp2.new hl).trans kp4) bq⟩
      have : g4 = 0 ∨ g4 = 1 ∨ g4 = 2 ∨ g4 = 3 ∨ g4 = 4 ∨ g4 = 5 := by omega
      rcases this with rfl | rfl | rfl | rfl | rfl | rfl
      · exact fin _ rfl (by decide)
      · exact fin _ rfl (small _ (by omega))
      · exact fin _ rfl (small _ (by omega))
      · exact fin _ rfl (small _ (by omega))
      · exact fin _ rfl (by decide)
      · exact fin _ rfl (by decide)
    · refine ⟨_, rfl, _, rfl, x, rfl, hx.tx.line (by decide), _, _, rfl, rfl, sk, n + 1, _, rfl, sk2, by omega, by omega, lt200 (by omega), fun z4 H4 z0 z1 sk4 kp4 => ?_⟩
      exact k _ _ (sk4.mono (by omega)) (kp2.trans kp4) (small _ (by omega))
  refine ⟨_, rfl, _, _, rfl, rfl, _, rfl, ?_⟩
  refine ite2 (fun c => ?_) (fun c => ?_)
  · refine ⟨_, rfl, by show 0 ≤ sizeLine; decide, fun z hz => ?_⟩
    have hp2 := sameL (same_new (u := .lst []) (Same.refl H1) hz) hp1
    refine ⟨_, _, .lst hp2 (dp_nats ns), .lst (SqL.of upd_same) .nil, shaped_nats ns, shaped_nil, _, rfl, ?_⟩
    rw [eqv_nats]
    refine ite2 (fun c2 => ?_) (fun c2 => ?_)
    · have n1 : 1 ≤ ns.length := by
        cases ns with
        | nil => cases c2
        | cons a r => exact Nat.succ_pos _
      have sk2 := sk1.new (o := .lst []) hz
      have kp2 := kp1.new (o := .lst []) hz
      have lv : (vnats ns).length = ns.length := List.length_map ..
      refine ⟨_, rfl, _, rfl, _, rfl, p, _, rfl, .inl hp2, sk, _, _, rfl, sk2, by omega, by rw [lv]; omega, lt200 (by rw [lv]; omega), fun z3 H3 z0 z1 sk3 kp3 => ?_⟩
      rw [lv] at z1
      obtain ⟨g, rfl⟩ := nat_of z0
      have hg : g < ns.length := by omega
      have eg : ns[g]? = some ns[g] := List.getElem?_eq_getElem hg
      have bg := hns _ (List.getElem_mem hg)
      generalize ns[g] = v at eg bg
      refine ⟨p, _, g, .int v, rfl, rfl, seqL_kp hp2 psk kp3, atI_nat (by unfold vnats; rw [List.getElem?_map, eg]; rfl), ?_⟩
      refine ⟨_, rfl, by show 4 ≤ sizeLine; decide, fun l hl => ⟨_, rfl, sk, _, _, rfl, sk3.new hl, by omega, by decide, by decide, fun z4 H4 z0 z1 sk4 kp4 => ?_⟩⟩
      obtain ⟨g4, rfl⟩ := nat_of z0
      have pick : ∃ q : Int, ([V.int 0, V.int 0, V.int 1, V.int (-1)] : List V)[g4]? = some (.int q) ∧ q.natAbs ≤ 1 := by
        have : g4 = 0 ∨ g4 = 1 ∨ g4 = 2 ∨ g4 = 3 := by omega
        rcases this with rfl | rfl | rfl | rfl
        · exact ⟨0, rfl, by decide⟩
        · exact ⟨0, rfl, by decide⟩
        · exact ⟨1, rfl, by decide⟩
        · exact ⟨-1, rfl, by decide⟩
      obtain ⟨q, eq, bq⟩ := pick
      refine ⟨l, _, g4, _, rfl, rfl, SqL.of (kp4 l _ (sk3.ne hl) upd_same), atI_nat eq, _, _, rfl, rfl, ?_⟩
      exact k _ _ (sk4.mono (by omega)) (((kp2.trans kp3).new hl).trans kp4) (small _ (by omega))
    · exact ⟨rfl, sk1.new hz, kp1.new hz⟩
  · exact iteF ⟨rfl, sk1, kp1⟩
end
end K7

namespace K7
open PySem PySem.Spec PyProof.Rows L2 Sf
section
variable {P : Program} {w : World} {K : PySem.W.Frag} {mg : Str → Option Value} {base : Heap} {a : Ad}
theorem box_two (x y : Str) (j : Addr) : boxList (boxFt [x, y] []) = ftList j (orFt (filmFt x) (filmFt y)) := by
  unfold boxFt orFt
  cases q : filmFt x with
  | some f =>
    have e := filmFt_is q
    subst e
    simp [q, boxList, ftList, Ft.val]
  | none =>
    cases q2 : filmFt y with
    | none => simp [q, q2, boxList, ftList]
    | some f =>
      have e := filmFt_is q2
      subst e
      simp [q, q2, boxList, ftList, Ft.val]
/-- what the law awaits -/
def dueDat (xs : List Str) (x : Str) (c : Int) (y : Str) (p : Int) : PyData := match splFt xs x c y p with | none => splDat (splice x c y p) | some f => errDat3 xs f
theorem rule_no {xs : List Str} (fr : ruleFt xs = none) : xs.length = 4 ∧ eS (xs.getD 0 "") = false ∧ eS (xs.getD 3 "") = false := by
  unfold ruleFt at fr
  by_cases n4 : xs.length = 4
  · rw [if_pos n4] at fr
    split at fr
    · cases fr
    · split at fr
      · cases fr
      · rename_i z
        exact ⟨n4, b_f fun w => z (by rw [w]; rfl), b_f fun w => z (by rw [w, Bool.or_true])⟩
  · rw [if_neg n4] at fr
    cases fr
theorem ne_len {y : Str} (e : eS y = false) : 1 ≤ y.length := by
  have : y.length ≠ 0 := fun z => by rw [eS_iff.mpr z] at e; cases e
  omega
abbrev s_right : Stmt := top 36
theorem sc_right : FnScope ["sack", "signs", "high", "size", "turn", "join", "word", "mate", "gap", "slot", "fault", "due", "by_name"] ["sack"] (defScope s_right) := ⟨rfl, rfl, rfl, by decide +kernel, rfl, by decide +kernel, by decide +kernel⟩
def spRight (K : PySem.W.Frag) : Sp := fun vs H Q _ => ∃ (a : Addr) (n : Nat), vs = [.ref a] ∧ Sk n H a ∧ n ≤ 1000 ∧ ∀ H', Kp a H H' → Q (.bl true) H'
theorem ok_right {f : Addr} {fd fdC fd1 fd2 fd3 fd4 fd5 fd6 fd7 fd8 fd9 fdA fdB fdD : FuncData} (F : Fun K "_law_right" "_law_right" s_right f fd) (T : Txt K mg a) (c_coin : Cal P w K mg base 1 a.coin fdC ["purse", "many"] spCoin)
    (c_signs : Cal P w K mg base 2 a.signs fd1 ["sack", "high"] spSigns) (c_word : Cal P w K mg base 2 a.word fd2 ["sack", "signs", "low", "high"] spWord) (c_join : Cal P w K mg base 4 a.join fd3 ["sack", "reels", "signs", "high"] (spJoin K))
    (c_full : Cal P w K mg base 3 a.full fd4 ["sack", "signs", "join", "size"] (spFull K)) (c_bad_join : Cal P w K mg base 4 a.bad_join fd5 ["sack", "signs", "join"] (spBad K)) (c_odd : Cal P w K mg base 3 a.odd fd6 ["sack", "signs"] spOdd)
    (c_join_fault : Cal P w K mg base 2 a.join_fault fd7 ["join"] (spJoinFault K)) (c_fault : Cal P w K mg base 3 a.fault fd8 ["reels", "joins"] (spFault K)) (c_told : Cal P w K mg base 6 a.told fd9 ["join", "word", "gap", "mate", "slot", "by_name"] (spTold K))
    (c_due : Cal P w K mg base 1 a.due fdA ["fault"] (spDue K)) (c_sites : Cal P w K mg base 1 a.sites fdB ["left", "right", "word"] spSites) (c_any_cut : Cal P w K mg base 2 a.any_cut fdD ["sack", "spots", "word"] (spAnyCut K)) : Gd P w K mg base 7 f fd ["sack"] (spRight K) := by
  refine okG F sc_right (fun vs H Q E h => by obtain ⟨a, n, rfl, _⟩ := h; rfl) (fun cdv A outer s H vs Q E hG hr h => ?_)
  have hr_coin := hr.mono (show 1 ≤ 6 by decide)
  have hr_signs := hr.mono (show 2 ≤ 6 by decide)
  have hr_word := hr.mono (show 2 ≤ 6 by decide)
  have hr_join := hr.mono (show 4 ≤ 6 by decide)
  have hr_full := hr.mono (show 3 ≤ 6 by decide)
  have hr_bad_join := hr.mono (show 4 ≤ 6 by decide)
  have hr_odd := hr.mono (show 3 ≤ 6 by decide)
  have hr_join_fault := hr.mono (show 2 ≤ 6 by decide)
  have hr_fault := hr.mono (show 3 ≤ 6 by decide)
  have hr_told := hr
  have hr_due := hr.mono (show 1 ≤ 6 by decide)
  have hr_sites := hr.mono (show 1 ≤ 6 by decide)
  have hr_any_cut := hr.mono (show 2 ≤ 6 by decide)
  refine ⟨_, (pss_cons (ps_par (i := 1) (j := 2) (by rfl) sc_right.nd rfl rfl (by decide) rfl rfl (pa_cons (pe_call c_signs.ok hr_signs rfl T.g_signs T.k_signs c_signs.binds .nil pass0 (pa_cons (pv 0) (pa_cons (pe_ix ix_list (pe_lst (pa_cons pe_int (pa_cons pe_int pa_nil))) (pe_call c_coin.ok hr_coin rfl T.g_coin T.k_coin c_coin.binds .nil pass0 (pa_cons (pv 0) (pa_cons pe_int pa_nil))) (fun _ _ => rfl)) pa_nil))) (pa_cons (pe_ix ix_list (pe_lst (pa_cons pe_int (pa_cons pe_int (pa_cons pe_int pa_nil)))) (pe_call c_coin.ok hr_coin rfl T.g_coin T.k_coin c_coin.binds .nil pass0 (pa_cons (pv 0) (pa_cons pe_int pa_nil))) (fun _ _ => rfl)) pa_nil)) (by rfl))
      (pss_cons (ps_set (i := 3) sc_right.nd rfl (Or.inl rfl) (pe_ix ix_list (pe_lst (pa_cons pe_int (pa_cons pe_int (pa_cons pe_int pa_nil)))) (pe_call c_coin.ok hr_coin rfl T.g_coin T.k_coin c_coin.binds .nil pass0 (pa_cons (pv 0) (pa_cons pe_int pa_nil))) (fun _ _ => rfl)))
      (pss_cons (ps_for PassesOwn.never rfl (pi_range1 rfl T.b_range (pa_cons pe_int pa_nil)) (pg_name (i := 4) sc_right.nd rfl (Or.inl rfl))
      (pss_cons (ps_set (i := 5) sc_right.nd rfl (Or.inl rfl) (pe_call c_join.ok hr_join rfl T.g_join T.k_join c_join.binds .nil pass0 (pa_cons (pv 0) (pa_cons (pe_lst (pa_cons (pe_call c_word.ok hr_word rfl T.g_word T.k_word c_word.binds .nil pass0 (pa_cons (pv 0) (pa_cons (pv 1) (pa_cons pe_int (pa_cons pe_int pa_nil))))) pa_nil)) (pa_cons (pv 1) (pa_cons (pv 2) pa_nil))))))
      (pss_cons (ps_set (i := 6) sc_right.nd rfl (Or.inl rfl) (pe_call c_full.ok hr_full rfl T.g_full T.k_full c_full.binds .nil pass0 (pa_cons (pv 0) (pa_cons (pv 1) (pa_cons (pv 5) (pa_cons (pv 3) pa_nil))))))
      (pss_cons (ps_set (i := 7) sc_right.nd rfl (Or.inl rfl) (pe_call c_full.ok hr_full rfl T.g_full T.k_full c_full.binds .nil pass0 (pa_cons (pv 0) (pa_cons (pv 1) (pa_cons (pv 5) (pa_cons (pv 3) pa_nil))))))
      (pss_cons (ps_set (i := 8) sc_right.nd rfl (Or.inl rfl) (pe_call c_any_cut.ok hr_any_cut rfl T.g_any_cut T.k_any_cut c_any_cut.binds .nil pass0 (pa_cons (pv 0) (pa_cons (pe_call c_sites.ok hr_sites rfl T.g_sites T.k_sites c_sites.binds .nil pass0 (pa_cons (pe_ix ix_tup (pv 5) pe_int (fun _ _ => rfl)) (pa_cons (pe_ix ix_tup (pv 5) pe_int (fun _ _ => rfl)) (pa_cons (pv 6) pa_nil)))) (pa_cons (pv 6) pa_nil)))))
      (pss_cons (ps_set (i := 9) sc_right.nd rfl (Or.inl rfl) (pe_call c_any_cut.ok hr_any_cut rfl T.g_any_cut T.k_any_cut c_any_cut.binds .nil pass0 (pa_cons (pv 0) (pa_cons (pe_call c_sites.ok hr_sites rfl T.g_sites T.k_sites c_sites.binds .nil pass0 (pa_cons (pe_ix ix_tup (pv 5) pe_int (fun _ _ => rfl)) (pa_cons (pe_ix ix_tup (pv 5) pe_int (fun _ _ => rfl)) (pa_cons (pv 7) pa_nil)))) (pa_cons (pv 7) pa_nil)))))
      (Evl.pss_cut (ps_if (pt_cmpR op_eq (pe_call c_coin.ok hr_coin rfl T.g_coin T.k_coin c_coin.binds .nil pass0 (pa_cons (pv 0) (pa_cons pe_int pa_nil))) pe_int (nomark _)) (pss_one (ps_set (i := 5) sc_right.nd rfl (Or.inl rfl) (pe_call c_bad_join.ok hr_bad_join rfl T.g_bad_join T.k_bad_join c_bad_join.binds .nil pass0 (pa_cons (pv 0) (pa_cons (pv 1) (pa_cons (pv 5) pa_nil)))))) pss_nil)
      (Evl.pss_cut (ps_if (pt_cmpR op_eq (pe_call c_coin.ok hr_coin rfl T.g_coin T.k_coin c_coin.binds .nil pass0 (pa_cons (pv 0) (pa_cons pe_int pa_nil))) pe_int (nomark _)) (pss_one (ps_set (i := 6) sc_right.nd rfl (Or.inl rfl) (pe_call c_odd.ok hr_odd rfl T.g_odd T.k_odd c_odd.binds .nil pass0 (pa_cons (pv 0) (pa_cons (pv 1) pa_nil))))) pss_nil)
      (Evl.pss_cut (ps_if (pt_cmpR op_eq (pe_call c_coin.ok hr_coin rfl T.g_coin T.k_coin c_coin.binds .nil pass0 (pa_cons (pv 0) (pa_cons pe_int pa_nil))) pe_int (nomark _)) (pss_one (ps_set (i := 7) sc_right.nd rfl (Or.inl rfl) (pe_call c_odd.ok hr_odd rfl T.g_odd T.k_odd c_odd.binds .nil pass0 (pa_cons (pv 0) (pa_cons (pv 1) pa_nil))))) pss_nil)
      (pss_cons (ps_set (i := 10) sc_right.nd rfl (Or.inl rfl) (pe_call c_join_fault.ok hr_join_fault rfl T.g_join_fault T.k_join_fault c_join_fault.binds .nil pass0 (pa_cons (pv 5) pa_nil)))
      (Evl.pss_cut (ps_if (pt_cmpR (op_eqD hr.units) (pv 10) (pe_lst pa_nil) (nomark _)) (pss_one (ps_set (i := 10) sc_right.nd rfl (Or.inl rfl) (pe_call c_fault.ok hr_fault rfl T.g_fault T.k_fault c_fault.binds .nil pass0 (pa_cons (pe_lst (pa_cons (pv 6) (pa_cons (pv 7) pa_nil))) (pa_cons (pe_lst pa_nil) pa_nil))))) pss_nil)
      (Evl.pss_cut (ps_if (PW.pt (pw_and (pt_cmpR (op_eqD hr.units) (pv 10) (pe_lst pa_nil) (nomark _)) (pw_and1 (pt_cmpR op_notIn_seq (pv 8) (pe_call c_sites.ok hr_sites rfl T.g_sites T.k_sites c_sites.binds .nil pass0 (pa_cons (pe_ix ix_tup (pv 5) pe_int (fun _ _ => rfl)) (pa_cons (pe_ix ix_tup (pv 5) pe_int (fun _ _ => rfl)) (pa_cons (pv 6) pa_nil)))) rfl)))) (pss_one (ps_set (i := 10) sc_right.nd rfl (Or.inl rfl) (pe_lst (pa_cons pe_str (pa_cons (pv 8) pa_nil))))) pss_nil)
      (Evl.pss_cut (ps_if (PW.pt (pw_and (pt_cmpR (op_eqD hr.units) (pv 10) (pe_lst pa_nil) (nomark _)) (pw_and1 (pt_cmpR op_notIn_seq (pv 9) (pe_call c_sites.ok hr_sites rfl T.g_sites T.k_sites c_sites.binds .nil pass0 (pa_cons (pe_ix ix_tup (pv 5) pe_int (fun _ _ => rfl)) (pa_cons (pe_ix ix_tup (pv 5) pe_int (fun _ _ => rfl)) (pa_cons (pv 7) pa_nil)))) rfl)))) (pss_one (ps_set (i := 10) sc_right.nd rfl (Or.inl rfl) (pe_lst (pa_cons pe_str (pa_cons (pv 9) pa_nil))))) pss_nil)
      (Evl.pss_cut (ps_set (i := 11) sc_right.nd rfl (Or.inl rfl) (pe_ifExp (pt_cmpR (op_eqD hr.units) (pv 10) (pe_lst pa_nil) (nomark _)) (pe_tup (pa_cons (pe_lst pa_nil) (pa_cons pe_str (pa_cons (pe_op op_add_str (pe_slice sl_str (pv 6) po_none (po_some (pv 8))) (pe_slice sl_str (pv 7) (po_some (pv 9)) po_none)) pa_nil)))) (pe_op op_catT (pe_call c_due.ok hr_due rfl T.g_due T.k_due c_due.binds .nil pass0 (pa_cons (pv 10) pa_nil)) (pe_tup (pa_cons pe_str pa_nil)))))
      (pss_one (ps_for PassesOwn.never rfl (pi_tup (pe_tup (pa_cons pe_bl (pa_cons pe_bl pa_nil)))) (pg_name (i := 12) sc_right.nd rfl (Or.inl rfl))
      (pss_one (ps_if (pt_cmpR op_ne (pe_callB (call_repr hG hr.units) (by rfl) T.b_repr (by decide +kernel) (pa_cons (pe_call c_told.ok hr_told rfl T.g_told T.k_told c_told.binds .nil pass0 (pa_cons (pv 5) (pa_cons (pv 6) (pa_cons (pv 8) (pa_cons (pv 7) (pa_cons (pv 9) (pa_cons (pv 12) pa_nil))))))) pa_nil)) (pe_callB (call_repr hG hr.units) (by rfl) T.b_repr (by decide +kernel) (pa_cons (pv 11) pa_nil)) (nomark _)) (pss_one (ps_ret pe_bl)) pss_nil))))))))))))))))))
      (pss_one (ps_ret pe_bl))))), ?_⟩
  obtain ⟨sk, n, rfl, hsk, hn, k⟩ := h
  refine ⟨_, rfl, by show 2 ≤ sizeLine; decide, fun l hl => ⟨_, rfl, sk, n, _, rfl, hsk.new hl, by omega, by decide, by decide, fun z H1 z0 z1 sk1 kp1 => ?_⟩⟩
  obtain ⟨g, rfl⟩ := nat_of z0
  have pick : ∃ q : Nat, ([V.int 3, V.int 26] : List V)[g]? = some (.int q) ∧ 1 ≤ q ∧ q ≤ 26 := by
    have : g = 0 ∨ g = 1 := by omega
    rcases this with rfl | rfl
    · exact ⟨3, rfl, by decide, by decide⟩
    · exact ⟨26, rfl, by decide, by decide⟩
  obtain ⟨q, eq, q1, q26⟩ := pick
  have kpa := ((Kp.refl sk H).new (o := .lst [.int 3, .int 26]) hl).trans kp1
  refine ⟨l, _, g, _, rfl, rfl, SqL.of (kp1 l _ (hsk.ne hl) upd_same), atI_nat eq, sk, n + 1, q, rfl, sk1, by omega, q1, q26, fun s H2 sk2 kp2 ws ls => ?_⟩
  have ws30 := ws.mono (show q ≤ 30 by omega)
  have kpb := kpa.trans kp2
  refine ⟨by show 3 ≤ sizeLine; decide, fun l hl => ⟨_, rfl, sk, n + 4, _, rfl, (sk2.new hl).mono (by omega), by omega, by decide, by decide, fun z H3 z0 z1 sk3 kp3 => ?_⟩⟩
  obtain ⟨g, rfl⟩ := nat_of z0
  have pick : ∃ q : Nat, ([V.int 1, V.int 2, V.int 10] : List V)[g]? = some (.int q) ∧ 1 ≤ q ∧ q ≤ 10 := by
    have : g = 0 ∨ g = 1 ∨ g = 2 := by omega
    rcases this with rfl | rfl | rfl
    · exact ⟨1, rfl, by decide, by decide⟩
    · exact ⟨2, rfl, by decide, by decide⟩
    · exact ⟨10, rfl, by decide, by decide⟩
  obtain ⟨hi, eh, hi1, hi10⟩ := pick
  have kpc := (kpb.new (o := .lst [.int 1, .int 2, .int 10]) hl).trans kp3
  refine ⟨l, _, g, _, rfl, rfl, SqL.of (kp3 l _ (sk2.ne hl) upd_same), atI_nat eh, _, _, rfl, ?_⟩
  refine ⟨by show 3 ≤ sizeLine; decide, fun l hl => ⟨_, rfl, sk, n + 5, _, rfl, (sk3.new hl).mono (by omega), by omega, by decide, by decide, fun z H4 z0 z1 sk4 kp4 => ?_⟩⟩
  obtain ⟨g, rfl⟩ := nat_of z0
  have pick : ∃ q : Nat, ([V.int 6, V.int 24, V.int 400] : List V)[g]? = some (.int q) ∧ 1 ≤ q ∧ q ≤ 400 := by
    have : g = 0 ∨ g = 1 ∨ g = 2 := by omega
    rcases this with rfl | rfl | rfl
    · exact ⟨6, rfl, by decide, by decide⟩
    · exact ⟨24, rfl, by decide, by decide⟩
    · exact ⟨400, rfl, by decide, by decide⟩
  obtain ⟨size, es, sz1, sz400⟩ := pick
  have kpd := (kpc.new (o := .lst [.int 6, .int 24, .int 400]) hl).trans kp4
  refine ⟨l, _, g, _, rfl, rfl, SqL.of (kp4 l _ (sk3.ne hl) upd_same), atI_nat es, ?_⟩
  refine ⟨4, rfl, by decide, by decide, for_range (n := 4) (fun i σ H' => ∃ x4 x5 x6 x7 x8 x9 x10 x11 x12, σ = [some (.ref sk), some (.str s), some (.int hi), some (.int size), x4, x5, x6, x7, x8, x9, x10, x11, x12] ∧ Sk (n + 6 + 400 * i) H' sk ∧ Kp sk H H') ⟨_, _, _, _, _, _, _, _, _, rfl, sk4, kpd⟩ ?_ ?_⟩
  · rintro i σ H4 hi4 ⟨x4, x5, x6, x7, x8, x9, x10, x11, x12, rfl, sk4, kp4⟩
    rw [Int.zero_add]
    refine ⟨_, rfl, _, rfl, _, rfl, sk, _, 1, 12, s, rfl, sk4, by omega, by decide, by decide, ws30, ls, fun reel H5 sk5 kp5 wr lr => ⟨by show 1 ≤ sizeLine; decide, fun rl hrl => ?_⟩⟩
    refine ⟨_, rfl, _, rfl, sk, rl, _, hi, [reel], s, rfl, sk5.new hrl, by omega, SqL.of upd_same, sk5.ne hrl, by show 1 ≤ 1000; decide, fun x hx => (by rw [List.mem_singleton.mp hx]; exact ⟨wr.mono (by decide), lr⟩), ws30, ls, hi1, hi10, fun xs j H6 sk6 kp6 hj ej jn => ?_⟩
    have kp56 := ((kp4.trans kp5).new hrl).trans kp6
    have jsk : j ≠ sk := by
      intro z
      rw [z] at ej
      obtain ⟨p, q, r, e, _⟩ := sk6
      rw [e] at ej
      cases ej
    refine ⟨_, rfl, _, rfl, _, rfl, _, rfl, sk, j, _, size, s, xs, rfl, sk6, by omega, SqT.of ej, jn, jsk, ws30, ls, sz1, sz400, fun x H7 sk7 kp7 wx lx => ?_⟩
    have hj7 : SqT K H7 j (xs.map V.str) := SqT.of (kp7 j _ jsk ej)
    refine ⟨_, rfl, _, rfl, _, rfl, _, rfl, sk, j, _, size, s, xs, rfl, sk7, by omega, hj7, jn, jsk, ws30, ls, sz1, sz400, fun y H8 sk8 kp8 wy ly => ?_⟩
    have hj8 := seqT_kp hj7 jsk kp8
    have kpH8 := (kp56.trans kp7).trans kp8
    have wx400 := wx.mono sz400
    have wy400 := wy.mono sz400
    obtain ⟨y0, y1, y2, y3, rfl⟩ := of_four jn.n4
    have l0 : 1 ≤ y0.length := jn.l0
    have l3 : 1 ≤ y3.length := jn.l3
    have jw := jn.wd
    refine ⟨_, rfl, _, rfl, j, _, 0, _, rfl, rfl, hj8, atI_nat (j := 0) rfl, _, rfl, j, _, 1, _, rfl, rfl, hj8, atI_nat (j := 1) rfl, _, rfl, y0, y1, x, rfl, (jw y0 (by simp)).tx.mono (by decide), (jw y1 (by simp)).tx.mono (by decide), wx400.tx.mono (by decide), by rw [Str.length_append]; omega, fun p1 H9 hp1 s9 ep1 => ?_⟩
    have sk9 := sk_same sk8 s9
    have xl := wx400.len
    have yl := wy400.len
    refine ⟨_, rfl, sk, p1, _, seats y0 y1 x, x, rfl, sk9, by omega, SqL.of ep1, sk8.ne hp1, fun c hc => Nat.le_trans (seats_le c hc) (by omega), Nat.le_trans (seats_len y0 y1 x) (by omega), wx400, fun c H10 sk10 kp10 bc => ?_⟩
    have hj10 := seqT_kp (sameT s9 hj8) jsk kp10
    refine ⟨_, rfl, _, rfl, j, _, 2, _, rfl, rfl, hj10, atI_nat (j := 2) rfl, _, rfl, j, _, 3, _, rfl, rfl, hj10, atI_nat (j := 3) rfl, _, rfl, y2, y3, y, rfl, (jw y2 (by simp)).tx.mono (by decide), (jw y3 (by simp)).tx.mono (by decide), wy400.tx.mono (by decide), by rw [Str.length_append]; omega, fun p2 H11 hp2 s11 ep2 => ?_⟩
    have sk11 := sk_same sk10 s11
    refine ⟨_, rfl, sk, p2, _, seats y2 y3 y, y, rfl, sk11, by omega, SqL.of ep2, sk10.ne hp2, fun c hc => Nat.le_trans (seats_le c hc) (by omega), Nat.le_trans (seats_len y2 y3 y) (by omega), wy400, fun t H12 sk12 kp12 bt => ?_⟩
    have hj12 := seqT_kp (sameT s11 hj10) jsk kp12
    have kpH12 := (kp_same ((kp_same kpH8 s9).trans kp10) s11).trans kp12
    refine ⟨fun σ H' => ∃ (j : Addr) (xs : List Str), σ = [some (.ref sk), some (.str s), some (.int hi), some (.int size), some (.int i), some (.ref j), some (.str x), some (.str y), some (.int c), some (.int t), x10, x11, x12] ∧ SqT K H' j (xs.map V.str) ∧ j ≠ sk ∧ (∀ z ∈ xs, Tx 10 z) ∧ xs.length ≤ 6 ∧ Sk (n + 6 + 400 * i + 330) H' sk ∧ Kp sk H H', ?_, ?_⟩
    · refine ⟨_, rfl, sk, _, _, rfl, sk12, by omega, by decide, by decide, fun z H13 _ _ sk13 kp13 => ⟨rfl, _, rfl, ?_⟩⟩
      have hj13 := seqT_kp hj12 jsk kp13
      refine ite2 (fun c => ?_) (fun c => ?_)
      · refine ⟨_, rfl, _, rfl, _, rfl, sk, j, _, s, _, rfl, sk13, by omega, hj13, fun y hy => (jn.wd y hy).tx, Nat.le_of_eq jn.n4, ws30, ls, fun ys p H9 sk9 kp9 hp ep ty ly => ?_⟩
        refine ⟨p, ys, rfl, SqT.of ep, ?_, ty, ly, sk9.mono (by omega), (kpH12.trans kp13).trans kp9⟩
        intro z
        rw [z] at ep
        obtain ⟨p, q, r, e, _⟩ := sk9
        rw [e] at ep
        cases ep
      · exact ⟨j, _, rfl, hj13, jsk, fun y hy => (jn.wd y hy).tx, by rw [jn.n4]; decide, sk13.mono (by omega), kpH12.trans kp13⟩
    · have tx400 := wx400.tx
      have ty400 := wy400.tx
      clear hj12 hj10 hj8 hj7 ej jn jw l0 l3 ep1 ep2 s9 s11 kp12 kp10 kp8 kp7 kp6 kp5 kpH12 kpH8 kp56 sk12 sk11 sk10 sk9 sk8 sk7 sk6 sk5 hj jsk wx wy lx ly wx400 wy400 xl yl
      rintro σ H8 ⟨j, xs, rfl, hj, jsk, txs, lxs, sk8, kp8⟩
      refine ⟨fun σ H' => ∃ x, σ = [some (.ref sk), some (.str s), some (.int hi), some (.int size), some (.int i), some (.ref j), some (.str x), some (.str y), some (.int c), some (.int t), x10, x11, x12] ∧ SqT K H' j (xs.map V.str) ∧ Tx 400 x ∧ Sk (n + 6 + 400 * i + 350) H' sk ∧ Kp sk H H', ?_, ?_⟩
      · refine ⟨_, rfl, sk, _, _, rfl, sk8, by omega, by decide, by decide, fun z H9 _ _ sk9 kp9 => ⟨rfl, _, rfl, ?_⟩⟩
        have hj9 := seqT_kp hj jsk kp9
        refine ite2 (fun c => ?_) (fun c => ?_)
        · exact ⟨_, rfl, _, rfl, sk, _, s, rfl, sk9, by omega, ws30, ls, fun y H10 sk10 kp10 ty => ⟨y, rfl, seqT_kp hj9 jsk kp10, ty.mono (by decide), sk10.mono (by omega), (kp8.trans kp9).trans kp10⟩⟩
        · exact ⟨x, rfl, hj9, tx400, sk9.mono (by omega), kp8.trans kp9⟩
      clear hj sk8 kp8 tx400
      rintro σ H8 ⟨x, rfl, hj, tx400, sk8, kp8⟩
      refine ⟨fun σ H' => ∃ y, σ = [some (.ref sk), some (.str s), some (.int hi), some (.int size), some (.int i), some (.ref j), some (.str x), some (.str y), some (.int c), some (.int t), x10, x11, x12] ∧ SqT K H' j (xs.map V.str) ∧ Tx 400 y ∧ Sk (n + 6 + 400 * i + 370) H' sk ∧ Kp sk H H', ?_, ?_⟩
      · refine ⟨_, rfl, sk, _, _, rfl, sk8, by omega, by decide, by decide, fun z H9 _ _ sk9 kp9 => ⟨rfl, _, rfl, ?_⟩⟩
        have hj9 := seqT_kp hj jsk kp9
        refine ite2 (fun c => ?_) (fun c => ?_)
        · exact ⟨_, rfl, _, rfl, sk, _, s, rfl, sk9, by omega, ws30, ls, fun y H10 sk10 kp10 ty => ⟨y, rfl, seqT_kp hj9 jsk kp10, ty.mono (by decide), sk10.mono (by omega), (kp8.trans kp9).trans kp10⟩⟩
        · exact ⟨y, rfl, hj9, ty400, sk9.mono (by omega), kp8.trans kp9⟩
      clear hj sk8 kp8 ty400
      rintro σ H9 ⟨y, rfl, hj, ty400, sk9, kp9⟩
      have tx5 := tx400.mono (show 400 ≤ 5000 by decide)
      have ty5 := ty400.mono (show 400 ≤ 5000 by decide)
      have tj5 : ∀ y ∈ xs, Tx 5000 y := fun y hy => (txs y hy).mono (by decide)
      refine ⟨_, rfl, j, xs, rfl, hj, tj5, fun p H10 hp s10 ep => ?_⟩
      have ok2 : ∀ f, orFt (ruleFt xs) (orFt (filmFt x) (filmFt y)) = some f → f.Ok := orFt_ok (ruleFt_ok tj5) (orFt_ok (filmFt_ok tx5) (filmFt_ok ty5))
      refine ⟨fun σ H' => ∃ p, σ = [some (.ref sk), some (.str s), some (.int hi), some (.int size), some (.int i), some (.ref j), some (.str x), some (.str y), some (.int c), some (.int t), some (.ref p), x11, x12] ∧ SqL K H' p (ftList j (orFt (ruleFt xs) (orFt (filmFt x) (filmFt y)))) ∧ Same H9 H', ?_, ?_⟩
      · refine ⟨_, rfl, by show 0 ≤ sizeLine; decide, fun z hz => ?_⟩
        have s11 := same_new (u := .lst []) s10 hz
        refine ⟨_, _, .lst (SqL.of (upd_old ep hz)) (dp_ft (sameT s11 hj) _), .lst (SqL.of upd_same) .nil, shaped_ft tj5 (ruleFt_ok tj5), shaped_nil, _, rfl, ?_⟩
        rw [eqv_ft]
        cases qr : ruleFt xs with
        | some f =>
          refine iteF ⟨p, rfl, ?_, s11⟩
          rw [or_some, ← qr]
          exact SqL.of (upd_old ep hz)
        | none =>
          refine iteT ?_
          refine ⟨_, rfl, _, rfl, by show 2 ≤ sizeLine; decide, fun b1 h1 => ⟨by show 0 ≤ sizeLine; decide, fun b2 h2 => ?_⟩⟩
          have s15 := same_new (u := .lst []) (same_new (u := .lst [.str x, .str y]) s11 h1) h2
          refine ⟨b1, b2, [x, y], [], rfl, SqL.of (upd_old upd_same h2), fun z hz => ?_, SqL.of upd_same, fun _ hj => (nomatch hj), fun p3 H13 hp3 s16 ep3 => ?_⟩
          · simp only [List.mem_cons, List.not_mem_nil, or_false] at hz
            rcases hz with rfl | rfl
            · exact tx5
            · exact ty5
          · rw [box_two x y j] at ep3
            exact ⟨p3, rfl, SqL.of ep3, s15.trans s16⟩
      clear s10 ep
      rintro σ H10 ⟨p, rfl, ep, s10⟩
      have no2 : orFt (ruleFt xs) (orFt (filmFt x) (filmFt y)) = none → ruleFt xs = none := fun h => by
        cases q : ruleFt xs with
        | none => rfl
        | some f => rw [q] at h; cases h
      refine ⟨fun σ H' => ∃ p, σ = [some (.ref sk), some (.str s), some (.int hi), some (.int size), some (.int i), some (.ref j), some (.str x), some (.str y), some (.int c), some (.int t), some (.ref p), x11, x12] ∧ SqL K H' p (ftList j (orFt (orFt (ruleFt xs) (orFt (filmFt x) (filmFt y))) (cutFt (stZ (xs.getD 0 "") (xs.getD 1 "") x c) c))) ∧ Same H9 H', ?_, ?_⟩
      · refine ⟨_, rfl, by show 0 ≤ sizeLine; decide, fun z hz => ?_⟩
        have s11 := same_new (u := .lst []) s10 hz
        have ep11 := sameL (same_new (u := .lst []) (Same.refl _) hz) ep
        refine ⟨_, _, .lst ep11 (dp_ft (sameT s11 hj) _), .lst (SqL.of upd_same) .nil, shaped_ft tj5 ok2, shaped_nil, _, rfl, ?_⟩
        rw [eqv_ft]
        cases qo : (orFt (ruleFt xs) (orFt (filmFt x) (filmFt y))) with
        | some f => exact iteF (iteF ⟨p, rfl, by rw [qo] at ep11; exact ep11, s11⟩)
        | none =>
          have rn := no2 qo
          obtain ⟨n4, e0, e3⟩ := rule_no rn
          obtain ⟨y0, y1, y2, y3, rfl⟩ := of_four n4
          replace e0 : eS y0 = false := e0
          replace e3 : eS y3 = false := e3
          have hj11 := sameT s11 hj
          refine iteT ?_
          refine ⟨_, rfl, _, rfl, j, _, 0, _, rfl, rfl, hj11, atI_nat (j := 0) rfl, _, rfl, j, _, 1, _, rfl, rfl, hj11, atI_nat (j := 1) rfl, _, rfl, y0, y1, x, rfl, (txs y0 (by simp)).mono (by decide), (txs y1 (by simp)).mono (by decide), tx5, ?_, fun l2 H12 hl2 s12 el2 => ?_⟩
          · have := ne_len e0
            rw [Str.length_append]
            omega
          · have s13 := s11.trans s12
            refine ⟨l2, _, rfl, .inl (SqL.of el2), rfl, nats_flat _, _, rfl, ?_⟩
            have ei : inV (.int c) (vnats (seats y0 y1 x)) = stZ y0 y1 x c := seats_mem
            refine ite2 (fun c1 => ?_) (fun c1 => ?_)
            · have c1 : (!inV (.int c) (vnats (seats y0 y1 x))) = true := c1
              rw [ei] at c1
              refine ⟨_, rfl, by show 2 ≤ sizeLine; decide, fun q hq => ⟨q, rfl, ?_, same_new s13 hq⟩⟩
              have ec : cutFt (stZ y0 y1 x c) c = some (.num 6 c) := by rw [bn_t c1]; rfl
              have : orFt none (cutFt (stZ ([y0, y1, y2, y3].getD 0 "") ([y0, y1, y2, y3].getD 1 "") x c) c) = some (.num 6 c) := ec
              rw [this]
              exact SqL.of upd_same
            · have c1 : ¬ (!inV (.int c) (vnats (seats y0 y1 x))) = true := c1
              rw [ei] at c1
              have ec : cutFt (stZ y0 y1 x c) c = none := by rw [bn_f c1]; rfl
              have : orFt none (cutFt (stZ ([y0, y1, y2, y3].getD 0 "") ([y0, y1, y2, y3].getD 1 "") x c) c) = none := ec
              refine ⟨p, rfl, ?_, s13⟩
              rw [this]
              rw [qo] at ep11
              exact sameL s12 ep11
      rintro σ H10 ⟨p, rfl, ep, s10⟩
      have no3 : orFt (orFt (ruleFt xs) (orFt (filmFt x) (filmFt y))) (cutFt (stZ (xs.getD 0 "") (xs.getD 1 "") x c) c) = none → ruleFt xs = none := fun h => by
        cases q : orFt (ruleFt xs) (orFt (filmFt x) (filmFt y)) with
        | none => exact no2 q
        | some f => rw [q] at h; cases h
      have ok3 := orFt_ok ok2 (cutFt_ok (b := stZ (xs.getD 0 "") (xs.getD 1 "") x c) bc)
      refine ⟨fun σ H' => ∃ p, σ = [some (.ref sk), some (.str s), some (.int hi), some (.int size), some (.int i), some (.ref j), some (.str x), some (.str y), some (.int c), some (.int t), some (.ref p), x11, x12] ∧ SqL K H' p (ftList j (orFt (orFt (orFt (ruleFt xs) (orFt (filmFt x) (filmFt y))) (cutFt (stZ (xs.getD 0 "") (xs.getD 1 "") x c) c)) (cutFt (stZ (xs.getD 2 "") (xs.getD 3 "") y t) t))) ∧ Same H9 H', ?_, ?_⟩
      · refine ⟨_, rfl, by show 0 ≤ sizeLine; decide, fun z hz => ?_⟩
        have s11 := same_new (u := .lst []) s10 hz
        have ep11 := sameL (same_new (u := .lst []) (Same.refl _) hz) ep
        refine ⟨_, _, .lst ep11 (dp_ft (sameT s11 hj) _), .lst (SqL.of upd_same) .nil, shaped_ft tj5 ok3, shaped_nil, _, rfl, ?_⟩
        rw [eqv_ft]
        cases qo : (orFt (orFt (ruleFt xs) (orFt (filmFt x) (filmFt y))) (cutFt (stZ (xs.getD 0 "") (xs.getD 1 "") x c) c)) with
        | some f => exact iteF (iteF ⟨p, rfl, by rw [qo] at ep11; exact ep11, s11⟩)
        | none =>
          have rn := no3 qo
          obtain ⟨n4, e0, e3⟩ := rule_no rn
          obtain ⟨y0, y1, y2, y3, rfl⟩ := of_four n4
          replace e0 : eS y0 = false := e0
          replace e3 : eS y3 = false := e3
          have hj11 := sameT s11 hj
          refine iteT ?_
          refine ⟨_, rfl, _, rfl, j, _, 2, _, rfl, rfl, hj11, atI_nat (j := 2) rfl, _, rfl, j, _, 3, _, rfl, rfl, hj11, atI_nat (j := 3) rfl, _, rfl, y2, y3, y, rfl, (txs y2 (by simp)).mono (by decide), (txs y3 (by simp)).mono (by decide), ty5, ?_, fun l2 H12 hl2 s12 el2 => ?_⟩
          · have := ne_len e3
            rw [Str.length_append]
            omega
          · have s13 := s11.trans s12
            refine ⟨l2, _, rfl, .inl (SqL.of el2), rfl, nats_flat _, _, rfl, ?_⟩
            have ei : inV (.int t) (vnats (seats y2 y3 y)) = stZ y2 y3 y t := seats_mem
            refine ite2 (fun c1 => ?_) (fun c1 => ?_)
            · have c1 : (!inV (.int t) (vnats (seats y2 y3 y))) = true := c1
              rw [ei] at c1
              refine ⟨_, rfl, by show 2 ≤ sizeLine; decide, fun q hq => ⟨q, rfl, ?_, same_new s13 hq⟩⟩
              have ec : cutFt (stZ y2 y3 y t) t = some (.num 6 t) := by rw [bn_t c1]; rfl
              have : orFt none (cutFt (stZ ([y0, y1, y2, y3].getD 2 "") ([y0, y1, y2, y3].getD 3 "") y t) t) = some (.num 6 t) := ec
              rw [this]
              exact SqL.of upd_same
            · have c1 : ¬ (!inV (.int t) (vnats (seats y2 y3 y))) = true := c1
              rw [ei] at c1
              have ec : cutFt (stZ y2 y3 y t) t = none := by rw [bn_f c1]; rfl
              have : orFt none (cutFt (stZ ([y0, y1, y2, y3].getD 2 "") ([y0, y1, y2, y3].getD 3 "") y t) t) = none := ec
              refine ⟨p, rfl, ?_, s13⟩
              rw [this]
              rw [qo] at ep11
              exact sameL s12 ep11
      rintro σ H10 ⟨p, rfl, ep, s10⟩
      have e4 : orFt (orFt (orFt (ruleFt xs) (orFt (filmFt x) (filmFt y))) (cutFt (stZ (xs.getD 0 "") (xs.getD 1 "") x c) c)) (cutFt (stZ (xs.getD 2 "") (xs.getD 3 "") y t) t) = splFt xs x c y t := by unfold splFt; simp only [Sf.or_assoc]
      have ok4 := orFt_ok ok3 (cutFt_ok (b := stZ (xs.getD 2 "") (xs.getD 3 "") y t) bt)
      rw [e4] at ep ok4
      have ex : ∀ y ∈ xs, Tx 400 y := fun y hy => (txs y hy).mono (by decide)
      have xl := tx400.len
      have yl := ty400.len
      have l1 := cutS_length x none (some c)
      have l2 := cutS_length y (some t) none
      have tsp : Tx 5000 (splice x c y t) := ((tx400.cut none (some c)).append (ty400.cut (some t) none)).mono (by decide)
      refine ⟨fun σ H' => ∃ d, σ = [some (.ref sk), some (.str s), some (.int hi), some (.int size), some (.int i), some (.ref j), some (.str x), some (.str y), some (.int c), some (.int t), some (.ref p), some (.ref d), x12] ∧ Dp K H' (.ref d) (dueDat xs x c y t) ∧ Same H9 H', ?_, ?_⟩
      · refine ⟨_, rfl, by show 0 ≤ sizeLine; decide, fun z hz => ?_⟩
        have s11 := same_new (u := .lst []) s10 hz
        have ep11 := sameL (same_new (u := .lst []) (Same.refl _) hz) ep
        refine ⟨_, _, .lst ep11 (dp_ft (sameT s11 hj) _), .lst (SqL.of upd_same) .nil, shaped_ft tj5 ok4, shaped_nil, _, rfl, ?_⟩
        rw [eqv_ft]
        cases qo : splFt xs x c y t with
        | none =>
          have ed : dueDat xs x c y t = splDat (splice x c y t) := by unfold dueDat; rw [qo]
          rw [ed]
          refine iteT ?_
          refine ⟨by show 0 ≤ sizeLine; decide, fun e he => ?_⟩
          refine ⟨_, rfl, _, rfl, _, rfl, x, rfl, tx400.line (by decide), _, rfl, _, rfl, _, rfl, y, rfl, ty400.line (by decide), _, _, rfl, rfl, small_line (by omega), by show 3 ≤ sizeLine; decide, fun d hd => ?_⟩
          have s12 := same_new (u := .lst []) s11 he
          exact ⟨d, rfl, .tup (SqT.of upd_same) (.cons (.lst (SqL.of (upd_old upd_same hd)) .nil) (.cons (.str _) (.cons (.str _) .nil))), same_new s12 hd⟩
        | some f =>
          have ed : dueDat xs x c y t = errDat3 xs f := by unfold dueDat; rw [qo]
          rw [ed]
          rw [qo] at ep11
          refine iteF ?_
          refine ⟨_, rfl, p, j, xs, some f, rfl, ep11, sameT s11 hj, tj5, fun g hg => ok4 g (by rw [qo]; exact hg), fun z => False.elim (by cases z), fun g hg t2 q2 H14 ht2 hq2 nq s16 eq2 et2 => ?_⟩
          cases hg
          refine ⟨by show 1 ≤ sizeLine; decide, fun u hu => ?_⟩
          refine ⟨t2, u, _, _, rfl, rfl, SqT.of (upd_old et2 hu), SqT.of upd_same, List.cons_ne_nil _ _, by show 3 ≤ sizeLine; decide, fun z => absurd z (List.cons_ne_nil _ _), fun _ v hv => ?_⟩
          have s17 := same_new (u := .tup [.str ""]) (s11.trans s16) hu
          have s18 := same_new (u := .tup [.ref q2, f.val j, .str ""]) s17 hv
          exact ⟨v, rfl, .tup (SqT.of upd_same) (.cons (.lst (SqL.of (upd_old (upd_old eq2 hu) hv)) (DpAll.bools _)) (.cons (f.dp (sameT s18 hj)) (.cons (.str _) .nil))), s18⟩
      rintro σ H11 ⟨d, rfl, dd, s11⟩
      refine ⟨by show 2 ≤ sizeLine; decide, fun tp htp => ⟨tp, rfl, ⟨_, SqT.of upd_same⟩, ?_⟩⟩
      have s12 := same_new (u := .tup [.bl false, .bl true]) s11 htp
      have sd := same_new (u := .tup [.bl false, .bl true]) (Same.refl H11) htp
      refine for_tup (xs := [.bl false, .bl true]) (fun i2 σ H' => ∃ x12, σ = [some (.ref sk), some (.str s), some (.int hi), some (.int size), some (.int i), some (.ref j), some (.str x), some (.str y), some (.int c), some (.int t), some (.ref p), some (.ref d), x12] ∧ Same (upd H11 tp (.tup [.bl false, .bl true])) H') ⟨_, rfl, Same.refl _⟩ (fun i σ H' _ q => by obtain ⟨_, _, s1⟩ := q; exact SqT.of (s1 tp _ upd_same)) ?_ ?_
      · rintro i2 v σ H12 hv ⟨x12, rfl, s13⟩
        have vb : ∃ b, v = .bl b := by
          have : i2 = 0 ∨ i2 = 1 ∨ 2 ≤ i2 := by omega
          rcases this with rfl | rfl | z
          · cases hv; exact ⟨_, rfl⟩
          · cases hv; exact ⟨_, rfl⟩
          · rw [List.getElem?_eq_none (by exact z)] at hv
            cases hv
        obtain ⟨b, rfl⟩ := vb
        have s14 := s12.trans s13
        have sk13 := sd.trans s13
        refine ⟨_, rfl, _, rfl, _, rfl, _, rfl, _, rfl, _, rfl, j, xs, x, y, c, t, b, rfl, sameT s14 hj, tj5, tx400.mono (by decide), ty400.mono (by decide), ⟨bc, bt⟩, fun f hf t2 q2 H13 ht2 s15 et eq => ?_, fun hf t2 q2 H13 ht2 s15 et eq => ?_⟩
        · have ed : dueDat xs x c y t = errDat3 xs f := by unfold dueDat; rw [hf]
          have sz := errDat3_sz ex (by omega) (ok4 f hf)
          refine ⟨_, errDat3 xs f, rfl, .tup (SqT.of et) (.cons (.lst (SqL.of eq) (DpAll.bools _)) (.cons (f.dp (sameT (s14.trans s15) hj)) (.cons (.str _) .nil))), sz.sh, Nat.le_trans sz.ln (by decide), Nat.le_trans sz.dp (by decide), ?_⟩
          refine ⟨_, rfl, _, errDat3 xs f, rfl, by rw [← ed]; exact Dp.mono (sk13.trans s15) _ _ dd, sz.sh, Nat.le_trans sz.ln (by decide), Nat.le_trans sz.dp (by decide), ?_⟩
          refine ⟨rfl, _, rfl, ?_⟩
          rw [decide_eq_true rfl]
          exact iteF ⟨_, rfl, s13.trans s15⟩
        · have ed : dueDat xs x c y t = splDat (splice x c y t) := by unfold dueDat; rw [hf]
          have sz := splDat_sz tsp
          refine ⟨_, splDat (splice x c y t), rfl, .tup (SqT.of et) (.cons (.lst (SqL.of eq) .nil) (.cons (.str _) (.cons (.str _) .nil))), sz.sh, Nat.le_trans sz.ln (by decide), Nat.le_trans sz.dp (by decide), ?_⟩
          refine ⟨_, rfl, _, splDat (splice x c y t), rfl, by rw [← ed]; exact Dp.mono (sk13.trans s15) _ _ dd, sz.sh, Nat.le_trans sz.ln (by decide), Nat.le_trans sz.dp (by decide), ?_⟩
          refine ⟨rfl, _, rfl, ?_⟩
          rw [decide_eq_true rfl]
          exact iteF ⟨_, rfl, s13.trans s15⟩
      · rintro σ H12 ⟨x12, rfl, s13⟩
        have s14 := s12.trans s13
        exact ⟨_, _, _, _, _, _, _, _, _, rfl, (sk_same sk9 s14).mono (by omega), kp_same kp9 s14⟩
  · rintro σ H4 ⟨x4, x5, x6, x7, x8, x9, x10, x11, x12, rfl, sk4, kp4⟩
    exact k _ kp4
end
end K7

namespace K7
open PySem PySem.Spec PyProof.Rows L2 Sf
section
variable {P : Program} {w : World} {K : PySem.W.Frag} {mg : Str → Option Value} {base : Heap} {a : Ad}
abbrev s_purse : Stmt := top 33
theorem sc_purse : FnScope ["script", "spot", "cell"] ["script", "spot"] (defScope s_purse) := ⟨rfl, rfl, rfl, by decide +kernel, rfl, by decide +kernel, by decide +kernel⟩
def spPurse (K : PySem.W.Frag) : Sp := fun vs H Q _ => ∃ (a : Addr) (ns : List Int) (s : Nat), vs = [.ref a, .int s] ∧ SqL K H a (ns.map V.int) ∧ ns.length ≤ 63 ∧ (∀ z ∈ ns, Builtin.Int.intBits z ≤ 1048576) ∧ s ≤ 100 ∧
  ∀ p H', H p = none → Sk 0 H' p → Kp p H H' → Q (.ref p) H'
theorem ok_purse {f : Addr} {fd : FuncData} (F : Fun K "_law_fm_purse" "_law_fm_purse" s_purse f fd) (T : Txt K mg a) : FnOk P w K mg base CX0 1 f fd ["script", "spot"] (spPurse K) := by
  refine F.ok sc_purse (fun vs H Q E h => by obtain ⟨a, ns, s, rfl, _⟩ := h; rfl) (fun cdv A outer s H vs Q E hr h => ?_)
  refine ⟨_, (pss_cons (ps_set (i := 2) sc_purse.nd rfl (Or.inl rfl) (pe_ifExp (pt_cmpR op_lt (pv 1) (pe_callB call_len_seq (by rfl) T.b_len PySem.boot_len (pa_cons (pv 0) pa_nil)) (nomark _)) (pe_ix ix_list (pv 0) (pv 1) (fun _ _ => rfl)) pe_int))
      (pss_one (ps_ret (pe_lst (pa_cons (pe_callB (call_max2 rfl) (by rfl) T.b_max (by decide +kernel) (pa_cons pe_int (pa_cons (pe_op op_sub (pe_callB call_abs (by rfl) T.b_abs (by decide +kernel) (pa_cons (pv 2) pa_nil)) (pe_op op_powX pe_int pe_int)) pa_nil))) (pa_cons (pe_op op_mod (pe_callTy call_int1 (by rfl) T.b_int (by decide +kernel) (pa_cons (pe_op op_add (pe_op op_add (pe_op op_mulX (pv 2) pe_int) (pe_op op_mulX (pv 1) pe_int)) pe_int) pa_nil)) (pe_op op_add (pe_op op_powX pe_int pe_int) pe_int)) (pa_cons pe_int pa_nil))))))), ?_⟩
  obtain ⟨a, ns, s, rfl, hS, hl, hb, hs, k⟩ := h
  have lit : Builtin.Int.intBits 30011 ≤ 15 := bits_le (by decide)
  have lit2 : Builtin.Int.intBits 7368787 ≤ 23 := bits_le (by decide)
  have lit3 : Builtin.Int.intBits (s : Int) ≤ 7 := bits_in (by omega) (by omega)
  have z0 : Builtin.Int.intBits 0 ≤ 1048576 := by decide
  refine ⟨_, rfl, _, rfl, a, _, rfl, .inl hS, _, _, rfl, rfl, _, rfl, ?_⟩
  rw [List.length_map]
  have cell : ∀ x : Nat, (h : x < ns.length) → Builtin.Int.intBits ns[x] ≤ 1048576 := fun x h => hb _ (List.getElem_mem h)
  refine ite2 (fun c => ?_) (fun c => ?_)
  · have lt : s < ns.length := by
      have := of_decide_eq_true c
      omega
    have hm : ns[s]? = some ns[s] := List.getElem?_eq_getElem lt
    have z0 := cell s lt
    refine ⟨_, rfl, _, rfl, a, _, s, .int ns[s], rfl, rfl, hS, atI_nat (by rw [List.getElem?_map, hm]; rfl), ?_⟩
    refine ⟨_, rfl, _, rfl, _, _, rfl, rfl, ⟨by decide, pow_ok (n := 4) (by decide) (by decide) (by decide) (by decide)⟩, _, _, rfl, rfl, _, _, rfl, ?_⟩
    refine ⟨_, rfl, _, _, rfl, rfl, (by show _ + _ ≤ _; omega), _, rfl, _, _, rfl, rfl, (by show _ + _ ≤ _; omega), _, _, rfl, rfl, _, _, rfl, rfl, .inl ⟨_, rfl, ?_⟩⟩
    refine ⟨_, _, rfl, rfl, ⟨by decide, pow_ok (n := 4) (by decide) (by decide) (by decide) (by decide)⟩, _, _, rfl, rfl, _, _, rfl, rfl, (by show (0 : Int) < _; decide), ?_⟩
    refine ⟨by show 3 ≤ sizeLine; decide, fun p hp => ?_⟩
    refine k p _ hp ⟨_, _, _, upd_same, Int.emod_nonneg _ (by decide), Int.lt_of_lt_of_le (Int.emod_lt_of_pos _ (by decide)) (by decide), Int.le_refl _, Int.le_refl _⟩ (fun b o nb h => by rw [upd_ne nb]; exact h)
  · refine ⟨_, rfl, _, rfl, _, _, rfl, rfl, ⟨by decide, pow_ok (n := 4) (by decide) (by decide) (by decide) (by decide)⟩, _, _, rfl, rfl, _, _, rfl, ?_⟩
    refine ⟨_, rfl, _, _, rfl, rfl, (by show _ + _ ≤ _; omega), _, rfl, _, _, rfl, rfl, (by show _ + _ ≤ _; omega), _, _, rfl, rfl, _, _, rfl, rfl, .inl ⟨_, rfl, ?_⟩⟩
    refine ⟨_, _, rfl, rfl, ⟨by decide, pow_ok (n := 4) (by decide) (by decide) (by decide) (by decide)⟩, _, _, rfl, rfl, _, _, rfl, rfl, (by show (0 : Int) < _; decide), ?_⟩
    refine ⟨by show 3 ≤ sizeLine; decide, fun p hp => ?_⟩
    refine k p _ hp ⟨_, _, _, upd_same, Int.emod_nonneg _ (by decide), Int.lt_of_lt_of_le (Int.emod_lt_of_pos _ (by decide)) (by decide), Int.le_refl _, Int.le_refl _⟩ (fun b o nb h => by rw [upd_ne nb]; exact h)
abbrev s_law : Stmt := top 37
theorem sc_law : FnScope ["script", "spot", "sack"] ["script"] (defScope s_law) := ⟨rfl, rfl, rfl, by decide +kernel, rfl, by decide +kernel, by decide +kernel⟩
def spLaw (K : PySem.W.Frag) : Sp := fun vs H Q _ => ∃ (a : Addr) (ns : List Int), vs = [.ref a] ∧ SqL K H a (ns.map V.int) ∧ ns.length ≤ 63 ∧ (∀ z ∈ ns, Builtin.Int.intBits z ≤ 1048576) ∧ ∀ H', Q (.bl true) H'
theorem ok_law {f : Addr} {fd fdP fdR : FuncData} (F : Fun K "law" "law" s_law f fd) (T : Txt K mg a) (c_purse : Cal P w K mg base 1 a.purse fdP ["script", "spot"] (spPurse K)) (c_right : CalG P w K mg base 7 a.right fdR ["sack"] (spRight K)) :
    Gd P w K mg base (7 + 1) f fd ["script"] (spLaw K) := by
  refine okG F sc_law (fun vs H Q E h => by obtain ⟨a, ns, rfl, _⟩ := h; rfl) (fun cdv A outer s H vs Q E hG hr h => ?_)
  have hr_purse := hr.mono (show 1 ≤ 7 by decide)
  have hr_right := hr
  refine ⟨_, (pss_cons (ps_for PassesOwn.never rfl (pi_range1 rfl T.b_range (pa_cons (pe_callB (call_max2 rfl) (by rfl) T.b_max (by decide +kernel) (pa_cons pe_int (pa_cons (pe_callB (call_min2 rfl) (by rfl) T.b_min (by decide +kernel) (pa_cons pe_int (pa_cons (pe_callB call_len_seq (by rfl) T.b_len PySem.boot_len (pa_cons (pv 0) pa_nil)) pa_nil))) pa_nil))) pa_nil)) (pg_name (i := 1) sc_law.nd rfl (Or.inl rfl))
      (pss_cons (ps_set (i := 2) sc_law.nd rfl (Or.inl rfl) (pe_call c_purse.ok hr_purse rfl T.g_purse T.k_purse c_purse.binds .nil pass0 (pa_cons (pv 0) (pa_cons (pv 1) pa_nil))))
      (pss_one (ps_if (pt_not (pt_val (pe_callG hG c_right.go hr_right rfl T.g_right T.k_right c_right.binds (pa_cons (pv 2) pa_nil)))) (pss_one (ps_ret pe_bl)) pss_nil))))
      (pss_one (ps_ret pe_bl))), ?_⟩
  obtain ⟨sc, ns, rfl, hS, hl, hb, k⟩ := h
  refine ⟨_, rfl, sc, _, rfl, .inl hS, _, _, rfl, _, _, rfl, _, rfl, ?_⟩
  rw [List.length_map]
  generalize hm : (if (if ((ns.length : Nat) : Int) < 6 then ((ns.length : Nat) : Int) else 6) > 1 then (if ((ns.length : Nat) : Int) < 6 then ((ns.length : Nat) : Int) else 6) else 1) = m
  have hm8 : 1 ≤ m ∧ m ≤ 6 := by
    subst hm
    split <;> split <;> omega
  refine ⟨by omega, by omega, for_range (lo := 0) (n := m.toNat) (fun i σ H' => ∃ x1 x2, σ = [some (.ref sc), x1, x2] ∧ SqL K H' sc (ns.map V.int)) ⟨_, _, rfl, hS⟩ ?_ ?_⟩
  · rintro i σ H1 hi ⟨x1, x2, rfl, h1⟩
    rw [Int.zero_add]
    refine ⟨_, rfl, _, rfl, sc, ns, i, rfl, h1, hl, hb, by omega, fun p H2 np sk kp => ?_⟩
    refine ⟨_, rfl, p, 0, rfl, sk, by omega, fun H3 kp3 => ⟨_, rfl, ?_⟩⟩
    exact iteF ⟨_, _, rfl, seq_kp h1 np (kp.trans kp3)⟩
  · rintro σ H1 ⟨x1, x2, rfl, h1⟩
    exact k _
end
/-! ### the end -/
theorem all_mk {P : Program} {w : World} {K : PySem.W.Frag} {h : Heap} {mg : Str → Option Value} {fa c0 c1 c2 c3 c4 c5 c6 fI fis_piece fis_film fcheck_film fcheck_piece fcheck_rule fspliced fsplice_of_films fstand_at fcoin fsigns fword fpair fjoin fsites fodd fplain fjoin_fault ffault fbad_join fdue ffull fpurse ftold fany_cut fright flaw : Addr} (X : K.In h) (G : h.Ns mainGlobals mg) (hfa : mg "law" = some (.ref fa))
    {nm0 q0 : Str} {N0 : Addr} {bs0 bm0 : List Value} {sn0 : List Str} {sb0 : List Value} {ab0 : Bool} {co0 : Option Bool} {dd0 : Option Addr} {ma0 mb0 mc0 md0 me0 : Option Value}
    {nm1 q1 : Str} {N1 : Addr} {bs1 bm1 : List Value} {sn1 : List Str} {sb1 : List Value} {ab1 : Bool} {co1 : Option Bool} {dd1 : Option Addr} {ma1 mb1 mc1 md1 me1 : Option Value}
    {nm2 q2 : Str} {N2 : Addr} {bs2 bm2 : List Value} {sn2 : List Str} {sb2 : List Value} {ab2 : Bool} {co2 : Option Bool} {dd2 : Option Addr} {ma2 mb2 mc2 md2 me2 : Option Value}
    {nm3 q3 : Str} {N3 : Addr} {bs3 bm3 : List Value} {sn3 : List Str} {sb3 : List Value} {ab3 : Bool} {co3 : Option Bool} {dd3 : Option Addr} {ma3 mb3 mc3 md3 me3 : Option Value}
    {nm4 q4 : Str} {N4 : Addr} {bs4 bm4 : List Value} {sn4 : List Str} {sb4 : List Value} {ab4 : Bool} {co4 : Option Bool} {dd4 : Option Addr} {ma4 mb4 mc4 md4 me4 : Option Value}
    {nm5 q5 : Str} {N5 : Addr} {bs5 bm5 : List Value} {sn5 : List Str} {sb5 : List Value} {ab5 : Bool} {co5 : Option Bool} {dd5 : Option Addr} {ma5 mb5 mc5 md5 me5 : Option Value}
    {nm6 q6 : Str} {N6 : Addr} {bs6 bm6 : List Value} {sn6 : List Str} {sb6 : List Value} {ab6 : Bool} {co6 : Option Bool} {dd6 : Option Addr} {ma6 mb6 mc6 md6 me6 : Option Value}
    {odI anI : Option Addr} {slI : Array (Option Value)} {ocI kVI dcI pmI cdI ctI : Value}
    {odis_piece anis_piece : Option Addr} {slis_piece : Array (Option Value)} {ocis_piece kVis_piece dcis_piece pmis_piece cdis_piece ctis_piece : Value}
    {odis_film anis_film : Option Addr} {slis_film : Array (Option Value)} {ocis_film kVis_film dcis_film pmis_film cdis_film ctis_film : Value}
    {odcheck_film ancheck_film : Option Addr} {slcheck_film : Array (Option Value)} {occheck_film kVcheck_film dccheck_film pmcheck_film cdcheck_film ctcheck_film : Value}
    {odcheck_piece ancheck_piece : Option Addr} {slcheck_piece : Array (Option Value)} {occheck_piece kVcheck_piece dccheck_piece pmcheck_piece cdcheck_piece ctcheck_piece : Value}
    {odcheck_rule ancheck_rule : Option Addr} {slcheck_rule : Array (Option Value)} {occheck_rule kVcheck_rule dccheck_rule pmcheck_rule cdcheck_rule ctcheck_rule : Value}
    {odspliced anspliced : Option Addr} {slspliced : Array (Option Value)} {ocspliced kVspliced dcspliced pmspliced cdspliced ctspliced : Value}
    {odsplice_of_films ansplice_of_films : Option Addr} {slsplice_of_films : Array (Option Value)} {ocsplice_of_films kVsplice_of_films dcsplice_of_films pmsplice_of_films cdsplice_of_films ctsplice_of_films : Value}
    {odstand_at anstand_at : Option Addr} {slstand_at : Array (Option Value)} {ocstand_at kVstand_at dcstand_at pmstand_at cdstand_at ctstand_at : Value}
    {odcoin ancoin : Option Addr} {slcoin : Array (Option Value)} {occoin kVcoin dccoin pmcoin cdcoin ctcoin : Value}
    {odsigns ansigns : Option Addr} {slsigns : Array (Option Value)} {ocsigns kVsigns dcsigns pmsigns cdsigns ctsigns : Value}
    {odword anword : Option Addr} {slword : Array (Option Value)} {ocword kVword dcword pmword cdword ctword : Value}
    {odpair anpair : Option Addr} {slpair : Array (Option Value)} {ocpair kVpair dcpair pmpair cdpair ctpair : Value}
    {odjoin anjoin : Option Addr} {sljoin : Array (Option Value)} {ocjoin kVjoin dcjoin pmjoin cdjoin ctjoin : Value}
    {odsites ansites : Option Addr} {slsites : Array (Option Value)} {ocsites kVsites dcsites pmsites cdsites ctsites : Value}
    {ododd anodd : Option Addr} {slodd : Array (Option Value)} {ocodd kVodd dcodd pmodd cdodd ctodd : Value}
    {odplain anplain : Option Addr} {slplain : Array (Option Value)} {ocplain kVplain dcplain pmplain cdplain ctplain : Value}
    {odjoin_fault anjoin_fault : Option Addr} {sljoin_fault : Array (Option Value)} {ocjoin_fault kVjoin_fault dcjoin_fault pmjoin_fault cdjoin_fault ctjoin_fault : Value}
    {odfault anfault : Option Addr} {slfault : Array (Option Value)} {ocfault kVfault dcfault pmfault cdfault ctfault : Value}
    {odbad_join anbad_join : Option Addr} {slbad_join : Array (Option Value)} {ocbad_join kVbad_join dcbad_join pmbad_join cdbad_join ctbad_join : Value}
    {oddue andue : Option Addr} {sldue : Array (Option Value)} {ocdue kVdue dcdue pmdue cddue ctdue : Value}
    {odfull anfull : Option Addr} {slfull : Array (Option Value)} {ocfull kVfull dcfull pmfull cdfull ctfull : Value}
    {odpurse anpurse : Option Addr} {slpurse : Array (Option Value)} {ocpurse kVpurse dcpurse pmpurse cdpurse ctpurse : Value}
    {odtold antold : Option Addr} {sltold : Array (Option Value)} {octold kVtold dctold pmtold cdtold cttold : Value}
    {odany_cut anany_cut : Option Addr} {slany_cut : Array (Option Value)} {ocany_cut kVany_cut dcany_cut pmany_cut cdany_cut ctany_cut : Value}
    {odright anright : Option Addr} {slright : Array (Option Value)} {ocright kVright dcright pmright cdright ctright : Value}
    {odlaw anlaw : Option Addr} {sllaw : Array (Option Value)} {oclaw kVlaw dclaw pmlaw cdlaw ctlaw : Value}
    {tPICTURES : Tok}
    (a0 : PySem.W.nsIn K mainGlobals "FilmError" = some (some (.ref c0)))
    (x0 : K.lookup c0 = some (excClassObj nm0 q0 c0 N0 bs0 bm0 true sn0 sb0 ab0 co0 dd0 ma0 mb0 mc0 md0 me0 "ValueError.__new__"))
    (r0 : PySem.HandSPX.refsVE bm0 = true)
    (sa0 : PySem.W.findIn K (.ref c0) "__setattr__" = some (some (.builtin "object.__setattr__")))
    (ga0 : PySem.W.findIn K (.ref c0) "__getattribute__" = some (some (.builtin "BaseException.__getattribute__")))
    (gg0 : PySem.W.findIn K (.ref c0) "__getattr__" = some none)
    (no0 : PySem.W.findIn K (.ref c0) "value" = some none)
    (ini0 : PySem.W.findIn K (.ref c0) "__init__" = some (some (.ref fI)))
    (kp0 : PySem.W.keepIn K (.ref c0) = true)
    (ex0 : PySem.W.subIn K (.ref c0) (.type "BaseException") = some true)
    (ty0 : PySem.W.typeIn K (.ref c0) = some (.type "type"))
    (kl0 : PySem.W.findIn K (.ref c0) "__class__" = some (some (.builtin "object.__class__")))
    (hd0 : PySem.W.hasDictIn K c0 = true)
    (ic0 : PySem.W.isClsIn K c0 = true)
    (ob0 : PySem.W.mroIn K c0 (.type "object") = some true)
    (v0 : PySem.W.subIn K (.ref c0) (.type "ValueError") = some true)
    (a1 : PySem.W.nsIn K mainGlobals "InvalidFilm" = some (some (.ref c1)))
    (x1 : K.lookup c1 = some (excClassObj nm1 q1 c1 N1 bs1 bm1 true sn1 sb1 ab1 co1 dd1 ma1 mb1 mc1 md1 me1 "ValueError.__new__"))
    (r1 : PySem.HandSPX.refsVE bm1 = true)
    (sa1 : PySem.W.findIn K (.ref c1) "__setattr__" = some (some (.builtin "object.__setattr__")))
    (ga1 : PySem.W.findIn K (.ref c1) "__getattribute__" = some (some (.builtin "BaseException.__getattribute__")))
    (gg1 : PySem.W.findIn K (.ref c1) "__getattr__" = some none)
    (no1 : PySem.W.findIn K (.ref c1) "value" = some none)
    (ini1 : PySem.W.findIn K (.ref c1) "__init__" = some (some (.ref fI)))
    (kp1 : PySem.W.keepIn K (.ref c1) = true)
    (ex1 : PySem.W.subIn K (.ref c1) (.type "BaseException") = some true)
    (ty1 : PySem.W.typeIn K (.ref c1) = some (.type "type"))
    (kl1 : PySem.W.findIn K (.ref c1) "__class__" = some (some (.builtin "object.__class__")))
    (hd1 : PySem.W.hasDictIn K c1 = true)
    (ic1 : PySem.W.isClsIn K c1 = true)
    (ob1 : PySem.W.mroIn K c1 (.type "object") = some true)
    (v1 : PySem.W.subIn K (.ref c1) (.type "ValueError") = some true)
    (a2 : PySem.W.nsIn K mainGlobals "InvalidPiece" = some (some (.ref c2)))
    (x2 : K.lookup c2 = some (excClassObj nm2 q2 c2 N2 bs2 bm2 true sn2 sb2 ab2 co2 dd2 ma2 mb2 mc2 md2 me2 "ValueError.__new__"))
    (r2 : PySem.HandSPX.refsVE bm2 = true)
    (sa2 : PySem.W.findIn K (.ref c2) "__setattr__" = some (some (.builtin "object.__setattr__")))
    (ga2 : PySem.W.findIn K (.ref c2) "__getattribute__" = some (some (.builtin "BaseException.__getattribute__")))
    (gg2 : PySem.W.findIn K (.ref c2) "__getattr__" = some none)
    (no2 : PySem.W.findIn K (.ref c2) "value" = some none)
    (ini2 : PySem.W.findIn K (.ref c2) "__init__" = some (some (.ref fI)))
    (kp2 : PySem.W.keepIn K (.ref c2) = true)
    (ex2 : PySem.W.subIn K (.ref c2) (.type "BaseException") = some true)
    (ty2 : PySem.W.typeIn K (.ref c2) = some (.type "type"))
    (kl2 : PySem.W.findIn K (.ref c2) "__class__" = some (some (.builtin "object.__class__")))
    (hd2 : PySem.W.hasDictIn K c2 = true)
    (ic2 : PySem.W.isClsIn K c2 = true)
    (ob2 : PySem.W.mroIn K c2 (.type "object") = some true)
    (v2 : PySem.W.subIn K (.ref c2) (.type "ValueError") = some true)
    (a3 : PySem.W.nsIn K mainGlobals "InvalidRule" = some (some (.ref c3)))
    (x3 : K.lookup c3 = some (excClassObj nm3 q3 c3 N3 bs3 bm3 true sn3 sb3 ab3 co3 dd3 ma3 mb3 mc3 md3 me3 "ValueError.__new__"))
    (r3 : PySem.HandSPX.refsVE bm3 = true)
    (sa3 : PySem.W.findIn K (.ref c3) "__setattr__" = some (some (.builtin "object.__setattr__")))
    (ga3 : PySem.W.findIn K (.ref c3) "__getattribute__" = some (some (.builtin "BaseException.__getattribute__")))
    (gg3 : PySem.W.findIn K (.ref c3) "__getattr__" = some none)
    (no3 : PySem.W.findIn K (.ref c3) "value" = some none)
    (ini3 : PySem.W.findIn K (.ref c3) "__init__" = some (some (.ref fI)))
    (kp3 : PySem.W.keepIn K (.ref c3) = true)
    (ex3 : PySem.W.subIn K (.ref c3) (.type "BaseException") = some true)
    (ty3 : PySem.W.typeIn K (.ref c3) = some (.type "type"))
    (kl3 : PySem.W.findIn K (.ref c3) "__class__" = some (some (.builtin "object.__class__")))
    (hd3 : PySem.W.hasDictIn K c3 = true)
    (ic3 : PySem.W.isClsIn K c3 = true)
    (ob3 : PySem.W.mroIn K c3 (.type "object") = some true)
    (v3 : PySem.W.subIn K (.ref c3) (.type "ValueError") = some true)
    (a4 : PySem.W.nsIn K mainGlobals "UnknownStrip" = some (some (.ref c4)))
    (x4 : K.lookup c4 = some (excClassObj nm4 q4 c4 N4 bs4 bm4 true sn4 sb4 ab4 co4 dd4 ma4 mb4 mc4 md4 me4 "ValueError.__new__"))
    (r4 : PySem.HandSPX.refsVE bm4 = true)
    (sa4 : PySem.W.findIn K (.ref c4) "__setattr__" = some (some (.builtin "object.__setattr__")))
    (ga4 : PySem.W.findIn K (.ref c4) "__getattribute__" = some (some (.builtin "BaseException.__getattribute__")))
    (gg4 : PySem.W.findIn K (.ref c4) "__getattr__" = some none)
    (no4 : PySem.W.findIn K (.ref c4) "value" = some none)
    (ini4 : PySem.W.findIn K (.ref c4) "__init__" = some (some (.ref fI)))
    (kp4 : PySem.W.keepIn K (.ref c4) = true)
    (ex4 : PySem.W.subIn K (.ref c4) (.type "BaseException") = some true)
    (ty4 : PySem.W.typeIn K (.ref c4) = some (.type "type"))
    (kl4 : PySem.W.findIn K (.ref c4) "__class__" = some (some (.builtin "object.__class__")))
    (hd4 : PySem.W.hasDictIn K c4 = true)
    (ic4 : PySem.W.isClsIn K c4 = true)
    (ob4 : PySem.W.mroIn K c4 (.type "object") = some true)
    (v4 : PySem.W.subIn K (.ref c4) (.type "ValueError") = some true)
    (a5 : PySem.W.nsIn K mainGlobals "UnknownRule" = some (some (.ref c5)))
    (x5 : K.lookup c5 = some (excClassObj nm5 q5 c5 N5 bs5 bm5 true sn5 sb5 ab5 co5 dd5 ma5 mb5 mc5 md5 me5 "ValueError.__new__"))
    (r5 : PySem.HandSPX.refsVE bm5 = true)
    (sa5 : PySem.W.findIn K (.ref c5) "__setattr__" = some (some (.builtin "object.__setattr__")))
    (ga5 : PySem.W.findIn K (.ref c5) "__getattribute__" = some (some (.builtin "BaseException.__getattribute__")))
    (gg5 : PySem.W.findIn K (.ref c5) "__getattr__" = some none)
    (no5 : PySem.W.findIn K (.ref c5) "value" = some none)
    (ini5 : PySem.W.findIn K (.ref c5) "__init__" = some (some (.ref fI)))
    (kp5 : PySem.W.keepIn K (.ref c5) = true)
    (ex5 : PySem.W.subIn K (.ref c5) (.type "BaseException") = some true)
    (ty5 : PySem.W.typeIn K (.ref c5) = some (.type "type"))
    (kl5 : PySem.W.findIn K (.ref c5) "__class__" = some (some (.builtin "object.__class__")))
    (hd5 : PySem.W.hasDictIn K c5 = true)
    (ic5 : PySem.W.isClsIn K c5 = true)
    (ob5 : PySem.W.mroIn K c5 (.type "object") = some true)
    (v5 : PySem.W.subIn K (.ref c5) (.type "ValueError") = some true)
    (a6 : PySem.W.nsIn K mainGlobals "NoSplice" = some (some (.ref c6)))
    (x6 : K.lookup c6 = some (excClassObj nm6 q6 c6 N6 bs6 bm6 true sn6 sb6 ab6 co6 dd6 ma6 mb6 mc6 md6 me6 "ValueError.__new__"))
    (r6 : PySem.HandSPX.refsVE bm6 = true)
    (sa6 : PySem.W.findIn K (.ref c6) "__setattr__" = some (some (.builtin "object.__setattr__")))
    (ga6 : PySem.W.findIn K (.ref c6) "__getattribute__" = some (some (.builtin "BaseException.__getattribute__")))
    (gg6 : PySem.W.findIn K (.ref c6) "__getattr__" = some none)
    (no6 : PySem.W.findIn K (.ref c6) "value" = some none)
    (ini6 : PySem.W.findIn K (.ref c6) "__init__" = some (some (.ref fI)))
    (kp6 : PySem.W.keepIn K (.ref c6) = true)
    (ex6 : PySem.W.subIn K (.ref c6) (.type "BaseException") = some true)
    (ty6 : PySem.W.typeIn K (.ref c6) = some (.type "type"))
    (kl6 : PySem.W.findIn K (.ref c6) "__class__" = some (some (.builtin "object.__class__")))
    (hd6 : PySem.W.hasDictIn K c6 = true)
    (ic6 : PySem.W.isClsIn K c6 = true)
    (ob6 : PySem.W.mroIn K c6 (.type "object") = some true)
    (v6 : PySem.W.subIn K (.ref c6) (.type "ValueError") = some true)
    (spO : PySem.W.specialIn K (.builtin "object.__class__") "__get__" = some (some (.builtin "getset_descriptor.__get__")))
    (tkO : PySem.W.takesIn K (.builtin "object.__class__") = some true)
    (tyI : PySem.W.typeIn K (.ref fI) = some (.type "function"))
    (s0_0 : PySem.W.subIn K (.ref c0) (.ref c0) = some true)
    (s0_1 : PySem.W.subIn K (.ref c0) (.ref c1) = some false)
    (s0_2 : PySem.W.subIn K (.ref c0) (.ref c2) = some false)
    (s0_3 : PySem.W.subIn K (.ref c0) (.ref c3) = some false)
    (s0_4 : PySem.W.subIn K (.ref c0) (.ref c4) = some false)
    (s0_5 : PySem.W.subIn K (.ref c0) (.ref c5) = some false)
    (s0_6 : PySem.W.subIn K (.ref c0) (.ref c6) = some false)
    (s1_0 : PySem.W.subIn K (.ref c1) (.ref c0) = some true)
    (s1_1 : PySem.W.subIn K (.ref c1) (.ref c1) = some true)
    (s1_2 : PySem.W.subIn K (.ref c1) (.ref c2) = some false)
    (s1_3 : PySem.W.subIn K (.ref c1) (.ref c3) = some false)
    (s1_4 : PySem.W.subIn K (.ref c1) (.ref c4) = some false)
    (s1_5 : PySem.W.subIn K (.ref c1) (.ref c5) = some false)
    (s1_6 : PySem.W.subIn K (.ref c1) (.ref c6) = some false)
    (s2_0 : PySem.W.subIn K (.ref c2) (.ref c0) = some true)
    (s2_1 : PySem.W.subIn K (.ref c2) (.ref c1) = some false)
    (s2_2 : PySem.W.subIn K (.ref c2) (.ref c2) = some true)
    (s2_3 : PySem.W.subIn K (.ref c2) (.ref c3) = some false)
    (s2_4 : PySem.W.subIn K (.ref c2) (.ref c4) = some false)
    (s2_5 : PySem.W.subIn K (.ref c2) (.ref c5) = some false)
    (s2_6 : PySem.W.subIn K (.ref c2) (.ref c6) = some false)
    (s3_0 : PySem.W.subIn K (.ref c3) (.ref c0) = some true)
    (s3_1 : PySem.W.subIn K (.ref c3) (.ref c1) = some false)
    (s3_2 : PySem.W.subIn K (.ref c3) (.ref c2) = some false)
    (s3_3 : PySem.W.subIn K (.ref c3) (.ref c3) = some true)
    (s3_4 : PySem.W.subIn K (.ref c3) (.ref c4) = some false)
    (s3_5 : PySem.W.subIn K (.ref c3) (.ref c5) = some false)
    (s3_6 : PySem.W.subIn K (.ref c3) (.ref c6) = some false)
    (s4_0 : PySem.W.subIn K (.ref c4) (.ref c0) = some true)
    (s4_1 : PySem.W.subIn K (.ref c4) (.ref c1) = some false)
    (s4_2 : PySem.W.subIn K (.ref c4) (.ref c2) = some false)
    (s4_3 : PySem.W.subIn K (.ref c4) (.ref c3) = some false)
    (s4_4 : PySem.W.subIn K (.ref c4) (.ref c4) = some true)
    (s4_5 : PySem.W.subIn K (.ref c4) (.ref c5) = some false)
    (s4_6 : PySem.W.subIn K (.ref c4) (.ref c6) = some false)
    (s5_0 : PySem.W.subIn K (.ref c5) (.ref c0) = some true)
    (s5_1 : PySem.W.subIn K (.ref c5) (.ref c1) = some false)
    (s5_2 : PySem.W.subIn K (.ref c5) (.ref c2) = some false)
    (s5_3 : PySem.W.subIn K (.ref c5) (.ref c3) = some false)
    (s5_4 : PySem.W.subIn K (.ref c5) (.ref c4) = some false)
    (s5_5 : PySem.W.subIn K (.ref c5) (.ref c5) = some true)
    (s5_6 : PySem.W.subIn K (.ref c5) (.ref c6) = some false)
    (s6_0 : PySem.W.subIn K (.ref c6) (.ref c0) = some true)
    (s6_1 : PySem.W.subIn K (.ref c6) (.ref c1) = some false)
    (s6_2 : PySem.W.subIn K (.ref c6) (.ref c2) = some false)
    (s6_3 : PySem.W.subIn K (.ref c6) (.ref c3) = some false)
    (s6_4 : PySem.W.subIn K (.ref c6) (.ref c4) = some false)
    (s6_5 : PySem.W.subIn K (.ref c6) (.ref c5) = some false)
    (s6_6 : PySem.W.subIn K (.ref c6) (.ref c6) = some true)
    (lI : K.lookup fI = some ⟨ocI, odI, .func (PySem.W.fnOf "__init__" "FilmError.__init__" (defArgs s_FilmError___init__) (defBody s_FilmError___init__) (defScope s_FilmError___init__) .none kVI dcI pmI anI cdI ctI), slI⟩)
    (oI : PySem.W.codeIn K cdI "FilmError.__init__" = true)
    (kI : PySem.W.keepIn K (.ref fI) = true)
    (gis_piece : PySem.W.nsIn K mainGlobals "is_piece" = some (some (.ref fis_piece)))
    (lis_piece : K.lookup fis_piece = some ⟨ocis_piece, odis_piece, .func (PySem.W.fnOf "is_piece" "is_piece" (defArgs s_is_piece) (defBody s_is_piece) (defScope s_is_piece) .none kVis_piece dcis_piece pmis_piece anis_piece cdis_piece ctis_piece), slis_piece⟩)
    (ois_piece : PySem.W.codeIn K cdis_piece "is_piece" = true)
    (kis_piece : PySem.W.keepIn K (.ref fis_piece) = true)
    (gis_film : PySem.W.nsIn K mainGlobals "is_film" = some (some (.ref fis_film)))
    (lis_film : K.lookup fis_film = some ⟨ocis_film, odis_film, .func (PySem.W.fnOf "is_film" "is_film" (defArgs s_is_film) (defBody s_is_film) (defScope s_is_film) .none kVis_film dcis_film pmis_film anis_film cdis_film ctis_film), slis_film⟩)
    (ois_film : PySem.W.codeIn K cdis_film "is_film" = true)
    (kis_film : PySem.W.keepIn K (.ref fis_film) = true)
    (gcheck_film : PySem.W.nsIn K mainGlobals "check_film" = some (some (.ref fcheck_film)))
    (lcheck_film : K.lookup fcheck_film = some ⟨occheck_film, odcheck_film, .func (PySem.W.fnOf "check_film" "check_film" (defArgs s_check_film) (defBody s_check_film) (defScope s_check_film) .none kVcheck_film dccheck_film pmcheck_film ancheck_film cdcheck_film ctcheck_film), slcheck_film⟩)
    (ocheck_film : PySem.W.codeIn K cdcheck_film "check_film" = true)
    (kcheck_film : PySem.W.keepIn K (.ref fcheck_film) = true)
    (gcheck_piece : PySem.W.nsIn K mainGlobals "check_piece" = some (some (.ref fcheck_piece)))
    (lcheck_piece : K.lookup fcheck_piece = some ⟨occheck_piece, odcheck_piece, .func (PySem.W.fnOf "check_piece" "check_piece" (defArgs s_check_piece) (defBody s_check_piece) (defScope s_check_piece) .none kVcheck_piece dccheck_piece pmcheck_piece ancheck_piece cdcheck_piece ctcheck_piece), slcheck_piece⟩)
    (ocheck_piece : PySem.W.codeIn K cdcheck_piece "check_piece" = true)
    (kcheck_piece : PySem.W.keepIn K (.ref fcheck_piece) = true)
    (gcheck_rule : PySem.W.nsIn K mainGlobals "check_rule" = some (some (.ref fcheck_rule)))
    (lcheck_rule : K.lookup fcheck_rule = some ⟨occheck_rule, odcheck_rule, .func (PySem.W.fnOf "check_rule" "check_rule" (defArgs s_check_rule) (defBody s_check_rule) (defScope s_check_rule) .none kVcheck_rule dccheck_rule pmcheck_rule ancheck_rule cdcheck_rule ctcheck_rule), slcheck_rule⟩)
    (ocheck_rule : PySem.W.codeIn K cdcheck_rule "check_rule" = true)
    (kcheck_rule : PySem.W.keepIn K (.ref fcheck_rule) = true)
    (gspliced : PySem.W.nsIn K mainGlobals "spliced" = some (some (.ref fspliced)))
    (lspliced : K.lookup fspliced = some ⟨ocspliced, odspliced, .func (PySem.W.fnOf "spliced" "spliced" (defArgs s_spliced) (defBody s_spliced) (defScope s_spliced) .none kVspliced dcspliced pmspliced anspliced cdspliced ctspliced), slspliced⟩)
    (ospliced : PySem.W.codeIn K cdspliced "spliced" = true)
    (kspliced : PySem.W.keepIn K (.ref fspliced) = true)
    (gsplice_of_films : PySem.W.nsIn K mainGlobals "splice_of_films" = some (some (.ref fsplice_of_films)))
    (lsplice_of_films : K.lookup fsplice_of_films = some ⟨ocsplice_of_films, odsplice_of_films, .func (PySem.W.fnOf "splice_of_films" "splice_of_films" (defArgs s_splice_of_films) (defBody s_splice_of_films) (defScope s_splice_of_films) .none kVsplice_of_films dcsplice_of_films pmsplice_of_films ansplice_of_films cdsplice_of_films ctsplice_of_films), slsplice_of_films⟩)
    (osplice_of_films : PySem.W.codeIn K cdsplice_of_films "splice_of_films" = true)
    (ksplice_of_films : PySem.W.keepIn K (.ref fsplice_of_films) = true)
    (gstand_at : PySem.W.nsIn K mainGlobals "_stand_at" = some (some (.ref fstand_at)))
    (lstand_at : K.lookup fstand_at = some ⟨ocstand_at, odstand_at, .func (PySem.W.fnOf "_stand_at" "_stand_at" (defArgs s_stand_at) (defBody s_stand_at) (defScope s_stand_at) .none kVstand_at dcstand_at pmstand_at anstand_at cdstand_at ctstand_at), slstand_at⟩)
    (ostand_at : PySem.W.codeIn K cdstand_at "_stand_at" = true)
    (kstand_at : PySem.W.keepIn K (.ref fstand_at) = true)
    (gcoin : PySem.W.nsIn K mainGlobals "_law_coin" = some (some (.ref fcoin)))
    (lcoin : K.lookup fcoin = some ⟨occoin, odcoin, .func (PySem.W.fnOf "_law_coin" "_law_coin" (defArgs s_coin) (defBody s_coin) (defScope s_coin) .none kVcoin dccoin pmcoin ancoin cdcoin ctcoin), slcoin⟩)
    (ocoin : PySem.W.codeIn K cdcoin "_law_coin" = true)
    (kcoin : PySem.W.keepIn K (.ref fcoin) = true)
    (gsigns : PySem.W.nsIn K mainGlobals "_law_fm_signs" = some (some (.ref fsigns)))
    (lsigns : K.lookup fsigns = some ⟨ocsigns, odsigns, .func (PySem.W.fnOf "_law_fm_signs" "_law_fm_signs" (defArgs s_signs) (defBody s_signs) (defScope s_signs) .none kVsigns dcsigns pmsigns ansigns cdsigns ctsigns), slsigns⟩)
    (osigns : PySem.W.codeIn K cdsigns "_law_fm_signs" = true)
    (ksigns : PySem.W.keepIn K (.ref fsigns) = true)
    (gword : PySem.W.nsIn K mainGlobals "_law_fm_word" = some (some (.ref fword)))
    (lword : K.lookup fword = some ⟨ocword, odword, .func (PySem.W.fnOf "_law_fm_word" "_law_fm_word" (defArgs s_word) (defBody s_word) (defScope s_word) .none kVword dcword pmword anword cdword ctword), slword⟩)
    (oword : PySem.W.codeIn K cdword "_law_fm_word" = true)
    (kword : PySem.W.keepIn K (.ref fword) = true)
    (gpair : PySem.W.nsIn K mainGlobals "_law_fm_pair" = some (some (.ref fpair)))
    (lpair : K.lookup fpair = some ⟨ocpair, odpair, .func (PySem.W.fnOf "_law_fm_pair" "_law_fm_pair" (defArgs s_pair) (defBody s_pair) (defScope s_pair) .none kVpair dcpair pmpair anpair cdpair ctpair), slpair⟩)
    (opair : PySem.W.codeIn K cdpair "_law_fm_pair" = true)
    (kpair : PySem.W.keepIn K (.ref fpair) = true)
    (gjoin : PySem.W.nsIn K mainGlobals "_law_fm_join" = some (some (.ref fjoin)))
    (ljoin : K.lookup fjoin = some ⟨ocjoin, odjoin, .func (PySem.W.fnOf "_law_fm_join" "_law_fm_join" (defArgs s_join) (defBody s_join) (defScope s_join) .none kVjoin dcjoin pmjoin anjoin cdjoin ctjoin), sljoin⟩)
    (ojoin : PySem.W.codeIn K cdjoin "_law_fm_join" = true)
    (kjoin : PySem.W.keepIn K (.ref fjoin) = true)
    (gsites : PySem.W.nsIn K mainGlobals "_law_fm_sites" = some (some (.ref fsites)))
    (lsites : K.lookup fsites = some ⟨ocsites, odsites, .func (PySem.W.fnOf "_law_fm_sites" "_law_fm_sites" (defArgs s_sites) (defBody s_sites) (defScope s_sites) .none kVsites dcsites pmsites ansites cdsites ctsites), slsites⟩)
    (osites : PySem.W.codeIn K cdsites "_law_fm_sites" = true)
    (ksites : PySem.W.keepIn K (.ref fsites) = true)
    (godd : PySem.W.nsIn K mainGlobals "_law_fm_odd" = some (some (.ref fodd)))
    (lodd : K.lookup fodd = some ⟨ocodd, ododd, .func (PySem.W.fnOf "_law_fm_odd" "_law_fm_odd" (defArgs s_odd) (defBody s_odd) (defScope s_odd) .none kVodd dcodd pmodd anodd cdodd ctodd), slodd⟩)
    (oodd : PySem.W.codeIn K cdodd "_law_fm_odd" = true)
    (kodd : PySem.W.keepIn K (.ref fodd) = true)
    (gplain : PySem.W.nsIn K mainGlobals "_law_fm_plain" = some (some (.ref fplain)))
    (lplain : K.lookup fplain = some ⟨ocplain, odplain, .func (PySem.W.fnOf "_law_fm_plain" "_law_fm_plain" (defArgs s_plain) (defBody s_plain) (defScope s_plain) .none kVplain dcplain pmplain anplain cdplain ctplain), slplain⟩)
    (oplain : PySem.W.codeIn K cdplain "_law_fm_plain" = true)
    (kplain : PySem.W.keepIn K (.ref fplain) = true)
    (gjoin_fault : PySem.W.nsIn K mainGlobals "_law_fm_join_fault" = some (some (.ref fjoin_fault)))
    (ljoin_fault : K.lookup fjoin_fault = some ⟨ocjoin_fault, odjoin_fault, .func (PySem.W.fnOf "_law_fm_join_fault" "_law_fm_join_fault" (defArgs s_join_fault) (defBody s_join_fault) (defScope s_join_fault) .none kVjoin_fault dcjoin_fault pmjoin_fault anjoin_fault cdjoin_fault ctjoin_fault), sljoin_fault⟩)
    (ojoin_fault : PySem.W.codeIn K cdjoin_fault "_law_fm_join_fault" = true)
    (kjoin_fault : PySem.W.keepIn K (.ref fjoin_fault) = true)
    (gfault : PySem.W.nsIn K mainGlobals "_law_fm_fault" = some (some (.ref ffault)))
    (lfault : K.lookup ffault = some ⟨ocfault, odfault, .func (PySem.W.fnOf "_law_fm_fault" "_law_fm_fault" (defArgs s_fault) (defBody s_fault) (defScope s_fault) .none kVfault dcfault pmfault anfault cdfault ctfault), slfault⟩)
    (ofault : PySem.W.codeIn K cdfault "_law_fm_fault" = true)
    (kfault : PySem.W.keepIn K (.ref ffault) = true)
    (gbad_join : PySem.W.nsIn K mainGlobals "_law_fm_bad_join" = some (some (.ref fbad_join)))
    (lbad_join : K.lookup fbad_join = some ⟨ocbad_join, odbad_join, .func (PySem.W.fnOf "_law_fm_bad_join" "_law_fm_bad_join" (defArgs s_bad_join) (defBody s_bad_join) (defScope s_bad_join) .none kVbad_join dcbad_join pmbad_join anbad_join cdbad_join ctbad_join), slbad_join⟩)
    (obad_join : PySem.W.codeIn K cdbad_join "_law_fm_bad_join" = true)
    (kbad_join : PySem.W.keepIn K (.ref fbad_join) = true)
    (gdue : PySem.W.nsIn K mainGlobals "_law_fm_due" = some (some (.ref fdue)))
    (ldue : K.lookup fdue = some ⟨ocdue, oddue, .func (PySem.W.fnOf "_law_fm_due" "_law_fm_due" (defArgs s_due) (defBody s_due) (defScope s_due) .none kVdue dcdue pmdue andue cddue ctdue), sldue⟩)
    (odue : PySem.W.codeIn K cddue "_law_fm_due" = true)
    (kdue : PySem.W.keepIn K (.ref fdue) = true)
    (gfull : PySem.W.nsIn K mainGlobals "_law_fm_full" = some (some (.ref ffull)))
    (lfull : K.lookup ffull = some ⟨ocfull, odfull, .func (PySem.W.fnOf "_law_fm_full" "_law_fm_full" (defArgs s_full) (defBody s_full) (defScope s_full) .none kVfull dcfull pmfull anfull cdfull ctfull), slfull⟩)
    (ofull : PySem.W.codeIn K cdfull "_law_fm_full" = true)
    (kfull : PySem.W.keepIn K (.ref ffull) = true)
    (gpurse : PySem.W.nsIn K mainGlobals "_law_fm_purse" = some (some (.ref fpurse)))
    (lpurse : K.lookup fpurse = some ⟨ocpurse, odpurse, .func (PySem.W.fnOf "_law_fm_purse" "_law_fm_purse" (defArgs s_purse) (defBody s_purse) (defScope s_purse) .none kVpurse dcpurse pmpurse anpurse cdpurse ctpurse), slpurse⟩)
    (opurse : PySem.W.codeIn K cdpurse "_law_fm_purse" = true)
    (kpurse : PySem.W.keepIn K (.ref fpurse) = true)
    (gtold : PySem.W.nsIn K mainGlobals "_law_told" = some (some (.ref ftold)))
    (ltold : K.lookup ftold = some ⟨octold, odtold, .func (PySem.W.fnOf "_law_told" "_law_told" (defArgs s_told) (defBody s_told) (defScope s_told) .none kVtold dctold pmtold antold cdtold cttold), sltold⟩)
    (otold : PySem.W.codeIn K cdtold "_law_told" = true)
    (ktold : PySem.W.keepIn K (.ref ftold) = true)
    (gany_cut : PySem.W.nsIn K mainGlobals "_law_any_cut" = some (some (.ref fany_cut)))
    (lany_cut : K.lookup fany_cut = some ⟨ocany_cut, odany_cut, .func (PySem.W.fnOf "_law_any_cut" "_law_any_cut" (defArgs s_any_cut) (defBody s_any_cut) (defScope s_any_cut) .none kVany_cut dcany_cut pmany_cut anany_cut cdany_cut ctany_cut), slany_cut⟩)
    (oany_cut : PySem.W.codeIn K cdany_cut "_law_any_cut" = true)
    (kany_cut : PySem.W.keepIn K (.ref fany_cut) = true)
    (gright : PySem.W.nsIn K mainGlobals "_law_right" = some (some (.ref fright)))
    (lright : K.lookup fright = some ⟨ocright, odright, .func (PySem.W.fnOf "_law_right" "_law_right" (defArgs s_right) (defBody s_right) (defScope s_right) .none kVright dcright pmright anright cdright ctright), slright⟩)
    (oright : PySem.W.codeIn K cdright "_law_right" = true)
    (kright : PySem.W.keepIn K (.ref fright) = true)
    (glaw : PySem.W.nsIn K mainGlobals "law" = some (some (.ref flaw)))
    (llaw : K.lookup flaw = some ⟨oclaw, odlaw, .func (PySem.W.fnOf "law" "law" (defArgs s_law) (defBody s_law) (defScope s_law) .none kVlaw dclaw pmlaw anlaw cdlaw ctlaw), sllaw⟩)
    (olaw : PySem.W.codeIn K cdlaw "law" = true)
    (klaw : PySem.W.keepIn K (.ref flaw) = true)
    (zint : PySem.W.nsIn K mainGlobals "int" = some none)
    (zlen : PySem.W.nsIn K mainGlobals "len" = some none)
    (zmax : PySem.W.nsIn K mainGlobals "max" = some none)
    (zmin : PySem.W.nsIn K mainGlobals "min" = some none)
    (zabs : PySem.W.nsIn K mainGlobals "abs" = some none)
    (zrepr : PySem.W.nsIn K mainGlobals "repr" = some none)
    (zisinstance : PySem.W.nsIn K mainGlobals "isinstance" = some none)
    (zlist : PySem.W.nsIn K mainGlobals "list" = some none)
    (ztuple : PySem.W.nsIn K mainGlobals "tuple" = some none)
    (zrange : PySem.W.nsIn K mainGlobals "range" = some none)
    (zsorted : PySem.W.nsIn K mainGlobals "sorted" = some none)
    (zall : PySem.W.nsIn K mainGlobals "all" = some none)
    (nPICTURES : PySem.W.nsIn K mainGlobals "PICTURES" = some (some (.str "abcdefghijklmnopqrstuvwxyz" tPICTURES))) :
    ∃ fd : FuncData, (∀ (s : Shared) (v : Value), BindsTo s fd ⟨[v], []⟩ [("script", v)]) ∧ ∀ base : Heap, K.In base → base.Ns mainGlobals mg → Gd P w K mg base (7 + 1) fa fd ["script"] (spLaw K) := by
  have e := hfa.symm.trans (PySem.W.mg_of X G glaw)
  cases e
  have T : Txt K mg ⟨c0, c1, c2, c3, c4, c5, c6, fI, fis_piece, fis_film, fcheck_film, fcheck_piece, fcheck_rule, fspliced, fsplice_of_films, fstand_at, fcoin, fsigns, fword, fpair, fjoin, fsites, fodd, fplain, fjoin_fault, ffault, fbad_join, fdue, ffull, fpurse, ftold, fany_cut, fright, fa, tPICTURES⟩ := {
    g_FilmError := PySem.W.mg_of X G a0
    g_InvalidFilm := PySem.W.mg_of X G a1
    g_InvalidPiece := PySem.W.mg_of X G a2
    g_InvalidRule := PySem.W.mg_of X G a3
    g_UnknownStrip := PySem.W.mg_of X G a4
    g_UnknownRule := PySem.W.mg_of X G a5
    g_NoSplice := PySem.W.mg_of X G a6
    e_FilmError := ⟨⟨⟨_, _, _, _, _, _, _, _, _, _, _, _, _, _, _, x0, r0⟩, sa0, ex0, ty0, kp0⟩, ini0, tyI, no0, ⟨ga0, gg0, ex0, hd0⟩, ⟨ic0, ga0, gg0, ex0, kl0, spO, tkO, ob0⟩⟩
    e_InvalidFilm := ⟨⟨⟨_, _, _, _, _, _, _, _, _, _, _, _, _, _, _, x1, r1⟩, sa1, ex1, ty1, kp1⟩, ini1, tyI, no1, ⟨ga1, gg1, ex1, hd1⟩, ⟨ic1, ga1, gg1, ex1, kl1, spO, tkO, ob1⟩⟩
    e_InvalidPiece := ⟨⟨⟨_, _, _, _, _, _, _, _, _, _, _, _, _, _, _, x2, r2⟩, sa2, ex2, ty2, kp2⟩, ini2, tyI, no2, ⟨ga2, gg2, ex2, hd2⟩, ⟨ic2, ga2, gg2, ex2, kl2, spO, tkO, ob2⟩⟩
    e_InvalidRule := ⟨⟨⟨_, _, _, _, _, _, _, _, _, _, _, _, _, _, _, x3, r3⟩, sa3, ex3, ty3, kp3⟩, ini3, tyI, no3, ⟨ga3, gg3, ex3, hd3⟩, ⟨ic3, ga3, gg3, ex3, kl3, spO, tkO, ob3⟩⟩
    e_UnknownStrip := ⟨⟨⟨_, _, _, _, _, _, _, _, _, _, _, _, _, _, _, x4, r4⟩, sa4, ex4, ty4, kp4⟩, ini4, tyI, no4, ⟨ga4, gg4, ex4, hd4⟩, ⟨ic4, ga4, gg4, ex4, kl4, spO, tkO, ob4⟩⟩
    e_UnknownRule := ⟨⟨⟨_, _, _, _, _, _, _, _, _, _, _, _, _, _, _, x5, r5⟩, sa5, ex5, ty5, kp5⟩, ini5, tyI, no5, ⟨ga5, gg5, ex5, hd5⟩, ⟨ic5, ga5, gg5, ex5, kl5, spO, tkO, ob5⟩⟩
    e_NoSplice := ⟨⟨⟨_, _, _, _, _, _, _, _, _, _, _, _, _, _, _, x6, r6⟩, sa6, ex6, ty6, kp6⟩, ini6, tyI, no6, ⟨ga6, gg6, ex6, hd6⟩, ⟨ic6, ga6, gg6, ex6, kl6, spO, tkO, ob6⟩⟩
    subs := fun i j hi hj => match i, hi with
      | 0, _ => (match j, hj with | 0, _ => s0_0 | 1, _ => s0_1 | 2, _ => s0_2 | 3, _ => s0_3 | 4, _ => s0_4 | 5, _ => s0_5 | 6, _ => s0_6 | (_ + 7), h => absurd h (by omega))
      | 1, _ => (match j, hj with | 0, _ => s1_0 | 1, _ => s1_1 | 2, _ => s1_2 | 3, _ => s1_3 | 4, _ => s1_4 | 5, _ => s1_5 | 6, _ => s1_6 | (_ + 7), h => absurd h (by omega))
      | 2, _ => (match j, hj with | 0, _ => s2_0 | 1, _ => s2_1 | 2, _ => s2_2 | 3, _ => s2_3 | 4, _ => s2_4 | 5, _ => s2_5 | 6, _ => s2_6 | (_ + 7), h => absurd h (by omega))
      | 3, _ => (match j, hj with | 0, _ => s3_0 | 1, _ => s3_1 | 2, _ => s3_2 | 3, _ => s3_3 | 4, _ => s3_4 | 5, _ => s3_5 | 6, _ => s3_6 | (_ + 7), h => absurd h (by omega))
      | 4, _ => (match j, hj with | 0, _ => s4_0 | 1, _ => s4_1 | 2, _ => s4_2 | 3, _ => s4_3 | 4, _ => s4_4 | 5, _ => s4_5 | 6, _ => s4_6 | (_ + 7), h => absurd h (by omega))
      | 5, _ => (match j, hj with | 0, _ => s5_0 | 1, _ => s5_1 | 2, _ => s5_2 | 3, _ => s5_3 | 4, _ => s5_4 | 5, _ => s5_5 | 6, _ => s5_6 | (_ + 7), h => absurd h (by omega))
      | 6, _ => (match j, hj with | 0, _ => s6_0 | 1, _ => s6_1 | 2, _ => s6_2 | 3, _ => s6_3 | 4, _ => s6_4 | 5, _ => s6_5 | 6, _ => s6_6 | (_ + 7), h => absurd h (by omega))
      | (_ + 7), h => absurd h (by omega)
    cls := fun i hi => match i, hi with | 0, _ => ic0 | 1, _ => ic1 | 2, _ => ic2 | 3, _ => ic3 | 4, _ => ic4 | 5, _ => ic5 | 6, _ => ic6 | (_ + 7), h => absurd h (by omega)
    g_is_piece := PySem.W.mg_of X G gis_piece
    k_is_piece := kis_piece
    g_is_film := PySem.W.mg_of X G gis_film
    k_is_film := kis_film
    g_check_film := PySem.W.mg_of X G gcheck_film
    k_check_film := kcheck_film
    g_check_piece := PySem.W.mg_of X G gcheck_piece
    k_check_piece := kcheck_piece
    g_check_rule := PySem.W.mg_of X G gcheck_rule
    k_check_rule := kcheck_rule
    g_spliced := PySem.W.mg_of X G gspliced
    k_spliced := kspliced
    g_splice_of_films := PySem.W.mg_of X G gsplice_of_films
    k_splice_of_films := ksplice_of_films
    g_stand_at := PySem.W.mg_of X G gstand_at
    k_stand_at := kstand_at
    g_coin := PySem.W.mg_of X G gcoin
    k_coin := kcoin
    g_signs := PySem.W.mg_of X G gsigns
    k_signs := ksigns
    g_word := PySem.W.mg_of X G gword
    k_word := kword
    g_pair := PySem.W.mg_of X G gpair
    k_pair := kpair
    g_join := PySem.W.mg_of X G gjoin
    k_join := kjoin
    g_sites := PySem.W.mg_of X G gsites
    k_sites := ksites
    g_odd := PySem.W.mg_of X G godd
    k_odd := kodd
    g_plain := PySem.W.mg_of X G gplain
    k_plain := kplain
    g_join_fault := PySem.W.mg_of X G gjoin_fault
    k_join_fault := kjoin_fault
    g_fault := PySem.W.mg_of X G gfault
    k_fault := kfault
    g_bad_join := PySem.W.mg_of X G gbad_join
    k_bad_join := kbad_join
    g_due := PySem.W.mg_of X G gdue
    k_due := kdue
    g_full := PySem.W.mg_of X G gfull
    k_full := kfull
    g_purse := PySem.W.mg_of X G gpurse
    k_purse := kpurse
    g_told := PySem.W.mg_of X G gtold
    k_told := ktold
    g_any_cut := PySem.W.mg_of X G gany_cut
    k_any_cut := kany_cut
    g_right := PySem.W.mg_of X G gright
    k_right := kright
    g_law := PySem.W.mg_of X G glaw
    k_law := klaw
    b_int := PySem.W.mg_none_of X G zint
    b_len := PySem.W.mg_none_of X G zlen
    b_max := PySem.W.mg_none_of X G zmax
    b_min := PySem.W.mg_none_of X G zmin
    b_abs := PySem.W.mg_none_of X G zabs
    b_repr := PySem.W.mg_none_of X G zrepr
    b_isinstance := PySem.W.mg_none_of X G zisinstance
    b_list := PySem.W.mg_none_of X G zlist
    b_tuple := PySem.W.mg_none_of X G ztuple
    b_range := PySem.W.mg_none_of X G zrange
    b_sorted := PySem.W.mg_none_of X G zsorted
    b_all := PySem.W.mg_none_of X G zall
    g_PICTURES := PySem.W.mg_of X G nPICTURES  }
  have Fis_piece := fun_mk (st := s_is_piece) lis_piece ois_piece kis_piece
  have bis_piece := Fis_piece.binds (ps := ["text"]) fun _ _ _ _ _ _ us hl => match us, hl with | [_], _ => rfl
  have Fis_film := fun_mk (st := s_is_film) lis_film ois_film kis_film
  have bis_film := Fis_film.binds (ps := ["text"]) fun _ _ _ _ _ _ us hl => match us, hl with | [_], _ => rfl
  have Fcheck_film := fun_mk (st := s_check_film) lcheck_film ocheck_film kcheck_film
  have bcheck_film := Fcheck_film.binds (ps := ["film"]) fun _ _ _ _ _ _ us hl => match us, hl with | [_], _ => rfl
  have Fcheck_piece := fun_mk (st := s_check_piece) lcheck_piece ocheck_piece kcheck_piece
  have bcheck_piece := Fcheck_piece.binds (ps := ["piece"]) fun _ _ _ _ _ _ us hl => match us, hl with | [_], _ => rfl
  have Fcheck_rule := fun_mk (st := s_check_rule) lcheck_rule ocheck_rule kcheck_rule
  have bcheck_rule := Fcheck_rule.binds (ps := ["rule"]) fun _ _ _ _ _ _ us hl => match us, hl with | [_], _ => rfl
  have Fspliced := fun_mk (st := s_spliced) lspliced ospliced kspliced
  have bspliced := Fspliced.binds (ps := ["rule", "film", "cut", "other", "place"]) fun _ _ _ _ _ _ us hl => match us, hl with | [_, _, _, _, _], _ => rfl
  have Fsplice_of_films := fun_mk (st := s_splice_of_films) lsplice_of_films osplice_of_films ksplice_of_films
  have bsplice_of_films := Fsplice_of_films.binds (ps := ["rule", "film", "cut", "other", "place"]) fun _ _ _ _ _ _ us hl => match us, hl with | [_, _, _, _, _], _ => rfl
  have Fstand_at := fun_mk (st := s_stand_at) lstand_at ostand_at kstand_at
  have bstand_at := Fstand_at.binds (ps := ["left", "right", "film", "cut"]) fun _ _ _ _ _ _ us hl => match us, hl with | [_, _, _, _], _ => rfl
  have Fcoin := fun_mk (st := s_coin) lcoin ocoin kcoin
  have bcoin := Fcoin.binds (ps := ["purse", "many"]) fun _ _ _ _ _ _ us hl => match us, hl with | [_, _], _ => rfl
  have Fsigns := fun_mk (st := s_signs) lsigns osigns ksigns
  have bsigns := Fsigns.binds (ps := ["sack", "high"]) fun _ _ _ _ _ _ us hl => match us, hl with | [_, _], _ => rfl
  have Fword := fun_mk (st := s_word) lword oword kword
  have bword := Fword.binds (ps := ["sack", "signs", "low", "high"]) fun _ _ _ _ _ _ us hl => match us, hl with | [_, _, _, _], _ => rfl
  have Fpair := fun_mk (st := s_pair) lpair opair kpair
  have bpair := Fpair.binds (ps := ["sack", "reels", "signs", "high", "is_first"]) fun _ _ _ _ _ _ us hl => match us, hl with | [_, _, _, _, _], _ => rfl
  have Fjoin := fun_mk (st := s_join) ljoin ojoin kjoin
  have bjoin := Fjoin.binds (ps := ["sack", "reels", "signs", "high"]) fun _ _ _ _ _ _ us hl => match us, hl with | [_, _, _, _], _ => rfl
  have Fsites := fun_mk (st := s_sites) lsites osites ksites
  have bsites := Fsites.binds (ps := ["left", "right", "word"]) fun _ _ _ _ _ _ us hl => match us, hl with | [_, _, _], _ => rfl
  have Fodd := fun_mk (st := s_odd) lodd oodd kodd
  have bodd := Fodd.binds (ps := ["sack", "signs"]) fun _ _ _ _ _ _ us hl => match us, hl with | [_, _], _ => rfl
  have Fplain := fun_mk (st := s_plain) lplain oplain kplain
  have bplain := Fplain.binds (ps := ["word"]) fun _ _ _ _ _ _ us hl => match us, hl with | [_], _ => rfl
  have Fjoin_fault := fun_mk (st := s_join_fault) ljoin_fault ojoin_fault kjoin_fault
  have bjoin_fault := Fjoin_fault.binds (ps := ["join"]) fun _ _ _ _ _ _ us hl => match us, hl with | [_], _ => rfl
  have Ffault := fun_mk (st := s_fault) lfault ofault kfault
  have bfault := Ffault.binds (ps := ["reels", "joins"]) fun _ _ _ _ _ _ us hl => match us, hl with | [_, _], _ => rfl
  have Fbad_join := fun_mk (st := s_bad_join) lbad_join obad_join kbad_join
  have bbad_join := Fbad_join.binds (ps := ["sack", "signs", "join"]) fun _ _ _ _ _ _ us hl => match us, hl with | [_, _, _], _ => rfl
  have Fdue := fun_mk (st := s_due) ldue odue kdue
  have bdue := Fdue.binds (ps := ["fault"]) fun _ _ _ _ _ _ us hl => match us, hl with | [_], _ => rfl
  have Ffull := fun_mk (st := s_full) lfull ofull kfull
  have bfull := Ffull.binds (ps := ["sack", "signs", "join", "size"]) fun _ _ _ _ _ _ us hl => match us, hl with | [_, _, _, _], _ => rfl
  have Fpurse := fun_mk (st := s_purse) lpurse opurse kpurse
  have bpurse := Fpurse.binds (ps := ["script", "spot"]) fun _ _ _ _ _ _ us hl => match us, hl with | [_, _], _ => rfl
  have Ftold := fun_mk (st := s_told) ltold otold ktold
  have btold := Ftold.binds (ps := ["join", "word", "gap", "mate", "slot", "by_name"]) fun _ _ _ _ _ _ us hl => match us, hl with | [_, _, _, _, _, _], _ => rfl
  have Fany_cut := fun_mk (st := s_any_cut) lany_cut oany_cut kany_cut
  have bany_cut := Fany_cut.binds (ps := ["sack", "spots", "word"]) fun _ _ _ _ _ _ us hl => match us, hl with | [_, _, _], _ => rfl
  have Fright := fun_mk (st := s_right) lright oright kright
  have bright := Fright.binds (ps := ["sack"]) fun _ _ _ _ _ _ us hl => match us, hl with | [_], _ => rfl
  have Flaw := fun_mk (st := s_law) llaw olaw klaw
  have FI := fun_mk (st := s_FilmError___init__) lI oI kI
  have bI := FI.binds (ps := ["self", "value"]) fun _ _ _ _ _ _ us hl => match us, hl with | [_, _], _ => rfl
  refine ⟨PySem.W.fnOf "law" "law" (defArgs s_law) (defBody s_law) (defScope s_law) .none kVlaw dclaw pmlaw anlaw cdlaw ctlaw, fun s v => .of_eq rfl, fun base _ _ => ?_⟩
  have kbspliced := kw1 Fspliced (ps := ["rule", "film", "cut", "other", "place"]) (n := 0) (ks := ["rule", "film", "cut", "other", "place"]) (fun _ _ _ _ _ _ us ws h1 h2 => match us, ws, h1, h2 with | [], [_, _, _, _, _], _, _ => rfl)
  have cini : Cal P w K mg base 1 fI _ ["self", "value"] (spErrInit K) := ⟨ok_init FI, bI⟩
  have cpiece : Cal P w K mg base 1 fis_piece _ ["text"] spPiece := ⟨ok_is_piece Fis_piece T, bis_piece⟩
  have cfilm : Cal P w K mg base 2 fis_film _ ["text"] spFilm := ⟨ok_is_film Fis_film T cpiece, bis_film⟩
  have ccf : CalX P w K mg base 3 fcheck_film _ ["film"] (spChkFilm _) := ⟨ok_check_film Fcheck_film T cini cfilm, bcheck_film⟩
  have ccp : CalX P w K mg base 3 fcheck_piece _ ["piece"] (spChkPiece _) := ⟨ok_check_piece Fcheck_piece T cini cpiece, bcheck_piece⟩
  have ccr : CalX P w K mg base 4 fcheck_rule _ ["rule"] (spChkRule K _) := ⟨ok_check_rule Fcheck_rule T cini ccp, bcheck_rule⟩
  have cst : Cal P w K mg base 1 fstand_at _ ["left", "right", "film", "cut"] spStand := ⟨ok_stand_at Fstand_at T, bstand_at⟩
  have cso : CalX P w K mg base 4 fsplice_of_films _ ["rule", "film", "cut", "other", "place"] (spSpOf K _) := ⟨ok_splice_of Fsplice_of_films T cini cst, bsplice_of_films⟩
  have csp : CalX P w K mg base 5 fspliced _ ["rule", "film", "cut", "other", "place"] (spSpliced K _) := ⟨ok_spliced Fspliced T cini ccr ccf cso, bspliced⟩
  have ccoin : Cal P w K mg base 1 fcoin _ ["purse", "many"] spCoin := ⟨ok_coin Fcoin T, bcoin⟩
  have cword : Cal P w K mg base 2 fword _ ["sack", "signs", "low", "high"] spWord := ⟨ok_word Fword T ccoin, bword⟩
  have csigns : Cal P w K mg base 2 fsigns _ ["sack", "high"] spSigns := ⟨ok_signs Fsigns T ccoin, bsigns⟩
  have cpair : Cal P w K mg base 3 fpair _ ["sack", "reels", "signs", "high", "is_first"] (spPair K) := ⟨ok_pair Fpair T ccoin cword, bpair⟩
  have cjoin : Cal P w K mg base 4 fjoin _ ["sack", "reels", "signs", "high"] (spJoin K) := ⟨ok_join Fjoin T cpair, bjoin⟩
  have cfull : Cal P w K mg base 3 ffull _ ["sack", "signs", "join", "size"] (spFull K) := ⟨ok_full Ffull T ccoin cword, bfull⟩
  have codd : Cal P w K mg base 3 fodd _ ["sack", "signs"] spOdd := ⟨ok_odd Fodd T ccoin cword, bodd⟩
  have cbad : Cal P w K mg base 4 fbad_join _ ["sack", "signs", "join"] (spBad K) := ⟨ok_bad_join Fbad_join T ccoin cword codd, bbad_join⟩
  have cplain : Cal P w K mg base 1 fplain _ ["word"] spPlain := ⟨ok_plain Fplain T, bplain⟩
  have cjf : Cal P w K mg base 2 fjoin_fault _ ["join"] (spJoinFault K) := ⟨ok_join_fault Fjoin_fault T cplain, bjoin_fault⟩
  have cfa : Cal P w K mg base 3 ffault _ ["reels", "joins"] (spFault K) := ⟨ok_fault Ffault T cplain cjf, bfault⟩
  have cdue : Cal P w K mg base 1 fdue _ ["fault"] (spDue K) := ⟨ok_due Fdue T, bdue⟩
  have csites : Cal P w K mg base 1 fsites _ ["left", "right", "word"] spSites := ⟨ok_sites Fsites T, bsites⟩
  have ctold : Cal P w K mg base 6 ftold _ ["join", "word", "gap", "mate", "slot", "by_name"] (spTold K) := ⟨ok_told Ftold T csp kbspliced, btold⟩
  have cany : Cal P w K mg base 2 fany_cut _ ["sack", "spots", "word"] (spAnyCut K) := ⟨ok_any_cut Fany_cut T ccoin, bany_cut⟩
  exact ok_law Flaw T ⟨ok_purse Fpurse T, bpurse⟩ ⟨ok_right Fright T ccoin csigns cword cjoin cfull cbad codd cjf cfa ctold cdue csites cany, bright⟩
end K7
open PySem PySem.W PyProof.Rows
set_option maxRecDepth 100000 in
set_option maxHeartbeats 0 in
theorem PySem.Challenge.cw_splicedfilms_k07_splices_holds : PySem.Challenge.rw_splicedfilms_k07_splices.Holds := by
  w_on; o_law; k_head; (case hw => w_witness2)
  k_fill
  refine Sf.walkG (l := PySem.Challenge.rw_splicedfilms_k07_splices) (k := 7 + 1) (x := "script") (sp := K7.spLaw) rfl (by decide) rfl ⟨rfl, by decide, by decide⟩ (fun w h Y => PySem.W.kIn_of Y) ?F (fun K H a ns hl hb hS => ⟨a, ns, rfl, hS, hl, hb, fun _ => rfl⟩)
  case F =>
    intro w mg fa h KX G hmg
    refine' K7.all_mk KX G hmg ?a0 ?x0 ?r0 ?sa0 ?ga0 ?gg0 ?no0 ?ini0 ?kp0 ?ex0 ?ty0 ?kl0 ?hd0 ?ic0 ?ob0 ?v0 ?a1 ?x1 ?r1 ?sa1 ?ga1 ?gg1 ?no1 ?ini1 ?kp1 ?ex1 ?ty1 ?kl1 ?hd1 ?ic1 ?ob1 ?v1 ?a2 ?x2 ?r2 ?sa2 ?ga2 ?gg2 ?no2 ?ini2 ?kp2 ?ex2 ?ty2 ?kl2 ?hd2 ?ic2 ?ob2 ?v2 ?a3 ?x3 ?r3 ?sa3 ?ga3 ?gg3 ?no3 ?ini3 ?kp3 ?ex3 ?ty3 ?kl3 ?hd3 ?ic3 ?ob3 ?v3 ?a4 ?x4 ?r4 ?sa4 ?ga4 ?gg4 ?no4 ?ini4 ?kp4 ?ex4 ?ty4 ?kl4 ?hd4 ?ic4 ?ob4 ?v4 ?a5 ?x5 ?r5 ?sa5 ?ga5 ?gg5 ?no5 ?ini5 ?kp5 ?ex5 ?ty5 ?kl5 ?hd5 ?ic5 ?ob5 ?v5 ?a6 ?x6 ?r6 ?sa6 ?ga6 ?gg6 ?no6 ?ini6 ?kp6 ?ex6 ?ty6 ?kl6 ?hd6 ?ic6 ?ob6 ?v6 ?spO ?tkO ?tyI ?s0_0 ?s0_1 ?s0_2 ?s0_3 ?s0_4 ?s0_5 ?s0_6 ?s1_0 ?s1_1 ?s1_2 ?s1_3 ?s1_4 ?s1_5 ?s1_6 ?s2_0 ?s2_1 ?s2_2 ?s2_3 ?s2_4 ?s2_5 ?s2_6 ?s3_0 ?s3_1 ?s3_2 ?s3_3 ?s3_4 ?s3_5 ?s3_6 ?s4_0 ?s4_1 ?s4_2 ?s4_3 ?s4_4 ?s4_5 ?s4_6 ?s5_0 ?s5_1 ?s5_2 ?s5_3 ?s5_4 ?s5_5 ?s5_6 ?s6_0 ?s6_1 ?s6_2 ?s6_3 ?s6_4 ?s6_5 ?s6_6 ?lI ?oI ?kI ?gis_piece ?lis_piece ?ois_piece ?kis_piece ?gis_film ?lis_film ?ois_film ?kis_film ?gcheck_film ?lcheck_film ?ocheck_film ?kcheck_film ?gcheck_piece ?lcheck_piece ?ocheck_piece ?kcheck_piece ?gcheck_rule ?lcheck_rule ?ocheck_rule ?kcheck_rule ?gspliced ?lspliced ?ospliced ?kspliced ?gsplice_of_films ?lsplice_of_films ?osplice_of_films ?ksplice_of_films ?gstand_at ?lstand_at ?ostand_at ?kstand_at ?gcoin ?lcoin ?ocoin ?kcoin ?gsigns ?lsigns ?osigns ?ksigns ?gword ?lword ?oword ?kword ?gpair ?lpair ?opair ?kpair ?gjoin ?ljoin ?ojoin ?kjoin ?gsites ?lsites ?osites ?ksites ?godd ?lodd ?oodd ?kodd ?gplain ?lplain ?oplain ?kplain ?gjoin_fault ?ljoin_fault ?ojoin_fault ?kjoin_fault ?gfault ?lfault ?ofault ?kfault ?gbad_join ?lbad_join ?obad_join ?kbad_join ?gdue ?ldue ?odue ?kdue ?gfull ?lfull ?ofull ?kfull ?gpurse ?lpurse ?opurse ?kpurse ?gtold ?ltold ?otold ?ktold ?gany_cut ?lany_cut ?oany_cut ?kany_cut ?gright ?lright ?oright ?kright ?glaw ?llaw ?olaw ?klaw ?zint ?zlen ?zmax ?zmin ?zabs ?zrepr ?zisinstance ?zlist ?ztuple ?zrange ?zsorted ?zall ?nPICTURES
    (case a0 => k_is)
    (case x0 => k_is)
    (case r0 => first | rfl | decide +kernel)
    (case sa0 => k_is)
    (case ga0 => k_is)
    (case gg0 => k_is)
    (case no0 => k_is)
    (case ini0 => k_is)
    (case kp0 => k_is)
    (case ex0 => k_is)
    (case ty0 => k_is)
    (case kl0 => k_is)
    (case hd0 => k_is)
    (case ic0 => k_is)
    (case ob0 => k_is)
    (case v0 => k_is)
    (case a1 => k_is)
    (case x1 => k_is)
    (case r1 => first | rfl | decide +kernel)
    (case sa1 => k_is)
    (case ga1 => k_is)
    (case gg1 => k_is)
    (case no1 => k_is)
    (case ini1 => k_is)
    (case kp1 => k_is)
    (case ex1 => k_is)
    (case ty1 => k_is)
    (case kl1 => k_is)
    (case hd1 => k_is)
    (case ic1 => k_is)
    (case ob1 => k_is)
    (case v1 => k_is)
    (case a2 => k_is)
    (case x2 => k_is)
    (case r2 => first | rfl | decide +kernel)
    (case sa2 => k_is)
    (case ga2 => k_is)
    (case gg2 => k_is)
    (case no2 => k_is)
    (case ini2 => k_is)
    (case kp2 => k_is)
    (case ex2 => k_is)
    (case ty2 => k_is)
    (case kl2 => k_is)
    (case hd2 => k_is)
    (case ic2 => k_is)
    (case ob2 => k_is)
    (case v2 => k_is)
    (case a3 => k_is)
    (case x3 => k_is)
    (case r3 => first | rfl | decide +kernel)
    (case sa3 => k_is)
    (case ga3 => k_is)
    (case gg3 => k_is)
    (case no3 => k_is)
    (case ini3 => k_is)
    (case kp3 => k_is)
    (case ex3 => k_is)
    (case ty3 => k_is)
    (case kl3 => k_is)
    (case hd3 => k_is)
    (case ic3 => k_is)
    (case ob3 => k_is)
    (case v3 => k_is)
    (case a4 => k_is)
    (case x4 => k_is)
    (case r4 => first | rfl | decide +kernel)
    (case sa4 => k_is)
    (case ga4 => k_is)
    (case gg4 => k_is)
    (case no4 => k_is)
    (case ini4 => k_is)
    (case kp4 => k_is)
    (case ex4 => k_is)
    (case ty4 => k_is)
    (case kl4 => k_is)
    (case hd4 => k_is)
    (case ic4 => k_is)
    (case ob4 => k_is)
    (case v4 => k_is)
    (case a5 => k_is)
    (case x5 => k_is)
    (case r5 => first | rfl | decide +kernel)
    (case sa5 => k_is)
    (case ga5 => k_is)
    (case gg5 => k_is)
    (case no5 => k_is)
    (case ini5 => k_is)
    (case kp5 => k_is)
    (case ex5 => k_is)
    (case ty5 => k_is)
    (case kl5 => k_is)
    (case hd5 => k_is)
    (case ic5 => k_is)
    (case ob5 => k_is)
    (case v5 => k_is)
    (case a6 => k_is)
    (case x6 => k_is)
    (case r6 => first | rfl | decide +kernel)
    (case sa6 => k_is)
    (case ga6 => k_is)
    (case gg6 => k_is)
    (case no6 => k_is)
    (case ini6 => k_is)
    (case kp6 => k_is)
    (case ex6 => k_is)
    (case ty6 => k_is)
    (case kl6 => k_is)
    (case hd6 => k_is)
    (case ic6 => k_is)
    (case ob6 => k_is)
    (case v6 => k_is)
    (case spO => k_is)
    (case tkO => k_is)
    (case tyI => k_is)
    (case s0_0 => k_is)
    (case s0_1 => k_is)
    (case s0_2 => k_is)
    (case s0_3 => k_is)
    (case s0_4 => k_is)
    (case s0_5 => k_is)
    (case s0_6 => k_is)
    (case s1_0 => k_is)
    (case s1_1 => k_is)
    (case s1_2 => k_is)
    (case s1_3 => k_is)
    (case s1_4 => k_is)
    (case s1_5 => k_is)
    (case s1_6 => k_is)
    (case s2_0 => k_is)
    (case s2_1 => k_is)
    (case s2_2 => k_is)
    (case s2_3 => k_is)
    (case s2_4 => k_is)
    (case s2_5 => k_is)
    (case s2_6 => k_is)
    (case s3_0 => k_is)
    (case s3_1 => k_is)
    (case s3_2 => k_is)
    (case s3_3 => k_is)
    (case s3_4 => k_is)
    (case s3_5 => k_is)
    (case s3_6 => k_is)
    (case s4_0 => k_is)
    (case s4_1 => k_is)
    (case s4_2 => k_is)
    (case s4_3 => k_is)
    (case s4_4 => k_is)
    (case s4_5 => k_is)
    (case s4_6 => k_is)
    (case s5_0 => k_is)
    (case s5_1 => k_is)
    (case s5_2 => k_is)
    (case s5_3 => k_is)
    (case s5_4 => k_is)
    (case s5_5 => k_is)
    (case s5_6 => k_is)
    (case s6_0 => k_is)
    (case s6_1 => k_is)
    (case s6_2 => k_is)
    (case s6_3 => k_is)
    (case s6_4 => k_is)
    (case s6_5 => k_is)
    (case s6_6 => k_is)
    (case lI => k_is)
    (case oI => k_is)
    (case kI => k_is)
    (case gis_piece => k_is)
    (case lis_piece => k_is)
    (case ois_piece => k_is)
    (case kis_piece => k_is)
    (case gis_film => k_is)
    (case lis_film => k_is)
    (case ois_film => k_is)
    (case kis_film => k_is)
    (case gcheck_film => k_is)
    (case lcheck_film => k_is)
    (case ocheck_film => k_is)
    (case kcheck_film => k_is)
    (case gcheck_piece => k_is)
    (case lcheck_piece => k_is)
    (case ocheck_piece => k_is)
    (case kcheck_piece => k_is)
    (case gcheck_rule => k_is)
    (case lcheck_rule => k_is)
    (case ocheck_rule => k_is)
    (case kcheck_rule => k_is)
    (case gspliced => k_is)
    (case lspliced => k_is)
    (case ospliced => k_is)
    (case kspliced => k_is)
    (case gsplice_of_films => k_is)
    (case lsplice_of_films => k_is)
    (case osplice_of_films => k_is)
    (case ksplice_of_films => k_is)
    (case gstand_at => k_is)
    (case lstand_at => k_is)
    (case ostand_at => k_is)
    (case kstand_at => k_is)
    (case gcoin => k_is)
    (case lcoin => k_is)
    (case ocoin => k_is)
    (case kcoin => k_is)
    (case gsigns => k_is)
    (case lsigns => k_is)
    (case osigns => k_is)
    (case ksigns => k_is)
    (case gword => k_is)
    (case lword => k_is)
    (case oword => k_is)
    (case kword => k_is)
    (case gpair => k_is)
    (case lpair => k_is)
    (case opair => k_is)
    (case kpair => k_is)
    (case gjoin => k_is)
    (case ljoin => k_is)
    (case ojoin => k_is)
    (case kjoin => k_is)
    (case gsites => k_is)
    (case lsites => k_is)
    (case osites => k_is)
    (case ksites => k_is)
    (case godd => k_is)
    (case lodd => k_is)
    (case oodd => k_is)
    (case kodd => k_is)
    (case gplain => k_is)
    (case lplain => k_is)
    (case oplain => k_is)
    (case kplain => k_is)
    (case gjoin_fault => k_is)
    (case ljoin_fault => k_is)
    (case ojoin_fault => k_is)
    (case kjoin_fault => k_is)
    (case gfault => k_is)
    (case lfault => k_is)
    (case ofault => k_is)
    (case kfault => k_is)
    (case gbad_join => k_is)
    (case lbad_join => k_is)
    (case obad_join => k_is)
    (case kbad_join => k_is)
    (case gdue => k_is)
    (case ldue => k_is)
    (case odue => k_is)
    (case kdue => k_is)
    (case gfull => k_is)
    (case lfull => k_is)
    (case ofull => k_is)
    (case kfull => k_is)
    (case gpurse => k_is)
    (case lpurse => k_is)
    (case opurse => k_is)
    (case kpurse => k_is)
    (case gtold => k_is)
    (case ltold => k_is)
    (case otold => k_is)
    (case ktold => k_is)
    (case gany_cut => k_is)
    (case lany_cut => k_is)
    (case oany_cut => k_is)
    (case kany_cut => k_is)
    (case gright => k_is)
    (case lright => k_is)
    (case oright => k_is)
    (case kright => k_is)
    (case glaw => k_is)
    (case llaw => k_is)
    (case olaw => k_is)
    (case klaw => k_is)
    (case zint => k_is)
    (case zlen => k_is)
    (case zmax => k_is)
    (case zmin => k_is)
    (case zabs => k_is)
    (case zrepr => k_is)
    (case zisinstance => k_is)
    (case zlist => k_is)
    (case ztuple => k_is)
    (case zrange => k_is)
    (case zsorted => k_is)
    (case zall => k_is)
    (case nPICTURES => k_is)
#print axioms PySem.Challenge.cw_splicedfilms_k07_splices_holds
